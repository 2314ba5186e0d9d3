import Derived.Test.YtiogkdafmgdbgaaGreatJ05
import Derived.Test.YtiogkdafmgdbgaaGreatJ09
import Derived.Test.YtiogkdafmgdbgaaGreatJ07
import Derived.Test.YtiogkdafmgdbgaaGreatIter
import Derived.Test.YtiogkdafmgdbgaaGreatJ08
/- Lists in maps by their names: asks. -/
namespace Go.Proofs.YtiogkdafmgdbgaaGreat.A
open Go.RowKit Go.Maps Go.WideMaps
set_option linter.unusedVariables false

theorem lawV : Keyed Tryz.prog 9 := string_keyed Tryz.underlying9
def RVL (xs : List Value) : Option (DataW AskD × List MemPlace) :=
  match xs with
  | [.string h', .string c', .int .i64 f', .int .i64 t'] => some (.held ⟨h', c', f', t'⟩, [])
  | _ => none
/-- How an element of the map is read. -/
def RV (v : Value) : Option (DataW AskD × List MemPlace) :=
  match v with
  | .agg xs => RVL xs.toList
  | _ => none
theorem RV_inv {v : Value} {r : AskD} {ps : List MemPlace} (h : RV v = some (.held r, ps)) : v = .agg #[.string r.h, .string r.c, .int .i64 r.f, .int .i64 r.t] := by
  unfold RV at h
  split at h
  · rename_i xs
    obtain ⟨l⟩ := xs
    simp only at h
    unfold RVL at h
    split at h
    · simp only [Option.some.injEq, Prod.mk.injEq, DataW.held.injEq] at h
      obtain ⟨rfl, -⟩ := h
      rfl
    · cases h
  · cases h
def keyV (r : AskD) : List UInt8 := r.h.data.toList
def dec (rs : List AskD) : DataW AskD := Ord.dec keyV rs
def Srt (rs : List AskD) : Prop := Ord.Srt keyV rs
theorem srt_asc {rs : List AskD} (h : AscN rs rs.length) : Srt rs :=
  Ord.srt_of keyV rs (fun j q r hq hr => by
    have h1 := h j q r (by have := (List.getElem?_eq_some_iff.1 hr).1; omega) hq hr
    rw [Ord.less_before, ByteArray.toList_eq, ByteArray.toList_eq] at h1
    exact h1)
theorem mapv_below {x y : World} {b n : Nat} {D : DataW AskD} (h : x.ownsMap Tryz.prog 9 RV b n D) (hb : Below x.heap.size x y) : y.ownsMap Tryz.prog 9 RV b n D :=
  h.kept (row := none) ⟨hb.os, hb.tape, hb.output, hb.size, fun k hk _ => hb.block k hk⟩ (by simp)
theorem mapv_step {w : World} (b n : Nat) (rs : List AskD) (r : AskD) (hown : w.ownsMap Tryz.prog 9 RV b n (dec rs)) (hn : n < maxLen) (hs : r.h.size ≤ maxLen) :
    ∃ w', Sem.run Tryz.prog (Instr.mapUpdate 100 (.map (some b)) (.string r.h) (.agg #[.string r.h, .string r.c, .int .i64 r.f, .int .i64 r.t])) w = .ok () w' ∧ w'.ownsMap Tryz.prog 9 RV b (n + 1) (dec (Ord.ins keyV r rs)) ∧ w.grownBy w' (some b) := by
  have h := hown.update lawV (t := 100) (e := 55) Tryz.underlying100 hn (keyOf_string_mk Tryz.underlying9 hs) (val := .agg #[.string r.h, .string r.c, .int .i64 r.f, .int .i64 r.t]) (d := .held r) (ps := []) rfl
  have e : (dec rs).put (Lit.string r.h.data.toList) (.held r) = dec (Ord.ins keyV r rs) := Ord.dec_put keyV r rs
  rw [e] at h
  exact h
theorem boxV {wr w' : World} {r : AskD} (hb : Below (wr.alloc (.cells #[.string r.h, .string r.c, .int .i64 r.f, .int .i64 r.t] 55)).heap.size (wr.alloc (.cells #[.string r.h, .string r.c, .int .i64 r.f, .int .i64 r.t] 55)) w') : w'.cell? ⟨wr.heap.size, 0, none⟩ = some (.string r.h) ∧ w'.cell? ⟨wr.heap.size, 1, none⟩ = some (.string r.c) ∧ w'.cell? ⟨wr.heap.size, 2, none⟩ = some (.int .i64 r.f) ∧ w'.cell? ⟨wr.heap.size, 3, none⟩ = some (.int .i64 r.t) := by
  have hk := box_keep hb
  exact ⟨by rw [hk 0]; simp [go_sem], by rw [hk 1]; simp [go_sem], by rw [hk 2]; simp [go_sem], by rw [hk 3]; simp [go_sem]⟩
theorem boxV_grown {wr w' w2 : World} {r : AskD} {B : Nat} (h : w'.cell? ⟨wr.heap.size, 0, none⟩ = some (.string r.h) ∧ w'.cell? ⟨wr.heap.size, 1, none⟩ = some (.string r.c) ∧ w'.cell? ⟨wr.heap.size, 2, none⟩ = some (.int .i64 r.f) ∧ w'.cell? ⟨wr.heap.size, 3, none⟩ = some (.int .i64 r.t)) (hg : w'.grownBy w2 (some B)) (hne : wr.heap.size ≠ B) : w2.cell? ⟨wr.heap.size, 0, none⟩ = some (.string r.h) ∧ w2.cell? ⟨wr.heap.size, 1, none⟩ = some (.string r.c) ∧ w2.cell? ⟨wr.heap.size, 2, none⟩ = some (.int .i64 r.f) ∧ w2.cell? ⟨wr.heap.size, 3, none⟩ = some (.int .i64 r.t) :=
  ⟨hg.cell h.1 (by simpa using hne), hg.cell h.2.1 (by simpa using hne), hg.cell h.2.2.1 (by simpa using hne), hg.cell h.2.2.2 (by simpa using hne)⟩
theorem make_mapV (n : Nat) (w : World) : Sem.run Tryz.prog (Instr.makeMap 100 (some (.int .i64 (n : Int)))) w = .ok (.map (some w.heap.size)) (w.alloc (.map #[] 0)) := by
  kernel_rfl

set_option maxRecDepth 4000 in
set_option maxHeartbeats 2000000 in
theorem byNameV (b off cap : Nat) (rs : List AskD) (w : World) (hR : RowsAt w b off rs) (l1 : b < w.heap.size) (hfit : ∀ r ∈ rs, r.h.size ≤ maxLen) (hl : rs.length ≤ 1048576) (hs : Srt rs) :
    Calls Tryz.prog 68 #[.slice (some ⟨b, off, none⟩) rs.length cap, .func (.func 69) #[] #[]] w fun e w' => e = .returned (.map (some w.heap.size)) ∧ w'.ownsMap Tryz.prog 9 RV w.heap.size rs.length (dec rs) ∧ Below w.heap.size w w' := by
  have hmm := make_mapV rs.length
  have HS : Hid (Srt rs) := hs
  clear hs
  go_enter Tryz.func68, Tryz.ntmps68
  go_wp2
  clear hmm
  go_loopw [13] (fun i wx => ∃ (k : Nat), k ≤ rs.length ∧ i = .int .i64 k ∧ Hid (wx.ownsMap Tryz.prog 9 RV w.heap.size k (dec (rs.take k))) ∧ Below w.heap.size w wx) (fun i _ => rs.length - (intOf i).toNat)
  case atStart => exact ⟨0, Nat.zero_le _, rfl, World.ownsMap_made _ _ _ _, bl_alloc (Below.refl _ _) _⟩
  case round =>
    obtain ⟨k, hk, rfl, Ho, hB⟩ := hrel
    by_cases hlt : k < rs.length
    · obtain ⟨r, hr⟩ : ∃ r, rs[k]? = some r := ⟨rs[k], List.getElem?_eq_getElem hlt⟩
      have Hr : Hid _ := hr
      have hf1 := hfit r (List.mem_of_getElem? hr)
      obtain ⟨c0, c1, c2, c3⟩ := (hR.keep l1 hB).at hr
      clear hr
      have hne : wr.heap.size ≠ w.heap.size := by have := Ho.out.lt; omega
      go_wp2_with fail
      go_region_held3 (fun w' => w'.cell? ⟨wr.heap.size, 0, none⟩ = some (.string r.h) ∧ w'.cell? ⟨wr.heap.size, 1, none⟩ = some (.string r.c) ∧ w'.cell? ⟨wr.heap.size, 2, none⟩ = some (.int .i64 r.f) ∧ w'.cell? ⟨wr.heap.size, 3, none⟩ = some (.int .i64 r.t))
        (first | exact boxV (bl_drew (Below.refl _ _)) | exact boxV (bl_trans (bl_drew (Below.refl _ _)) hx) | exact boxV_grown (boxV (bl_trans (bl_drew (Below.refl _ _)) hx)) hg2 hne)
        (first | (go_at_call 69; refine (name_any r _).mono ?_; rintro e w' ⟨rfl, hx⟩) | (have hms := mapv_step w.heap.size k (rs.take k) r (mapv_below (mapv_below Ho.out (bl_drew (bl_alloc (Below.refl _ _) _))) hx) (by unfold maxLen; omega) hf1; obtain ⟨w2, hrun, ho2, hg2⟩ := hms; go_simp))
      have y1 := bl_trans (bl_trans hB (bl_alloc (Below.refl _ wr) _)) (bl_trans (bl_drew (Below.refl _ _)) hx)
      have Y2 : Hid (Below w.heap.size w w2) := Below.grown y1 hg2 y1.size (fun j hj => by cases hj; exact Nat.le_refl _)
      have O2 : Hid (w2.ownsMap Tryz.prog 9 RV w.heap.size (k + 1) (dec (rs.take (k + 1)))) := by
        show World.ownsMap _ _ _ _ _ _ _
        rw [← Ord.take_last keyV HS.out Hr.out]; exact ho2
      clear y1 hx hg2 ho2 hrun
      go_wp2
      exact ⟨⟨k + 1, by omega, by go_num, O2.out, Y2.out⟩, by simp [intOf]; omega⟩
    · go_wp2
      go_ret
      have e : k = rs.length := by omega
      subst e
      rw [List.take_of_length_le (Nat.le_refl _)] at Ho
      exact ⟨rfl, Ho.out, hB⟩
theorem zeroV (w : World) : (zeroValue 55).run Tryz.prog w = .ok (.agg #[.string ⟨#[]⟩, .string ⟨#[]⟩, .int .i64 0, .int .i64 0]) w := by kernel_rfl
/-- 'x, ok := m[k]'. -/
theorem lookV {w : World} (b n : Nat) (rs : List AskD) (hown : w.ownsMap Tryz.prog 9 RV b n (dec rs)) (hs : Srt rs) (s : ByteArray) (hz : s.size ≤ maxLen) :
    (∃ r ∈ rs, r.h = s ∧ Sem.run Tryz.prog (Instr.lookup 100 (.map (some b)) (.string s) true) w = .ok (.tuple #[.agg #[.string r.h, .string r.c, .int .i64 r.f, .int .i64 r.t], .bool true]) w) ∨ ((∀ r ∈ rs, r.h ≠ s) ∧ Sem.run Tryz.prog (Instr.lookup 100 (.map (some b)) (.string s) true) w = .ok (.tuple #[.agg #[.string ⟨#[]⟩, .string ⟨#[]⟩, .int .i64 0, .int .i64 0], .bool false]) w) := by
  obtain ⟨v, ps, hrun, hv⟩ := hown.look_ok lawV (t := 100) (e := 55) Tryz.underlying100 (zeroV w) (zd := .held ⟨⟨#[]⟩, ⟨#[]⟩, 0, 0⟩) (zp := []) rfl (keyOf_string_mk Tryz.underlying9 hz)
  have hh : has (dec rs) (Lit.string s.data.toList) = rs.any (fun y => keyV y == s.data.toList) := Ord.dec_has keyV _ rs
  rw [hh] at hrun
  cases ha : rs.any (fun y => keyV y == s.data.toList)
  · right
    refine ⟨fun r hr e => ?_, ?_⟩
    · have := List.any_eq_false.1 ha r hr
      rw [← e] at this
      simp [keyV] at this
    · rw [show (dec rs).atKey (Lit.string s.data.toList) (.held ⟨⟨#[]⟩, ⟨#[]⟩, 0, 0⟩) = .held ⟨⟨#[]⟩, ⟨#[]⟩, 0, 0⟩ from Ord.dec_none keyV ha _] at hv
      rw [RV_inv hv, ha] at hrun
      exact hrun
  · left
    obtain ⟨r, hr, he⟩ := List.any_eq_true.1 ha
    have e1 : r.h.data.toList = s.data.toList := by simpa [keyV] using he
    have e2 : r.h = s := Ord.ba_ext e1
    refine ⟨r, hr, e2, ?_⟩
    rw [show Lit.string s.data.toList = Lit.string (keyV r) from by rw [← e1]; rfl, show (dec rs).atKey (Lit.string (keyV r)) (.held ⟨⟨#[]⟩, ⟨#[]⟩, 0, 0⟩) = .held r from Ord.dec_at keyV hs hr _] at hv
    rw [RV_inv hv, ha] at hrun
    exact hrun
end Go.Proofs.YtiogkdafmgdbgaaGreat.A
/- What stands in a map, in order: asks. -/
namespace Go.Proofs.YtiogkdafmgdbgaaGreat.A
open Go.RowKit Go.Maps Go.WideMaps
set_option linter.unusedVariables false

/-- What maps.Keys answers. -/
def KeysSay : Prop := ∀ (mb : Option Nat) (Wo : World), Calls Tryz.prog 98 #[.map mb] Wo fun e w' => e = .returned (.func (.func 115) #[] #[.pointer (some ⟨Wo.heap.size, 0, none⟩)]) ∧ w' = Wo.alloc (.cells #[.map mb] 100)
/-- What slices.Sorted answers of it. -/
def SortedSay : Prop := ∀ (b nn : Nat) (rs : List AskD) (w : World), w.ownsMap Tryz.prog 9 RV b nn (dec rs) → rs.length ≤ 1048576 →
  Calls Tryz.prog 95 #[.func (.func 115) #[] #[.pointer (some ⟨w.heap.size, 0, none⟩)]] (w.alloc (.cells #[.map (some b)] 100)) fun e w' => ∃ (v : Value) (ss : List (List UInt8)), e = .returned v ∧ ss.Perm (strKeys (dec rs)) ∧
    w'.ownsRow (w.alloc (.cells #[.map (some b)] 100)).heap.size 9 1 v ss.length ((ss.mergeSort (fun x y => decide (x ≤ y))).map encStr) ∧ Below (w.alloc (.cells #[.map (some b)] 100)).heap.size (w.alloc (.cells #[.map (some b)] 100)) w'
/-- 'm[k]', k there. -/
theorem atV {w : World} (b n : Nat) (rs : List AskD) (hown : w.ownsMap Tryz.prog 9 RV b n (dec rs)) (hs : Srt rs) (r : AskD) (hr : r ∈ rs) (hz : r.h.size ≤ maxLen) :
    Sem.run Tryz.prog (Instr.lookup 100 (.map (some b)) (.string r.h) false) w = .ok (.agg #[.string r.h, .string r.c, .int .i64 r.f, .int .i64 r.t]) w := by
  obtain ⟨v, ps, hrun, hv⟩ := hown.lookup lawV (t := 100) (e := 55) Tryz.underlying100 (zeroV w) (zd := .held ⟨⟨#[]⟩, ⟨#[]⟩, 0, 0⟩) (zp := []) rfl (keyOf_string_mk Tryz.underlying9 hz)
  rw [show Lit.string r.h.data.toList = Lit.string (keyV r) from rfl, show (dec rs).atKey (Lit.string (keyV r)) (.held ⟨⟨#[]⟩, ⟨#[]⟩, 0, 0⟩) = .held r from Ord.dec_at keyV hs hr _] at hv
  rw [RV_inv hv] at hrun
  exact hrun

theorem enc_key (r : AskD) : encStr (keyV r) = Value.string r.h := by
  show Value.string ⟨r.h.data.toList.toArray⟩ = _
  rw [Array.toArray_toList]
theorem sl_low {w : World} {v : Value} {l : List AskD} {B B' : Nat} (h : Sl w v l B) (hB : B' ≤ B) : Sl w v l B' := by
  rcases h with h | ⟨g, cap, h0, h1, h2, h3, h4⟩
  · exact Or.inl h
  · exact Or.inr ⟨g, cap, h0, Nat.le_trans hB h1, h2, h3, h4⟩
theorem flat_snoc' {rs : List AskD} {k : Nat} {r : AskD} (hr : rs[k]? = some r) : flatR (rs.take (k + 1)) = flatR (rs.take k) ++ r.cells := by
  have hlt : k < rs.length := (List.getElem?_eq_some_iff.1 hr).1
  have he : rs[k] = r := by rw [List.getElem?_eq_getElem hlt] at hr; exact Option.some.inj hr
  rw [List.take_succ_eq_append_getElem hlt, he]
  simp [flatR]

set_option maxRecDepth 4000 in
set_option maxHeartbeats 2000000 in
theorem inOrderV (hK : KeysSay) (hS : SortedSay) (b nn : Nat) (rs : List AskD) (w : World) (hown : w.ownsMap Tryz.prog 9 RV b nn (dec rs)) (hs : Srt rs) (hfit : ∀ r ∈ rs, r.h.size ≤ maxLen) (hl : rs.length ≤ 1048576) :
    Calls Tryz.prog 74 #[.map (some b)] w fun e w' => (∃ v, e = .returned v ∧ Sl w' v rs w.heap.size) ∧ Below w.heap.size w w' := by
  have HO : Hid (w.ownsMap Tryz.prog 9 RV b nn (dec rs)) := hown
  have HS : Hid (Srt rs) := hs
  have cK : Hid KeysSay := hK
  have cS : Hid SortedSay := hS
  have HF : Hid _ := hfit
  clear hown hs hK hS hfit
  obtain ⟨i0, hi, hz0, hz1, hz2⟩ := info_parts infoR
  go_enter Tryz.func74, Tryz.ntmps74
  go_wp2_with fail
  refine (cK.out _ _).mono ?_
  rintro e w' ⟨rfl, rfl⟩
  go_wp2_with fail
  refine (cS.out b nn rs _ HO.out hl).mono ?_
  rintro e w1 ⟨v, ss, rfl, hp, hrow, hb⟩
  have hlen : ss.length = rs.length := by rw [hp.length_eq, show strKeys (dec rs) = rs.map keyV from Ord.keys_dec keyV rs, List.length_map]
  rw [Ord.sorted_keys keyV HS.out hp, hlen] at hrow
  have B1 : Hid (Below w.heap.size w w1) := bl_trans (bl_alloc (Below.refl _ _) _) hb
  have O1 : Hid (w1.ownsMap Tryz.prog 9 RV b nn (dec rs)) := mapv_below HO.out B1.out
  obtain ⟨a, c, rfl⟩ := str_shape hrow
  have Hrow : Hid (StrAt w1 a (rs.map (fun r => r.h))) := str_at (by rw [List.length_map, List.map_map]; rw [List.map_map, show (encStr ∘ keyV) = ((fun x => Value.string x) ∘ fun r : AskD => r.h) from funext enc_key] at hrow; exact hrow)
  clear hrow hp hb hlen
  go_wp2_with fail
  go_loopw [3, 10] (fun v i wx => ∃ (k : Nat), k ≤ rs.length ∧ i = .int .i64 k ∧ wx.ownsRow w1.heap.size 55 4 v k (flatR (rs.take k)) ∧ Hid (Below w1.heap.size w1 wx)) (fun _ i _ => rs.length - (intOf i).toNat)
  case atStart => exact ⟨0, Nat.zero_le _, rfl, World.ownsRow_nil _ _ _ _, Below.refl _ _⟩
  case round =>
    obtain ⟨k, hk, rfl, hown, HB⟩ := hrel
    by_cases hlt : k < rs.length
    · obtain ⟨r, hr⟩ : ∃ r, rs[k]? = some r := ⟨rs[k], List.getElem?_eq_getElem hlt⟩
      have Hr : Hid _ := hr
      obtain ⟨g, rfl, hg, hc⟩ := (Hrow.out.keep HB.out).resolve_left (fun h => by rw [List.map_eq_nil_iff] at h; rw [h] at hlt; simp at hlt)
      have c0 := hc k r.h (by rw [List.getElem?_map, hr]; rfl)
      have hlk := atV b nn rs (mapv_below O1.out HB.out) HS.out r (List.mem_of_getElem? hr) (HF.out r (List.mem_of_getElem? hr))
      obtain ⟨xs, hxs⟩ : ∃ xs, xs = flatR (rs.take k) := ⟨_, rfl⟩
      rw [← hxs] at hown
      have Ho : Hid (wr.ownsRow w1.heap.size 55 4 u3 k xs) := hown
      have Hx : Hid _ := hxs
      have hzw : w1.heap.size ≤ wr.heap.size := HB.out.size
      have i1 : (k : Int) < (rs.length : Int) := by omega
      clear hr hown hxs hc
      go_wp2_with (at_builtin; refine wpList_append_own _ rfl _ _ 33 rfl w1.heap.size 55 i0 _ 4 48 Tryz.underlying33 hi hz0 hz1 hz2 rfl (by decide) _ k _ rfl (by exact owns_below Ho.out (by repeat (first | exact Below.refl _ _ | refine bl_alloc ?_ _))) ⟨_, 0, none⟩ 1 1 r.cells rfl rfl (new_cells _ _ (by simp) _ _ _ rfl) (cellsR_one _) (by unfold maxLen; omega) (by omega) (by simp; omega) ?_; intro v' w2 ho2 hg2 hn2)
      refine ⟨⟨k + 1, by omega, by go_num, ?_, Below.grown (by repeat (first | exact HB.out | refine bl_alloc ?_ _)) hg2 (by simp; omega) (owns_ge Ho.out)⟩, by simp [intOf]; omega⟩
      rw [flat_snoc' Hr.out, ← Hx.out]
      exact ho2
    · go_wp2
      go_ret
      have hk' : k = rs.length := by omega
      subst hk'
      rw [List.take_of_length_le (Nat.le_refl _)] at hown
      exact ⟨⟨_, rfl, sl_low (Sl.of_owns hown) B1.out.size⟩, bl_trans B1.out HB.out⟩
end Go.Proofs.YtiogkdafmgdbgaaGreat.A
/- maps.Keys and slices.Sorted answer so. -/
namespace Go.Proofs.YtiogkdafmgdbgaaGreat.W
open Go.RowKit Go.Maps Go.WideMaps
theorem keysSay : KeysSay := fun mb Wo => callsIn_wide.1 (Go.Proofs.Tryz.maps_Keys_96 mb Wo)
theorem sortedSay : SortedSay := fun b nn rs w h hl => (callsIn_wide.1 (Go.Proofs.Tryz.slices_Sorted_keys_95_96 b nn (dec rs) RV w h (by rw [show size (dec rs) = rs.length from Ord.dec_size keyV rs]; unfold maxLen; omega) (by rw [show size (dec rs) = rs.length from Ord.dec_size keyV rs]; omega))).mono (by
  rintro e w' ⟨v, ss, h1, h2, h3, -, h4⟩
  exact ⟨v, ss, h1, h2, h3, h4⟩)
end Go.Proofs.YtiogkdafmgdbgaaGreat.W
namespace Go.Proofs.YtiogkdafmgdbgaaGreat
open Go.RowKit Go.Maps Go.WideMaps
theorem keysSay : KeysSay := fun mb Wo => callsIn_wide.1 (Go.Proofs.Tryz.maps_Keys_97 mb Wo)
theorem sortedSay : SortedSay := fun b nn rs w h hl => (callsIn_wide.1 (Go.Proofs.Tryz.slices_Sorted_keys_95_97 b nn (dec rs) RV w h (by rw [show size (dec rs) = rs.length from Ord.dec_size keyV rs]; unfold maxLen; omega) (by rw [show size (dec rs) = rs.length from Ord.dec_size keyV rs]; omega))).mono (by
  rintro e w' ⟨v, ss, h1, h2, h3, -, h4⟩
  exact ⟨v, ss, h1, h2, h3, h4⟩)
end Go.Proofs.YtiogkdafmgdbgaaGreat
namespace Go.Proofs.YtiogkdafmgdbgaaGreat.A
open Go.RowKit Go.Maps Go.WideMaps
theorem keysSay : KeysSay := fun mb Wo => callsIn_wide.1 (Go.Proofs.Tryz.maps_Keys_98 mb Wo)
theorem sortedSay : SortedSay := fun b nn rs w h hl => (callsIn_wide.1 (Go.Proofs.Tryz.slices_Sorted_keys_95_98 b nn (dec rs) RV w h (by rw [show size (dec rs) = rs.length from Ord.dec_size keyV rs]; unfold maxLen; omega) (by rw [show size (dec rs) = rs.length from Ord.dec_size keyV rs]; omega))).mono (by
  rintro e w' ⟨v, ss, h1, h2, h3, -, h4⟩
  exact ⟨v, ss, h1, h2, h3, h4⟩)
end Go.Proofs.YtiogkdafmgdbgaaGreat.A
/- A mate on deck: its lists in maps. -/
namespace Go.Proofs.YtiogkdafmgdbgaaGreat
open Go.RowKit Go.Maps Go.WideMaps
set_option linter.unusedVariables false

/-- A mate's lists stand in maps; what else it has stands beside. -/
structure Deck (w : World) (d : Nat) (O : Array Value) (m1 m2 m3 m4 : Nat) (ws : List W.WantD) (rs : List RunD) (qs gs : List A.AskD) : Prop where
  c : ∀ k, w.cell? ⟨d, k, none⟩ = O[k]?
  f : ∀ k, w.frozen? ⟨d, k, none⟩ = false
  l : d < w.heap.size
  o1 : ∃ n, w.ownsMap Tryz.prog 9 W.RV m1 n (W.dec ws)
  o2 : ∃ n, w.ownsMap Tryz.prog 9 RV m2 n (dec rs)
  o3 : ∃ n, w.ownsMap Tryz.prog 9 A.RV m3 n (A.dec qs)
  o4 : ∃ n, w.ownsMap Tryz.prog 9 A.RV m4 n (A.dec gs)
theorem Deck.keep {w w' : World} {d : Nat} {O : Array Value} {m1 m2 m3 m4 : Nat} {ws : List W.WantD} {rs : List RunD} {qs gs : List A.AskD} (h : Deck w d O m1 m2 m3 m4 ws rs qs gs) (hb : Below w.heap.size w w') : Deck w' d O m1 m2 m3 m4 ws rs qs gs := by
  obtain ⟨n1, o1⟩ := h.o1
  obtain ⟨n2, o2⟩ := h.o2
  obtain ⟨n3, o3⟩ := h.o3
  obtain ⟨n4, o4⟩ := h.o4
  exact ⟨fun k => (hb.cell (p := ⟨d, k, none⟩) h.l).trans (h.c k), fun k => (hb.frozen (p := ⟨d, k, none⟩) h.l).trans (h.f k), Nat.lt_of_lt_of_le h.l hb.size, ⟨n1, W.mapv_below o1 hb⟩, ⟨n2, mapv_below o2 hb⟩, ⟨n3, A.mapv_below o3 hb⟩, ⟨n4, A.mapv_below o4 hb⟩⟩
theorem mateK {w y : World} {m : MateD} {b1 b2 b3 b4 : Nat} (hb : Below (w.alloc (.cells #[.string m.nm, .bool m.up, .int .i64 m.ck, .bool m.kn, .int .i64 m.se, .slice (some ⟨b1, 0, none⟩) m.ws.length m.ws.length, .slice (some ⟨b2, 0, none⟩) m.rs.length m.rs.length, .slice (some ⟨b3, 0, none⟩) m.qs.length m.qs.length, .slice (some ⟨b4, 0, none⟩) m.gs.length m.gs.length] 35)).heap.size (w.alloc (.cells #[.string m.nm, .bool m.up, .int .i64 m.ck, .bool m.kn, .int .i64 m.se, .slice (some ⟨b1, 0, none⟩) m.ws.length m.ws.length, .slice (some ⟨b2, 0, none⟩) m.rs.length m.rs.length, .slice (some ⟨b3, 0, none⟩) m.qs.length m.qs.length, .slice (some ⟨b4, 0, none⟩) m.gs.length m.gs.length] 35)) y) : Below (w.alloc (.cells #[.string m.nm, .bool m.up, .int .i64 m.ck, .bool m.kn, .int .i64 m.se, .slice (some ⟨b1, 0, none⟩) m.ws.length m.ws.length, .slice (some ⟨b2, 0, none⟩) m.rs.length m.rs.length, .slice (some ⟨b3, 0, none⟩) m.qs.length m.qs.length, .slice (some ⟨b4, 0, none⟩) m.gs.length m.gs.length] 35)).heap.size (w.alloc (.cells #[.string m.nm, .bool m.up, .int .i64 m.ck, .bool m.kn, .int .i64 m.se, .slice (some ⟨b1, 0, none⟩) m.ws.length m.ws.length, .slice (some ⟨b2, 0, none⟩) m.rs.length m.rs.length, .slice (some ⟨b3, 0, none⟩) m.qs.length m.qs.length, .slice (some ⟨b4, 0, none⟩) m.gs.length m.gs.length] 35)) y ∧ (y.cell? ⟨w.heap.size, 0, none⟩ = some (.string m.nm) ∧ y.cell? ⟨w.heap.size, 1, none⟩ = some (.bool m.up) ∧ y.cell? ⟨w.heap.size, 2, none⟩ = some (.int .i64 m.ck) ∧ y.cell? ⟨w.heap.size, 3, none⟩ = some (.bool m.kn) ∧ y.cell? ⟨w.heap.size, 4, none⟩ = some (.int .i64 m.se) ∧ y.cell? ⟨w.heap.size, 5, none⟩ = some (.slice (some ⟨b1, 0, none⟩) m.ws.length m.ws.length) ∧ y.cell? ⟨w.heap.size, 6, none⟩ = some (.slice (some ⟨b2, 0, none⟩) m.rs.length m.rs.length) ∧ y.cell? ⟨w.heap.size, 7, none⟩ = some (.slice (some ⟨b3, 0, none⟩) m.qs.length m.qs.length) ∧ y.cell? ⟨w.heap.size, 8, none⟩ = some (.slice (some ⟨b4, 0, none⟩) m.gs.length m.gs.length)) := by
  have hk := box_keep hb
  exact ⟨hb, by rw [hk 0]; simp [go_sem], by rw [hk 1]; simp [go_sem], by rw [hk 2]; simp [go_sem], by rw [hk 3]; simp [go_sem], by rw [hk 4]; simp [go_sem], by rw [hk 5]; simp [go_sem], by rw [hk 6]; simp [go_sem], by rw [hk 7]; simp [go_sem], by rw [hk 8]; simp [go_sem]⟩

set_option maxRecDepth 4000 in
set_option maxHeartbeats 2000000 in
theorem deckOf_any (m : MateD) (b1 b2 b3 b4 : Nat) (w : World) (hL : Lists w m b1 b2 b3 b4) (hf : m.fits) (s1 : W.Srt m.ws) (s2 : Srt m.rs) (s3 : A.Srt m.qs) (s4 : A.Srt m.gs) :
    Calls Tryz.prog 29 #[.agg #[.string m.nm, .bool m.up, .int .i64 m.ck, .bool m.kn, .int .i64 m.se, .slice (some ⟨b1, 0, none⟩) m.ws.length m.ws.length, .slice (some ⟨b2, 0, none⟩) m.rs.length m.rs.length, .slice (some ⟨b3, 0, none⟩) m.qs.length m.qs.length, .slice (some ⟨b4, 0, none⟩) m.gs.length m.gs.length]] w fun e w' => (∃ d m1 m2 m3 m4, e = .returned (.pointer (some ⟨d, 0, none⟩)) ∧ Deck w' d #[.string m.nm, .bool m.up, .int .i64 m.ck, .bool m.kn, .int .i64 m.se, .slice (some ⟨b1, 0, none⟩) m.ws.length m.ws.length, .slice (some ⟨b2, 0, none⟩) m.rs.length m.rs.length, .slice (some ⟨b3, 0, none⟩) m.qs.length m.qs.length, .slice (some ⟨b4, 0, none⟩) m.gs.length m.gs.length, .map (some m1), .map (some m2), .map (some m3), .map (some m4)] m1 m2 m3 m4 m.ws m.rs m.qs m.gs ∧ (w.heap.size ≤ m1 ∧ m1 < m2 ∧ m2 < m3 ∧ m3 < m4 ∧ m4 < d) ∧ ∃ n, n ≤ 1048576 ∧ w'.ownsMap Tryz.prog 9 RV m2 n (dec m.rs)) ∧ Below w.heap.size w w' := by
  have Hb0 : Hid (Below w.heap.size w (w.alloc (.cells #[.string m.nm, .bool m.up, .int .i64 m.ck, .bool m.kn, .int .i64 m.se, .slice (some ⟨b1, 0, none⟩) m.ws.length m.ws.length, .slice (some ⟨b2, 0, none⟩) m.rs.length m.rs.length, .slice (some ⟨b3, 0, none⟩) m.qs.length m.qs.length, .slice (some ⟨b4, 0, none⟩) m.gs.length m.gs.length] 35))) := bl_alloc (Below.refl _ _) _
  have HL : Hid (Lists w m b1 b2 b3 b4) := hL
  have Hs1 : Hid (W.Srt m.ws) := s1
  have Hs2 : Hid (Srt m.rs) := s2
  have Hs3 : Hid (A.Srt m.qs) := s3
  have Hs4 : Hid (A.Srt m.gs) := s4
  clear hL s1 s2 s3 s4
  go_enter Tryz.func29, Tryz.ntmps29
  go_wp2_with fail
  refine wp_region_noPanic ?_
  refine wp_region_held_drew (S := (fun y => Below (w.alloc (.cells #[.string m.nm, .bool m.up, .int .i64 m.ck, .bool m.kn, .int .i64 m.se, .slice (some ⟨b1, 0, none⟩) m.ws.length m.ws.length, .slice (some ⟨b2, 0, none⟩) m.rs.length m.rs.length, .slice (some ⟨b3, 0, none⟩) m.qs.length m.qs.length, .slice (some ⟨b4, 0, none⟩) m.gs.length m.gs.length] 35)).heap.size (w.alloc (.cells #[.string m.nm, .bool m.up, .int .i64 m.ck, .bool m.kn, .int .i64 m.se, .slice (some ⟨b1, 0, none⟩) m.ws.length m.ws.length, .slice (some ⟨b2, 0, none⟩) m.rs.length m.rs.length, .slice (some ⟨b3, 0, none⟩) m.qs.length m.qs.length, .slice (some ⟨b4, 0, none⟩) m.gs.length m.gs.length] 35)) y ∧ (y.cell? ⟨w.heap.size, 0, none⟩ = some (.string m.nm) ∧ y.cell? ⟨w.heap.size, 1, none⟩ = some (.bool m.up) ∧ y.cell? ⟨w.heap.size, 2, none⟩ = some (.int .i64 m.ck) ∧ y.cell? ⟨w.heap.size, 3, none⟩ = some (.bool m.kn) ∧ y.cell? ⟨w.heap.size, 4, none⟩ = some (.int .i64 m.se) ∧ y.cell? ⟨w.heap.size, 5, none⟩ = some (.slice (some ⟨b1, 0, none⟩) m.ws.length m.ws.length) ∧ y.cell? ⟨w.heap.size, 6, none⟩ = some (.slice (some ⟨b2, 0, none⟩) m.rs.length m.rs.length) ∧ y.cell? ⟨w.heap.size, 7, none⟩ = some (.slice (some ⟨b3, 0, none⟩) m.qs.length m.qs.length) ∧ y.cell? ⟨w.heap.size, 8, none⟩ = some (.slice (some ⟨b4, 0, none⟩) m.gs.length m.gs.length)))) (by kernel_rfl) (mateK (bl_drew (Below.refl _ _))) (fun hHeld => ?_)
  refine wpAnyH_take (i := 0) (v := ?vx1) rfl (by kernel_rfl) (by kernel_rfl) (by kernel_rfl) (fun _ _ _ h => h) (Or.inl ⟨by rfl, ?hx1⟩) (by assumption) ?rx1
  case hx1 => (intro w hSw; (try dsimp only at hSw); go_simp; try (with_reducible rfl))
  try simp only [Act.put, List.setIfInBounds_toArray, List.set_cons_zero, List.set_cons_succ, List.getElem_toArray, List.getElem_cons_zero]
  refine wpAnyH_take (i := 1) (v := ?vx2) rfl (by kernel_rfl) (by kernel_rfl) (by kernel_rfl) (fun _ _ _ h => h) (Or.inl ⟨by rfl, ?hx2⟩) (by assumption) ?rx2
  case hx2 => (intro w hSw; (try dsimp only at hSw); go_simp; try (with_reducible rfl))
  try simp only [Act.put, List.setIfInBounds_toArray, List.set_cons_zero, List.set_cons_succ, List.getElem_toArray, List.getElem_cons_zero, List.getElem_cons_succ]
  refine wpAnyH_take (i := 2) (v := ?vx3) rfl (by kernel_rfl) (by kernel_rfl) (by kernel_rfl) (fun _ _ _ h => h) (Or.inl ⟨by rfl, ?hx3⟩) (by assumption) ?rx3
  case hx3 => (intro w hSw; (try dsimp only at hSw); go_simp; try (with_reducible rfl))
  try simp only [Act.put, List.setIfInBounds_toArray, List.set_cons_zero, List.set_cons_succ, List.getElem_toArray, List.getElem_cons_zero, List.getElem_cons_succ]
  refine wpAnyH_take (i := 4) (v := ?vx4) rfl (by kernel_rfl) (by kernel_rfl) (by kernel_rfl) (fun _ _ _ h => h) (Or.inl ⟨by rfl, ?hx4⟩) (by assumption) ?rx4
  case hx4 => (intro w hSw; (try dsimp only at hSw); go_simp; try (with_reducible rfl))
  try simp only [Act.put, List.setIfInBounds_toArray, List.set_cons_zero, List.set_cons_succ, List.getElem_toArray, List.getElem_cons_zero, List.getElem_cons_succ]
  refine wpAnyH_take (i := 5) (v := ?vx5) rfl (by kernel_rfl) (by kernel_rfl) (by kernel_rfl) (fun _ _ _ h => h) (Or.inl ⟨by rfl, ?hx5⟩) (by assumption) ?rx5
  case hx5 => (intro w hSw; (try dsimp only at hSw); go_simp; try (with_reducible rfl))
  try simp only [Act.put, List.setIfInBounds_toArray, List.set_cons_zero, List.set_cons_succ, List.getElem_toArray, List.getElem_cons_zero, List.getElem_cons_succ]
  refine wpAnyH_take (i := 7) (v := ?vx6) rfl (by kernel_rfl) (by kernel_rfl) (by kernel_rfl) (fun _ _ _ h => h) (Or.inl ⟨by rfl, ?hx6⟩) (by assumption) ?rx6
  case hx6 => (intro w hSw; (try dsimp only at hSw); go_simp; try (with_reducible rfl))
  try simp only [Act.put, List.setIfInBounds_toArray, List.set_cons_zero, List.set_cons_succ, List.getElem_toArray, List.getElem_cons_zero, List.getElem_cons_succ]
  refine wpAnyH_take (i := 8) (v := ?vx7) rfl (by kernel_rfl) (by kernel_rfl) (by kernel_rfl) (fun _ _ _ h => h) (Or.inl ⟨by rfl, ?hx7⟩) (by assumption) ?rx7
  case hx7 => (intro w hSw; (try dsimp only at hSw); go_simp; try (with_reducible rfl))
  try simp only [Act.put, List.setIfInBounds_toArray, List.set_cons_zero, List.set_cons_succ, List.getElem_toArray, List.getElem_cons_zero, List.getElem_cons_succ]
  refine wpAnyH_take (i := 10) (v := ?vx8) rfl (by kernel_rfl) (by kernel_rfl) (by kernel_rfl) (fun _ _ _ h => h) (Or.inl ⟨by rfl, ?hx8⟩) (by assumption) ?rx8
  case hx8 => (intro w hSw; (try dsimp only at hSw); go_simp; try (with_reducible rfl))
  try simp only [Act.put, List.setIfInBounds_toArray, List.set_cons_zero, List.set_cons_succ, List.getElem_toArray, List.getElem_cons_zero, List.getElem_cons_succ]
  refine wpAnyH_take (i := 11) (v := ?vx9) rfl (by kernel_rfl) (by kernel_rfl) (by kernel_rfl) (fun _ _ _ h => h) (Or.inl ⟨by rfl, ?hx9⟩) (by assumption) ?rx9
  case hx9 => (intro w hSw; (try dsimp only at hSw); go_simp; try (with_reducible rfl))
  try simp only [Act.put, List.setIfInBounds_toArray, List.set_cons_zero, List.set_cons_succ, List.getElem_toArray, List.getElem_cons_zero, List.getElem_cons_succ]
  refine wpAnyH_ready (rs := [3]) (by kernel_rfl) (by simp) ?_
  refine AllReadyH.cons rfl (fun K hK => ?_) AllReadyH.nil
  go_simp
  refine (W.byNameV b1 0 _ m.ws _ (HL.out.keep (bl_trans Hb0.out (bl_drew (Below.refl _ _)))).r1 (HL.out.keep (bl_trans Hb0.out (bl_drew (Below.refl _ _)))).l1 (fun r hr => (hf.f1 r hr).1) hf.k1 Hs1.out).mono ?_; rintro e y1 ⟨rfl, o1, h1⟩
  go_wp2_with fail
  refine hK.out _ _ (mateK (bl_trans (bl_drew (Below.refl _ _)) h1)) (fun hHeld1 => ?_)
  clear hK K hHeld
  try simp only [Act.put, List.setIfInBounds_toArray, List.set_cons_zero, List.set_cons_succ, List.getElem_toArray, List.getElem_cons_zero, List.getElem_cons_succ]
  refine wpAnyH_ready (rs := [6]) (by kernel_rfl) (by simp) ?_
  refine AllReadyH.cons rfl (fun K hK => ?_) AllReadyH.nil
  go_simp
  refine (byNameV b2 0 _ m.rs _ (HL.out.keep (bl_trans Hb0.out (bl_trans (bl_drew (Below.refl _ _)) h1))).r2 (HL.out.keep (bl_trans Hb0.out (bl_trans (bl_drew (Below.refl _ _)) h1))).l2 (fun r hr => (hf.f2 r hr).1) hf.k2 Hs2.out).mono ?_; rintro e y2 ⟨rfl, o2, h2⟩
  go_wp2_with fail
  refine hK.out _ _ (mateK (bl_trans (bl_trans (bl_drew (Below.refl _ _)) h1) h2)) (fun hHeld2 => ?_)
  clear hK K hHeld1
  try simp only [Act.put, List.setIfInBounds_toArray, List.set_cons_zero, List.set_cons_succ, List.getElem_toArray, List.getElem_cons_zero, List.getElem_cons_succ]
  refine wpAnyH_ready (rs := [9]) (by kernel_rfl) (by simp) ?_
  refine AllReadyH.cons rfl (fun K hK => ?_) AllReadyH.nil
  go_simp
  refine (A.byNameV b3 0 _ m.qs _ (HL.out.keep (bl_trans Hb0.out (bl_trans (bl_trans (bl_drew (Below.refl _ _)) h1) h2))).r3 (HL.out.keep (bl_trans Hb0.out (bl_trans (bl_trans (bl_drew (Below.refl _ _)) h1) h2))).l3 (fun r hr => (hf.f3 r hr).1) hf.k3 Hs3.out).mono ?_; rintro e y3 ⟨rfl, o3, h3⟩
  go_wp2_with fail
  refine hK.out _ _ (mateK (bl_trans (bl_trans (bl_trans (bl_drew (Below.refl _ _)) h1) h2) h3)) (fun hHeld3 => ?_)
  clear hK K hHeld2
  try simp only [Act.put, List.setIfInBounds_toArray, List.set_cons_zero, List.set_cons_succ, List.getElem_toArray, List.getElem_cons_zero, List.getElem_cons_succ]
  refine wpAnyH_ready (rs := [12]) (by kernel_rfl) (by simp) ?_
  refine AllReadyH.cons rfl (fun K hK => ?_) AllReadyH.nil
  go_simp
  refine (A.byNameV b4 0 _ m.gs _ (HL.out.keep (bl_trans Hb0.out (bl_trans (bl_trans (bl_trans (bl_drew (Below.refl _ _)) h1) h2) h3))).r4 (HL.out.keep (bl_trans Hb0.out (bl_trans (bl_trans (bl_trans (bl_drew (Below.refl _ _)) h1) h2) h3))).l4 (fun r hr => (hf.f4 r hr).1) hf.k4 Hs4.out).mono ?_; rintro e y4 ⟨rfl, o4, h4⟩
  go_wp2_with fail
  refine hK.out _ _ (mateK (bl_trans (bl_trans (bl_trans (bl_trans (bl_drew (Below.refl _ _)) h1) h2) h3) h4)) (fun hHeld4 => ?_)
  clear hK K hHeld3
  try simp only [Act.put, List.setIfInBounds_toArray, List.set_cons_zero, List.set_cons_succ, List.getElem_toArray, List.getElem_cons_zero, List.getElem_cons_succ]
  refine wpAnyH_take (i := 13) (v := ?vx10) rfl (by kernel_rfl) (by kernel_rfl) (by kernel_rfl) (fun _ _ _ h => h) (Or.inl ⟨by rfl, ?hx10⟩) (by assumption) ?rx10
  case hx10 => (intro w hSw; (try dsimp only at hSw); go_simp; try (with_reducible rfl))
  try simp only [Act.put, List.setIfInBounds_toArray, List.set_cons_zero, List.set_cons_succ, List.getElem_toArray, List.getElem_cons_zero, List.getElem_cons_succ]
  refine wpAnyH_ready (rs := [14]) (by kernel_rfl) (by simp) ?_
  refine AllReadyH.cons rfl (fun K hK => ?_) AllReadyH.nil
  go_simp
  refine hK.out _ _ (mateK (bl_alloc (bl_trans (bl_trans (bl_trans (bl_trans (bl_drew (Below.refl _ _)) h1) h2) h3) h4) _)) (fun hHeld5 => ?_)
  clear hK K hHeld4
  try simp only [Act.put, List.setIfInBounds_toArray, List.set_cons_zero, List.set_cons_succ, List.getElem_toArray, List.getElem_cons_zero, List.getElem_cons_succ]
  refine wpAnyH_take (i := 15) (v := ?vx11) rfl (by kernel_rfl) (by kernel_rfl) (by kernel_rfl) (fun _ _ _ h => h) (Or.inl ⟨by rfl, ?hx11⟩) (by assumption) ?rx11
  case hx11 => (intro w hSw; (try dsimp only at hSw); go_simp; try (with_reducible rfl))
  try simp only [Act.put, List.setIfInBounds_toArray, List.set_cons_zero, List.set_cons_succ, List.getElem_toArray, List.getElem_cons_zero, List.getElem_cons_succ]
  refine wpAnyH_done (by kernel_rfl) ?_ _
  refine NoPanic.normal ?_
  have E2 : Hid (Below y1.heap.size y1 y2) := h2
  have E3 : Hid (Below y2.heap.size y2 y3) := h3
  have E4 : Hid (Below y3.heap.size y3 y4) := h4
  have E1 : Hid (Below w.heap.size w y1) := bl_trans Hb0.out (bl_trans (bl_drew (Below.refl _ _)) h1)
  have P1 : Hid (y1.ownsMap Tryz.prog 9 W.RV (w.alloc (.cells #[.string m.nm, .bool m.up, .int .i64 m.ck, .bool m.kn, .int .i64 m.se, .slice (some ⟨b1, 0, none⟩) m.ws.length m.ws.length, .slice (some ⟨b2, 0, none⟩) m.rs.length m.rs.length, .slice (some ⟨b3, 0, none⟩) m.qs.length m.qs.length, .slice (some ⟨b4, 0, none⟩) m.gs.length m.gs.length] 35)).heap.size m.ws.length (W.dec m.ws)) := o1
  have P2 : Hid (y2.ownsMap Tryz.prog 9 RV y1.heap.size m.rs.length (dec m.rs)) := o2
  have P3 : Hid (y3.ownsMap Tryz.prog 9 A.RV y2.heap.size m.qs.length (A.dec m.qs)) := o3
  have P4 : Hid (y4.ownsMap Tryz.prog 9 A.RV y3.heap.size m.gs.length (A.dec m.gs)) := o4
  have z1 : w.heap.size < y1.heap.size := by have := h1.size; simp at this; omega
  have z0 : (w.alloc (.cells #[.string m.nm, .bool m.up, .int .i64 m.ck, .bool m.kn, .int .i64 m.se, .slice (some ⟨b1, 0, none⟩) m.ws.length m.ws.length, .slice (some ⟨b2, 0, none⟩) m.rs.length m.rs.length, .slice (some ⟨b3, 0, none⟩) m.qs.length m.qs.length, .slice (some ⟨b4, 0, none⟩) m.gs.length m.gs.length] 35)).heap.size < y1.heap.size := World.ownsMap.lt o1
  have z2 : y1.heap.size < y2.heap.size := World.ownsMap.lt o2
  have z3 : y2.heap.size < y3.heap.size := World.ownsMap.lt o3
  have z4 : y3.heap.size < y4.heap.size := World.ownsMap.lt o4
  clear h1 h2 h3 h4 o1 o2 o3 o4 hHeld5
  go_wp2
  go_ret
  exact ⟨⟨y4.heap.size, (w.alloc (.cells #[.string m.nm, .bool m.up, .int .i64 m.ck, .bool m.kn, .int .i64 m.se, .slice (some ⟨b1, 0, none⟩) m.ws.length m.ws.length, .slice (some ⟨b2, 0, none⟩) m.rs.length m.rs.length, .slice (some ⟨b3, 0, none⟩) m.qs.length m.qs.length, .slice (some ⟨b4, 0, none⟩) m.gs.length m.gs.length] 35)).heap.size, y1.heap.size, y2.heap.size, y3.heap.size, rfl, ⟨fun k => by simp [go_sem], fun k => by simp [go_sem], by simp,
    ⟨_, W.mapv_below P1.out (bl_alloc (bl_trans (bl_trans E2.out E3.out) E4.out) _)⟩, ⟨_, mapv_below P2.out (bl_alloc (bl_trans E3.out E4.out) _)⟩, ⟨_, A.mapv_below P3.out (bl_alloc E4.out _)⟩, ⟨_, A.mapv_below P4.out (bl_alloc (Below.refl _ _) _)⟩⟩, ⟨by simp, z0, z2, z3, z4⟩, _, hf.k2, mapv_below P2.out (bl_alloc (bl_trans E3.out E4.out) _)⟩, bl_alloc (bl_trans (bl_trans (bl_trans E1.out E2.out) E3.out) E4.out) _⟩
end Go.Proofs.YtiogkdafmgdbgaaGreat
/- A mate comes off deck. -/
namespace Go.Proofs.YtiogkdafmgdbgaaGreat
open Go.RowKit Go.Maps Go.WideMaps
set_option linter.unusedVariables false

/-- While a mate comes off deck: its box, ahead of it room for the answer. -/
structure Sd (w : World) (O : Array Value) (x : World) : Prop where
  b : ∀ k, x.cell? ⟨w.heap.size + 1, k, none⟩ = O[k]?
  c : ∀ k, x.frozen? ⟨w.heap.size + 1, k, none⟩ = false
  d : x.there w.heap.size 0 9
  e : Below w.heap.size w x
  f : w.heap.size + 1 < x.heap.size
theorem Sd.below {w x y : World} {O : Array Value} (h : Sd w O x) (hb : Below x.heap.size x y) : Sd w O y :=
  have hf := h.f
  ⟨fun k => (hb.cell (p := ⟨w.heap.size + 1, k, none⟩) hf).trans (h.b k), fun k => (hb.frozen (p := ⟨w.heap.size + 1, k, none⟩) hf).trans (h.c k), there_keep2 h.d (by omega) hb, bl_trans h.e hb, Nat.lt_of_lt_of_le hf hb.size⟩
theorem Sd.set {w x : World} {O : Array Value} (h : Sd w O x) (j : Nat) (hj : j < O.size) (u : Value) : Sd w (O.setIfInBounds j u) (x.setCell ⟨w.heap.size + 1, j, none⟩ u) := by
  have he : Ex (w.heap.size + 1) x (x.setCell ⟨w.heap.size + 1, j, none⟩ u) := (Ex.refl _ _).set j u
  have hf := h.f
  refine ⟨fun k => ?_, fun k => ?_, there_ex h.d (by omega) he (by omega), bl_set (p := ⟨w.heap.size + 1, j, none⟩) h.e (Nat.le_succ _) u, Nat.lt_of_lt_of_le hf he.size⟩
  · by_cases e : k = j
    · subst e
      have h1 := h.b k
      rw [Array.getElem?_eq_getElem hj] at h1
      rw [Array.getElem?_setIfInBounds_self_of_lt hj]
      exact World.cell?_setCell_same _ _ _ h1
    · rw [Array.getElem?_setIfInBounds_ne (fun h' => e h'.symm), ← h.b k]
      exact World.cell?_setCell_other _ _ _ _ (fun h' => e (by have := congrArg Addr.off h'; exact this.symm))
  · rw [World.frozen?_setCell]; exact h.c k
theorem sd_new (m : MateD) (x1 x2 x3 x4 : Option Addr) (t1 t2 t3 t4 c1 c2 c3 c4 : Nat) (w : World) : Sd w #[.string m.nm, .bool m.up, .int .i64 m.ck, .bool m.kn, .int .i64 m.se, .slice x1 t1 c1, .slice x2 t2 c2, .slice x3 t3 c3, .slice x4 t4 c4] ((w.alloc (.cells #[.string { data := #[] }, .bool false, .int .i64 0, .bool false, .int .i64 0, .slice none 0 0, .slice none 0 0, .slice none 0 0, .slice none 0 0] 35)).alloc (.cells #[.string m.nm, .bool m.up, .int .i64 m.ck, .bool m.kn, .int .i64 m.se, .slice x1 t1 c1, .slice x2 t2 c2, .slice x3 t3 c3, .slice x4 t4 c4] 35)) :=
  ⟨fun k => by simp [go_sem], fun k => by simp [go_sem], fun j hj => ⟨by simp [go_sem, World.cell?_alloc_past] <;> omega, by simp [go_sem]⟩, bl_alloc (bl_alloc (Below.refl _ _) _) _, by simp⟩

set_option maxRecDepth 4000 in
set_option maxHeartbeats 4000000 in
theorem told_deck (m : MateD) (x1 x2 x3 x4 : Option Addr) (t1 t2 t3 t4 c1 c2 c3 c4 : Nat) (d m1 m2 m3 m4 : Nat) (w : World) (hD : Deck w d #[.string m.nm, .bool m.up, .int .i64 m.ck, .bool m.kn, .int .i64 m.se, .slice x1 t1 c1, .slice x2 t2 c2, .slice x3 t3 c3, .slice x4 t4 c4, .map (some m1), .map (some m2), .map (some m3), .map (some m4)] m1 m2 m3 m4 m.ws m.rs m.qs m.gs) (hf : m.fits) (s1 : W.Srt m.ws) (s2 : Srt m.rs) (s3 : A.Srt m.qs) (s4 : A.Srt m.gs) :
    Calls Tryz.prog 33 #[.pointer (some ⟨d, 0, none⟩)] w fun e w' => (∃ v1 v2 v3 v4, e = .returned (.agg #[.string m.nm, .bool m.up, .int .i64 m.ck, .bool m.kn, .int .i64 m.se, v1, v2, v3, v4]) ∧ SlM w' m v1 v2 v3 v4 w.heap.size) ∧ Below w.heap.size w w' := by
  have S0 : Hid (Sd w #[.string m.nm, .bool m.up, .int .i64 m.ck, .bool m.kn, .int .i64 m.se, .slice x1 t1 c1, .slice x2 t2 c2, .slice x3 t3 c3, .slice x4 t4 c4] ((w.alloc (.cells #[.string { data := #[] }, .bool false, .int .i64 0, .bool false, .int .i64 0, .slice none 0 0, .slice none 0 0, .slice none 0 0, .slice none 0 0] 35)).alloc (.cells #[.string m.nm, .bool m.up, .int .i64 m.ck, .bool m.kn, .int .i64 m.se, .slice x1 t1 c1, .slice x2 t2 c2, .slice x3 t3 c3, .slice x4 t4 c4] 35))) := sd_new m x1 x2 x3 x4 t1 t2 t3 t4 c1 c2 c3 c4 w
  have HD : Hid (Deck w d #[.string m.nm, .bool m.up, .int .i64 m.ck, .bool m.kn, .int .i64 m.se, .slice x1 t1 c1, .slice x2 t2 c2, .slice x3 t3 c3, .slice x4 t4 c4, .map (some m1), .map (some m2), .map (some m3), .map (some m4)] m1 m2 m3 m4 m.ws m.rs m.qs m.gs) := hD
  have Hs1 : Hid (W.Srt m.ws) := s1
  have Hs2 : Hid (Srt m.rs) := s2
  have Hs3 : Hid (A.Srt m.qs) := s3
  have Hs4 : Hid (A.Srt m.gs) := s4
  have hinfo : (Tryz.prog.info? 35).map (·.size) = some 9 := by kernel_rfl
  have kc := hD.c
  have kf := hD.f
  have kl := hD.l
  clear hD s1 s2 s3 s4
  go_enter Tryz.func33, Tryz.ntmps33
  go_wp2_with fail
  obtain ⟨q1, hm1⟩ := (HD.out.keep S0.out.e).o1
  refine (W.inOrderV W.keysSay W.sortedSay m1 q1 m.ws _ hm1 Hs1.out (fun r hr => (hf.f1 r hr).1) hf.k1).mono ?_
  rintro e w1 ⟨⟨s1, rfl, r1⟩, y1⟩
  obtain ⟨a1, p1, hs1⟩ := W.Sl.shape r1
  subst hs1
  have Q1 : Hid (W.Sl w1 (.slice a1 m.ws.length p1) m.ws ((w.alloc (.cells #[.string { data := #[] }, .bool false, .int .i64 0, .bool false, .int .i64 0, .slice none 0 0, .slice none 0 0, .slice none 0 0, .slice none 0 0] 35)).alloc (.cells #[.string m.nm, .bool m.up, .int .i64 m.ck, .bool m.kn, .int .i64 m.se, .slice x1 t1 c1, .slice x2 t2 c2, .slice x3 t3 c3, .slice x4 t4 c4] 35)).heap.size) := r1
  have Y1 : Hid (Below ((w.alloc (.cells #[.string { data := #[] }, .bool false, .int .i64 0, .bool false, .int .i64 0, .slice none 0 0, .slice none 0 0, .slice none 0 0, .slice none 0 0] 35)).alloc (.cells #[.string m.nm, .bool m.up, .int .i64 m.ck, .bool m.kn, .int .i64 m.se, .slice x1 t1 c1, .slice x2 t2 c2, .slice x3 t3 c3, .slice x4 t4 c4] 35)).heap.size ((w.alloc (.cells #[.string { data := #[] }, .bool false, .int .i64 0, .bool false, .int .i64 0, .slice none 0 0, .slice none 0 0, .slice none 0 0, .slice none 0 0] 35)).alloc (.cells #[.string m.nm, .bool m.up, .int .i64 m.ck, .bool m.kn, .int .i64 m.se, .slice x1 t1 c1, .slice x2 t2 c2, .slice x3 t3 c3, .slice x4 t4 c4] 35)) w1) := y1
  have T1 : Hid (Sd w #[.string m.nm, .bool m.up, .int .i64 m.ck, .bool m.kn, .int .i64 m.se, .slice x1 t1 c1, .slice x2 t2 c2, .slice x3 t3 c3, .slice x4 t4 c4] w1) := S0.out.below y1
  have S1 : Hid (Sd w #[.string m.nm, .bool m.up, .int .i64 m.ck, .bool m.kn, .int .i64 m.se, (.slice a1 m.ws.length p1), .slice x2 t2 c2, .slice x3 t3 c3, .slice x4 t4 c4] (w1.setCell ⟨w.heap.size + 1, 5, none⟩ (.slice a1 m.ws.length p1))) := T1.out.set 5 (by simp) _
  have X1 : Hid (Ex (w.heap.size + 1) w1 (w1.setCell ⟨w.heap.size + 1, 5, none⟩ (.slice a1 m.ws.length p1))) := Ex.set (Ex.refl _ _) 5 _
  clear r1 y1 hm1 kc kf kl
  have kc := (HD.out.keep T1.out.e).c
  have kf := (HD.out.keep T1.out.e).f
  have kl := (HD.out.keep T1.out.e).l
  have ka1 := T1.out.b
  have kg1 := T1.out.c
  have kz1 := T1.out.f
  have kd1 : d < w.heap.size := HD.out.l
  go_wp2_with fail
  obtain ⟨q2, hm2⟩ := (HD.out.keep S1.out.e).o2
  refine (inOrderV keysSay sortedSay m2 q2 m.rs _ hm2 Hs2.out (fun r hr => (hf.f2 r hr).1) hf.k2).mono ?_
  rintro e w2 ⟨⟨s2, rfl, r2⟩, y2⟩
  obtain ⟨a2, p2, hs2⟩ := Sl.shape r2
  subst hs2
  have Q2 : Hid (Sl w2 (.slice a2 m.rs.length p2) m.rs (w1.setCell ⟨w.heap.size + 1, 5, none⟩ (.slice a1 m.ws.length p1)).heap.size) := r2
  have Y2 : Hid (Below (w1.setCell ⟨w.heap.size + 1, 5, none⟩ (.slice a1 m.ws.length p1)).heap.size (w1.setCell ⟨w.heap.size + 1, 5, none⟩ (.slice a1 m.ws.length p1)) w2) := y2
  have T2 : Hid (Sd w #[.string m.nm, .bool m.up, .int .i64 m.ck, .bool m.kn, .int .i64 m.se, (.slice a1 m.ws.length p1), .slice x2 t2 c2, .slice x3 t3 c3, .slice x4 t4 c4] w2) := S1.out.below y2
  have S2 : Hid (Sd w #[.string m.nm, .bool m.up, .int .i64 m.ck, .bool m.kn, .int .i64 m.se, (.slice a1 m.ws.length p1), (.slice a2 m.rs.length p2), .slice x3 t3 c3, .slice x4 t4 c4] (w2.setCell ⟨w.heap.size + 1, 6, none⟩ (.slice a2 m.rs.length p2))) := T2.out.set 6 (by simp) _
  have X2 : Hid (Ex (w.heap.size + 1) w2 (w2.setCell ⟨w.heap.size + 1, 6, none⟩ (.slice a2 m.rs.length p2))) := Ex.set (Ex.refl _ _) 6 _
  clear r2 y2 hm2 kc kf kl ka1 kg1 kz1
  have kc := (HD.out.keep T2.out.e).c
  have kf := (HD.out.keep T2.out.e).f
  have kl := (HD.out.keep T2.out.e).l
  have ka2 := T2.out.b
  have kg2 := T2.out.c
  have kz2 := T2.out.f
  have kd2 : d < w.heap.size := HD.out.l
  go_wp2_with fail
  obtain ⟨q3, hm3⟩ := (HD.out.keep S2.out.e).o3
  refine (A.inOrderV A.keysSay A.sortedSay m3 q3 m.qs _ hm3 Hs3.out (fun r hr => (hf.f3 r hr).1) hf.k3).mono ?_
  rintro e w3 ⟨⟨s3, rfl, r3⟩, y3⟩
  obtain ⟨a3, p3, hs3⟩ := A.Sl.shape r3
  subst hs3
  have Q3 : Hid (A.Sl w3 (.slice a3 m.qs.length p3) m.qs (w2.setCell ⟨w.heap.size + 1, 6, none⟩ (.slice a2 m.rs.length p2)).heap.size) := r3
  have Y3 : Hid (Below (w2.setCell ⟨w.heap.size + 1, 6, none⟩ (.slice a2 m.rs.length p2)).heap.size (w2.setCell ⟨w.heap.size + 1, 6, none⟩ (.slice a2 m.rs.length p2)) w3) := y3
  have T3 : Hid (Sd w #[.string m.nm, .bool m.up, .int .i64 m.ck, .bool m.kn, .int .i64 m.se, (.slice a1 m.ws.length p1), (.slice a2 m.rs.length p2), .slice x3 t3 c3, .slice x4 t4 c4] w3) := S2.out.below y3
  have S3 : Hid (Sd w #[.string m.nm, .bool m.up, .int .i64 m.ck, .bool m.kn, .int .i64 m.se, (.slice a1 m.ws.length p1), (.slice a2 m.rs.length p2), (.slice a3 m.qs.length p3), .slice x4 t4 c4] (w3.setCell ⟨w.heap.size + 1, 7, none⟩ (.slice a3 m.qs.length p3))) := T3.out.set 7 (by simp) _
  have X3 : Hid (Ex (w.heap.size + 1) w3 (w3.setCell ⟨w.heap.size + 1, 7, none⟩ (.slice a3 m.qs.length p3))) := Ex.set (Ex.refl _ _) 7 _
  clear r3 y3 hm3 kc kf kl ka2 kg2 kz2
  have kc := (HD.out.keep T3.out.e).c
  have kf := (HD.out.keep T3.out.e).f
  have kl := (HD.out.keep T3.out.e).l
  have ka3 := T3.out.b
  have kg3 := T3.out.c
  have kz3 := T3.out.f
  have kd3 : d < w.heap.size := HD.out.l
  go_wp2_with fail
  obtain ⟨q4, hm4⟩ := (HD.out.keep S3.out.e).o4
  refine (A.inOrderV A.keysSay A.sortedSay m4 q4 m.gs _ hm4 Hs4.out (fun r hr => (hf.f4 r hr).1) hf.k4).mono ?_
  rintro e w4 ⟨⟨s4, rfl, r4⟩, y4⟩
  obtain ⟨a4, p4, hs4⟩ := A.Sl.shape r4
  subst hs4
  have Q4 : Hid (A.Sl w4 (.slice a4 m.gs.length p4) m.gs (w3.setCell ⟨w.heap.size + 1, 7, none⟩ (.slice a3 m.qs.length p3)).heap.size) := r4
  have Y4 : Hid (Below (w3.setCell ⟨w.heap.size + 1, 7, none⟩ (.slice a3 m.qs.length p3)).heap.size (w3.setCell ⟨w.heap.size + 1, 7, none⟩ (.slice a3 m.qs.length p3)) w4) := y4
  have T4 : Hid (Sd w #[.string m.nm, .bool m.up, .int .i64 m.ck, .bool m.kn, .int .i64 m.se, (.slice a1 m.ws.length p1), (.slice a2 m.rs.length p2), (.slice a3 m.qs.length p3), .slice x4 t4 c4] w4) := S3.out.below y4
  have S4 : Hid (Sd w #[.string m.nm, .bool m.up, .int .i64 m.ck, .bool m.kn, .int .i64 m.se, (.slice a1 m.ws.length p1), (.slice a2 m.rs.length p2), (.slice a3 m.qs.length p3), (.slice a4 m.gs.length p4)] (w4.setCell ⟨w.heap.size + 1, 8, none⟩ (.slice a4 m.gs.length p4))) := T4.out.set 8 (by simp) _
  have X4 : Hid (Ex (w.heap.size + 1) w4 (w4.setCell ⟨w.heap.size + 1, 8, none⟩ (.slice a4 m.gs.length p4))) := Ex.set (Ex.refl _ _) 8 _
  clear r4 y4 hm4 kc kf kl ka3 kg3 kz3
  have kc := (HD.out.keep T4.out.e).c
  have kf := (HD.out.keep T4.out.e).f
  have kl := (HD.out.keep T4.out.e).l
  have ka4 := T4.out.b
  have kg4 := T4.out.c
  have kz4 := T4.out.f
  have kd4 : d < w.heap.size := HD.out.l
  have hx1 : Ex w.heap.size (w4.setCell ⟨w.heap.size + 1, 8, none⟩ (.slice a4 m.gs.length p4)) (World.setCells (w4.setCell ⟨w.heap.size + 1, 8, none⟩ (.slice a4 m.gs.length p4)) w.heap.size 0 [.string m.nm, .bool m.up, .int .i64 m.ck, .bool m.kn, .int .i64 m.se, (.slice a1 m.ws.length p1), (.slice a2 m.rs.length p2), (.slice a3 m.qs.length p3), (.slice a4 m.gs.length p4)]) := (Ex.refl _ _).cells _ _
  have P1 : Hid (W.Sl (World.setCells (w4.setCell ⟨w.heap.size + 1, 8, none⟩ (.slice a4 m.gs.length p4)) w.heap.size 0 [.string m.nm, .bool m.up, .int .i64 m.ck, .bool m.kn, .int .i64 m.se, (.slice a1 m.ws.length p1), (.slice a2 m.rs.length p2), (.slice a3 m.qs.length p3), (.slice a4 m.gs.length p4)]) (.slice a1 m.ws.length p1) m.ws w.heap.size) := W.Sl.low (((((((((Q1.out).grown (W.ex_grown X1.out) (ob_ne (N := w.heap.size + 1) (fun g hg => by have h1 := (Q1.out.lt g hg).1; have h2 := S0.out.f; omega) (by omega))).keep Y2.out).grown (W.ex_grown X2.out) (ob_ne (N := w.heap.size + 1) (fun g hg => by have h1 := (Q1.out.lt g hg).1; have h2 := S0.out.f; omega) (by omega))).keep Y3.out).grown (W.ex_grown X3.out) (ob_ne (N := w.heap.size + 1) (fun g hg => by have h1 := (Q1.out.lt g hg).1; have h2 := S0.out.f; omega) (by omega))).keep Y4.out).grown (W.ex_grown X4.out) (ob_ne (N := w.heap.size + 1) (fun g hg => by have h1 := (Q1.out.lt g hg).1; have h2 := S0.out.f; omega) (by omega))).grown (W.ex_grown hx1) (ob_ne (N := w.heap.size + 1) (fun g hg => by have h1 := (Q1.out.lt g hg).1; have h2 := S0.out.f; omega) (by omega))) (by have := S0.out.f; omega)
  have P2 : Hid (Sl (World.setCells (w4.setCell ⟨w.heap.size + 1, 8, none⟩ (.slice a4 m.gs.length p4)) w.heap.size 0 [.string m.nm, .bool m.up, .int .i64 m.ck, .bool m.kn, .int .i64 m.se, (.slice a1 m.ws.length p1), (.slice a2 m.rs.length p2), (.slice a3 m.qs.length p3), (.slice a4 m.gs.length p4)]) (.slice a2 m.rs.length p2) m.rs w.heap.size) := Sl.low (((((((Q2.out).grown (ex_grown X2.out) (ob_ne (N := w.heap.size + 1) (fun g hg => by have h1 := (Q2.out.lt g hg).1; have h2 := S1.out.f; omega) (by omega))).keep Y3.out).grown (ex_grown X3.out) (ob_ne (N := w.heap.size + 1) (fun g hg => by have h1 := (Q2.out.lt g hg).1; have h2 := S1.out.f; omega) (by omega))).keep Y4.out).grown (ex_grown X4.out) (ob_ne (N := w.heap.size + 1) (fun g hg => by have h1 := (Q2.out.lt g hg).1; have h2 := S1.out.f; omega) (by omega))).grown (ex_grown hx1) (ob_ne (N := w.heap.size + 1) (fun g hg => by have h1 := (Q2.out.lt g hg).1; have h2 := S1.out.f; omega) (by omega))) (by have := S1.out.f; omega)
  have P3 : Hid (A.Sl (World.setCells (w4.setCell ⟨w.heap.size + 1, 8, none⟩ (.slice a4 m.gs.length p4)) w.heap.size 0 [.string m.nm, .bool m.up, .int .i64 m.ck, .bool m.kn, .int .i64 m.se, (.slice a1 m.ws.length p1), (.slice a2 m.rs.length p2), (.slice a3 m.qs.length p3), (.slice a4 m.gs.length p4)]) (.slice a3 m.qs.length p3) m.qs w.heap.size) := A.Sl.low (((((Q3.out).grown (A.ex_grown X3.out) (ob_ne (N := w.heap.size + 1) (fun g hg => by have h1 := (Q3.out.lt g hg).1; have h2 := S2.out.f; omega) (by omega))).keep Y4.out).grown (A.ex_grown X4.out) (ob_ne (N := w.heap.size + 1) (fun g hg => by have h1 := (Q3.out.lt g hg).1; have h2 := S2.out.f; omega) (by omega))).grown (A.ex_grown hx1) (ob_ne (N := w.heap.size + 1) (fun g hg => by have h1 := (Q3.out.lt g hg).1; have h2 := S2.out.f; omega) (by omega))) (by have := S2.out.f; omega)
  have P4 : Hid (A.Sl (World.setCells (w4.setCell ⟨w.heap.size + 1, 8, none⟩ (.slice a4 m.gs.length p4)) w.heap.size 0 [.string m.nm, .bool m.up, .int .i64 m.ck, .bool m.kn, .int .i64 m.se, (.slice a1 m.ws.length p1), (.slice a2 m.rs.length p2), (.slice a3 m.qs.length p3), (.slice a4 m.gs.length p4)]) (.slice a4 m.gs.length p4) m.gs w.heap.size) := A.Sl.low (((Q4.out).grown (A.ex_grown X4.out) (ob_ne (N := w.heap.size + 1) (fun g hg => by have h1 := (Q4.out.lt g hg).1; have h2 := S3.out.f; omega) (by omega))).grown (A.ex_grown hx1) (ob_ne (N := w.heap.size + 1) (fun g hg => by have h1 := (Q4.out.lt g hg).1; have h2 := S3.out.f; omega) (by omega))) (by have := S3.out.f; omega)
  have D12 : Hid (Dif (.slice a1 m.ws.length p1) (.slice a2 m.rs.length p2)) := dif_lt (fun g hg => (Q1.out.lt g hg).2) (fun g hg => (Q2.out.lt g hg).1) (by have h0 := X1.out.size; omega)
  have D13 : Hid (Dif (.slice a1 m.ws.length p1) (.slice a3 m.qs.length p3)) := dif_lt (fun g hg => (Q1.out.lt g hg).2) (fun g hg => (Q3.out.lt g hg).1) (by have h0 := X1.out.size; have h1 := X2.out.size; have h2 := Y2.out.size; omega)
  have D14 : Hid (Dif (.slice a1 m.ws.length p1) (.slice a4 m.gs.length p4)) := dif_lt (fun g hg => (Q1.out.lt g hg).2) (fun g hg => (Q4.out.lt g hg).1) (by have h0 := X1.out.size; have h1 := X2.out.size; have h2 := X3.out.size; have h3 := Y2.out.size; have h4 := Y3.out.size; omega)
  have D23 : Hid (Dif (.slice a2 m.rs.length p2) (.slice a3 m.qs.length p3)) := dif_lt (fun g hg => (Q2.out.lt g hg).2) (fun g hg => (Q3.out.lt g hg).1) (by have h0 := X2.out.size; omega)
  have D24 : Hid (Dif (.slice a2 m.rs.length p2) (.slice a4 m.gs.length p4)) := dif_lt (fun g hg => (Q2.out.lt g hg).2) (fun g hg => (Q4.out.lt g hg).1) (by have h0 := X2.out.size; have h1 := X3.out.size; have h2 := Y3.out.size; omega)
  have D34 : Hid (Dif (.slice a3 m.qs.length p3) (.slice a4 m.gs.length p4)) := dif_lt (fun g hg => (Q3.out.lt g hg).2) (fun g hg => (Q4.out.lt g hg).1) (by have h0 := X3.out.size; omega)
  have LS : Hid (SlM (World.setCells (w4.setCell ⟨w.heap.size + 1, 8, none⟩ (.slice a4 m.gs.length p4)) w.heap.size 0 [.string m.nm, .bool m.up, .int .i64 m.ck, .bool m.kn, .int .i64 m.se, (.slice a1 m.ws.length p1), (.slice a2 m.rs.length p2), (.slice a3 m.qs.length p3), (.slice a4 m.gs.length p4)]) m (.slice a1 m.ws.length p1) (.slice a2 m.rs.length p2) (.slice a3 m.qs.length p3) (.slice a4 m.gs.length p4) w.heap.size) := ⟨P1.out, P2.out, P3.out, P4.out, D12.out, D13.out, D14.out, D23.out, D24.out, D34.out⟩
  have BE : Hid (Below w.heap.size w (World.setCells (w4.setCell ⟨w.heap.size + 1, 8, none⟩ (.slice a4 m.gs.length p4)) w.heap.size 0 [.string m.nm, .bool m.up, .int .i64 m.ck, .bool m.kn, .int .i64 m.se, (.slice a1 m.ws.length p1), (.slice a2 m.rs.length p2), (.slice a3 m.qs.length p3), (.slice a4 m.gs.length p4)])) := Ex.mono S4.out.e hx1 (Nat.le_refl _)
  have RG : Hid _ := World.rangeAt_setCells_same (w4.setCell ⟨w.heap.size + 1, 8, none⟩ (.slice a4 m.gs.length p4)) w.heap.size 0 [.string m.nm, .bool m.up, .int .i64 m.ck, .bool m.kn, .int .i64 m.se, (.slice a1 m.ws.length p1), (.slice a2 m.rs.length p2), (.slice a3 m.qs.length p3), (.slice a4 m.gs.length p4)] S4.out.d
  clear hx1 P1 P2 P3 P4
  go_wp2_with (refine wpList_store_mid (by rfl) 35 _ _ (by rfl) w.heap.size 0 #[.string m.nm, .bool m.up, .int .i64 m.ck, .bool m.kn, .int .i64 m.se, (.slice a1 m.ws.length p1), (.slice a2 m.rs.length p2), (.slice a3 m.qs.length p3), (.slice a4 m.gs.length p4)] (by rfl) (by rfl) (by exact S4.out.d) hinfo (by exact all_oneCell_toArray (ones m Q1.out Q2.out Q3.out Q4.out)) ?_)
  have hrg := RG.out
  have d0 := hrg 0 _ rfl
  have d1 := hrg 1 _ rfl
  have d2 := hrg 2 _ rfl
  have d3 := hrg 3 _ rfl
  have d4 := hrg 4 _ rfl
  have d5 := hrg 5 _ rfl
  have d6 := hrg 6 _ rfl
  have d7 := hrg 7 _ rfl
  have d8 := hrg 8 _ rfl
  simp only [Nat.zero_add] at d0 d1 d2 d3 d4 d5 d6 d7 d8
  exact bodyPost_ret (v := .agg #[.string m.nm, .bool m.up, .int .i64 m.ck, .bool m.kn, .int .i64 m.se, (.slice a1 m.ws.length p1), (.slice a2 m.rs.length p2), (.slice a3 m.qs.length p3), (.slice a4 m.gs.length p4)]) (by simp [results, Tryz.results33, go_sem, d0, d1, d2, d3, d4, d5, d6, d7, d8]) rfl ⟨⟨_, _, _, _, rfl, LS.out⟩, BE.out⟩
end Go.Proofs.YtiogkdafmgdbgaaGreat
