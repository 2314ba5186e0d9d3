import Derived.Test.YtefkdohkjdopeaaGreatDoorJ02
import Derived.Test.YtefkdohkjdopeaaGreatDoorJ01
import Derived.Deep.MidRow
import Derived.Laws.MakeOwn
namespace Go.Proofs.YtefkdohkjdopeaaGreatDoor.G
open Go.RowKit Go.Maps Go.WideMaps
set_option linter.unusedVariables false
def KeysSay : Prop := ∀ (mb : Option Nat) (Wo : World), Calls Tryz.prog 90 #[.map mb] Wo fun e w' => e = .returned (.func (.func 101) #[] #[.pointer (some ⟨Wo.heap.size, 0, none⟩)]) ∧ w' = Wo.alloc (.cells #[.map mb] 107)
def SortedSay : Prop := ∀ (b nn : Nat) (rs : List GrantD) (w : World), w.ownsMap Tryz.prog 9 RV b nn (dec rs) → rs.length ≤ 1048576 →
 Calls Tryz.prog 89 #[.func (.func 101) #[] #[.pointer (some ⟨w.heap.size, 0, none⟩)]] (w.alloc (.cells #[.map (some b)] 107)) fun e w' => ∃ (v : Value) (ss : List (List UInt8)), e = .returned v ∧ ss.Perm (strKeys (dec rs)) ∧
  w'.ownsRow (w.alloc (.cells #[.map (some b)] 107)).heap.size 9 1 v ss.length ((ss.mergeSort (fun x y => decide (x ≤ y))).map encStr) ∧ Below (w.alloc (.cells #[.map (some b)] 107)).heap.size (w.alloc (.cells #[.map (some b)] 107)) w'
theorem atV {w : World} (b n : Nat) (rs : List GrantD) (hown : w.ownsMap Tryz.prog 9 RV b n (dec rs)) (hs : Srt rs) (r : GrantD) (hr : r ∈ rs) (hz : r.h.size ≤ maxLen) :
  Sem.run Tryz.prog (Instr.lookup 107 (.map (some b)) (.string r.h) false) w = .ok (.agg #[.string r.h, .string r.b, .string r.c, .int .i64 r.t, .int .i64 r.u]) w := by
 obtain ⟨v, ps, hrun, hv⟩ := hown.lookup lawV (t := 107) (e := 61) Tryz.underlying107 (zeroV w) (zd := .held ⟨⟨#[]⟩, ⟨#[]⟩, ⟨#[]⟩, 0, 0⟩) (zp := []) rfl (keyOf_string_mk Tryz.underlying9 hz)
 rw [show Lit.string r.h.data.toList = Lit.string (keyV r) from rfl, show (dec rs).atKey (Lit.string (keyV r)) (.held ⟨⟨#[]⟩, ⟨#[]⟩, ⟨#[]⟩, 0, 0⟩) = .held r from Ord.dec_at keyV hs hr _] at hv
 rw [RV_inv hv] at hrun
 exact hrun
theorem enc_key (r : GrantD) : encStr (keyV r) = Value.string r.h := by
 show Value.string ⟨r.h.data.toList.toArray⟩ = _
 rw [Array.toArray_toList]
theorem flat_snoc' {rs : List GrantD} {k : Nat} {r : GrantD} (hr : rs[k]? = some r) : flatR (rs.take (k + 1)) = flatR (rs.take k) ++ r.cells := by
 have hlt : k < rs.length := (List.getElem?_eq_some_iff.1 hr).1
 have he : rs[k] = r := by rw [List.getElem?_eq_getElem hlt] at hr; exact Option.some.inj hr
 rw [List.take_succ_eq_append_getElem hlt, he]
 simp [flatR]
set_option maxRecDepth 4000 in
set_option maxHeartbeats 2000000 in
theorem own_low {w : World} {v : Value} {m : Nat} {xs : List Value} {B B' : Nat} (h : w.ownsRow B 61 5 v m xs) (hB : B' ≤ B) : w.ownsRow B' 61 5 v m xs := by
 obtain ⟨h1, h2 | ⟨g, cap, cur, h3, h4, h5⟩⟩ := h
 ·
  exact ⟨h1, Or.inl h2⟩
 ·
  exact ⟨h1, Or.inr ⟨g, cap, cur, h3, Nat.le_trans hB h4, h5⟩⟩
set_option maxRecDepth 4000 in
set_option maxHeartbeats 2000000 in
theorem inOrderO (hK : KeysSay) (hS : SortedSay) (b nn : Nat) (rs : List GrantD) (w : World) (hown : w.ownsMap Tryz.prog 9 RV b nn (dec rs)) (hs : Srt rs) (hfit : ∀ r ∈ rs, r.h.size ≤ maxLen) (hl : rs.length ≤ 1048576) :
  Calls Tryz.prog 71 #[.map (some b)] w fun e w' => (∃ v, e = .returned v ∧ w'.ownsRow w.heap.size 61 5 v rs.length (flatR rs)) ∧ Below w.heap.size w w' := by
 have HO : Hid (w.ownsMap Tryz.prog 9 RV b nn (dec rs)) := hown
 have HS : Hid (Srt rs) := hs
 have cK : Hid KeysSay := hK
 have cS : Hid SortedSay := hS
 have HF : Hid _ := hfit
 clear hown hs hK hS hfit
 obtain ⟨i0, hi, hz0, hz1, hz2⟩ := info_parts infoR
 go_enter Tryz.func71, Tryz.ntmps71
 go_wp2_with fail
 refine (cK.out _ _).mono ?_
 rintro e w' ⟨rfl, rfl⟩
 go_wp2_with fail
 refine (cS.out b nn rs _ HO.out hl).mono ?_
 rintro e w1 ⟨v, ss, rfl, hp, hrow, hb⟩
 have hlen : ss.length = rs.length := by rw [hp.length_eq, show strKeys (dec rs) = rs.map keyV from Ord.keys_dec keyV rs, List.length_map]
 rw [Ord.sorted_keys keyV HS.out hp, hlen] at hrow
 have B1 : Hid (Below w.heap.size w w1) := bl_trans (bl_alloc (Below.refl _ _) _) hb
 have O1 : Hid (w1.ownsMap Tryz.prog 9 RV b nn (dec rs)) := mapv_below HO.out B1.out
 obtain ⟨a, c, rfl⟩ := str_shape hrow
 have Hrow : Hid (StrAt w1 a (rs.map (fun r => r.h))) := str_at (by rw [List.length_map, List.map_map]; rw [List.map_map, show (encStr ∘ keyV) = ((fun x => Value.string x) ∘ fun r : GrantD => r.h) from funext enc_key] at hrow; exact hrow)
 clear hrow hp hb hlen
 go_wp2_with fail
 go_loopw [3, 10] (fun v i wx => ∃ (k : Nat), k ≤ rs.length ∧ i = .int .i64 k ∧ wx.ownsRow w1.heap.size 61 5 v k (flatR (rs.take k)) ∧ Hid (Below w1.heap.size w1 wx)) (fun _ i _ => rs.length - (intOf i).toNat)
 case atStart => exact ⟨0, Nat.zero_le _, rfl, World.ownsRow_nil _ _ _ _, Below.refl _ _⟩
 case round =>
  obtain ⟨k, hk, rfl, hown, HB⟩ := hrel
  by_cases hlt : k < rs.length
  ·
   obtain ⟨r, hr⟩ : ∃ r, rs[k]? = some r := ⟨rs[k], List.getElem?_eq_getElem hlt⟩
   have Hr : Hid _ := hr
   obtain ⟨g, rfl, hg, hc⟩ := (Hrow.out.keep HB.out).resolve_left (fun h => by rw [List.map_eq_nil_iff] at h; rw [h] at hlt; simp at hlt)
   have c0 := hc k r.h (by rw [List.getElem?_map, hr]; rfl)
   have hlk := atV b nn rs (mapv_below O1.out HB.out) HS.out r (List.mem_of_getElem? hr) (HF.out r (List.mem_of_getElem? hr))
   obtain ⟨xs, hxs⟩ : ∃ xs, xs = flatR (rs.take k) := ⟨_, rfl⟩
   rw [← hxs] at hown
   have Ho : Hid (wr.ownsRow w1.heap.size 61 5 u3 k xs) := hown
   have Hx : Hid _ := hxs
   have hzw : w1.heap.size ≤ wr.heap.size := HB.out.size
   have i1 : (k : Int) < (rs.length : Int) := by omega
   clear hr hown hxs hc
   go_wp2_with (at_builtin; refine wpList_append_own _ rfl _ _ 31 rfl w1.heap.size 61 i0 _ 5 64 Tryz.underlying31 hi hz0 hz1 hz2 rfl (by decide) _ k _ rfl (by exact owns_below Ho.out (by repeat (first | exact Below.refl _ _ | refine bl_alloc ?_ _))) ⟨_, 0, none⟩ 1 1 r.cells rfl rfl (new_cells _ _ (by simp) _ _ _ rfl) (cellsR_one _) (by unfold maxLen; omega) (by omega) (by simp; omega) ?_; intro v' w2 ho2 hg2 hn2)
   refine ⟨⟨k + 1, by omega, by go_num, ?_, Below.grown (by repeat (first | exact HB.out | refine bl_alloc ?_ _)) hg2 (by simp; omega) (owns_ge Ho.out)⟩, by simp [intOf]; omega⟩
   rw [flat_snoc' Hr.out, ← Hx.out]
   exact ho2
  ·
   go_wp2
   go_ret
   have hk' : k = rs.length := by omega
   subst hk'
   rw [List.take_of_length_le (Nat.le_refl _)] at hown
   exact ⟨⟨_, rfl, own_low hown B1.out.size⟩, bl_trans B1.out HB.out⟩
end Go.Proofs.YtefkdohkjdopeaaGreatDoor.G
namespace Go.Proofs.YtefkdohkjdopeaaGreatDoor.W
open Go.RowKit
set_option linter.unusedVariables false
theorem toWant_b (c h : ByteArray) (v p s d g : Int) (w : World) :
  Calls Tryz.prog 51 #[.agg #[.string c, .int .i64 v, .string h, .int .i64 p, .int .i64 s, .int .i64 d, .int .i64 g]] w fun e w' => e = .returned (.agg #[.string c, .int .i64 v, .string h, .int .i64 p, .int .i64 s, .int .i64 d, .int .i64 g]) ∧ Below w.heap.size w w' := by
 refine (toWant_any c h v p s d g w).mono ?_
 rintro e w' ⟨rfl, rfl⟩
 exact ⟨rfl, by repeat (first | exact Below.refl _ _ | refine bl_alloc ?_ _)⟩
structure WantD where
 c : ByteArray
 h : ByteArray
 v : Int
 p : Int
 s : Int
 d : Int
 g : Int
def WantD.cells (r : WantD) : List Value := [.string r.c, .int .i64 r.v, .string r.h, .int .i64 r.p, .int .i64 r.s, .int .i64 r.d, .int .i64 r.g]
def WantD.fits (r : WantD) : Prop := r.c.size ≤ maxLen ∧ r.h.size ≤ maxLen
def RowsAt (w : World) (b off : Nat) (rs : List WantD) : Prop := ∀ k r, rs[k]? = some r → w.rangeAt b (off + k * 7) r.cells
theorem RowsAt.keep {w w' : World} {b off : Nat} {rs : List WantD} (h : RowsAt w b off rs) (hb : b < w.heap.size) (hB : Below w.heap.size w w') : RowsAt w' b off rs :=
 fun k r hk j v hj => (hB.cell (p := ⟨b, off + k * 7 + j, none⟩) hb).trans (h k r hk j v hj)
theorem RowsAt.at {w : World} {b off : Nat} {rs : List WantD} (h : RowsAt w b off rs) {k : Nat} {r : WantD} (hk : rs[k]? = some r) :
  w.cell? ⟨b, off + k * 7, none⟩ = some (.string r.c) ∧ w.cell? ⟨b, off + k * 7 + 1, none⟩ = some (.int .i64 r.v) ∧ w.cell? ⟨b, off + k * 7 + 2, none⟩ = some (.string r.h) ∧ w.cell? ⟨b, off + k * 7 + 3, none⟩ = some (.int .i64 r.p) ∧ w.cell? ⟨b, off + k * 7 + 4, none⟩ = some (.int .i64 r.s) ∧ w.cell? ⟨b, off + k * 7 + 5, none⟩ = some (.int .i64 r.d) ∧ w.cell? ⟨b, off + k * 7 + 6, none⟩ = some (.int .i64 r.g) :=
 ⟨h k r hk 0 _ rfl, h k r hk 1 _ rfl, h k r hk 2 _ rfl, h k r hk 3 _ rfl, h k r hk 4 _ rfl, h k r hk 5 _ rfl, h k r hk 6 _ rfl⟩
end Go.Proofs.YtefkdohkjdopeaaGreatDoor.W
namespace Go.Proofs.YtefkdohkjdopeaaGreatDoor.W
open Go.RowKit
set_option linter.unusedVariables false
theorem make_wants (n : Nat) (hn : n ≤ 1048576) : ∃ C : Array Value, C.size = n * 7 ∧ ∀ w : World, Sem.run Tryz.prog (Instr.makeSlice 39 (.int .i64 (n : Int)) (.int .i64 (n : Int))) w = .ok (.slice (some ⟨w.heap.size, 0, none⟩) n n) (w.alloc (.cells C 94)) := by
 have hq : (Tryz.prog.info? 94).map (fun i => (i.size, i.bytes, i.zero)) = some (7, 72, some (.agg #[.string ⟨#[]⟩, .int .i64 0, .string ⟨#[]⟩, .int .i64 0, .int .i64 0, .int .i64 0, .int .i64 0])) := by kernel_rfl
 cases hi : Tryz.prog.info? 94 with
 | none => rw [hi] at hq; simp at hq
 | some i =>
  rw [hi] at hq
  simp only [Option.map_some, Option.some.injEq, Prod.mk.injEq] at hq
  obtain ⟨h1, h2, h3⟩ := hq
  refine ⟨madeCells (Value.cells (.agg #[.string ⟨#[]⟩, .int .i64 0, .string ⟨#[]⟩, .int .i64 0, .int .i64 0, .int .i64 0, .int .i64 0])) (n * i.size), (size_madeCells _ _).trans (by rw [h1]), fun w => ?_⟩
  have := run_make (P := Tryz.prog) w 39 94 i _ Tryz.underlying39 hi h3 .i64 .i64 n n (by omega) (by omega) (by rw [h2]; omega) (by omega)
  simpa using this
theorem bl_cells {A : World} {k : Nat} (hk : A.heap.size ≤ k) : ∀ (vs : List Value) (o : Nat) (w' : World), Below A.heap.size A w' → Below A.heap.size A (w'.setCells k o vs)
 | [], _, _, h => h
 | v :: r, o, w', h => bl_cells hk r (o + 1) _ (bl_set h (by exact hk) v)
theorem size_cells {k : Nat} : ∀ (vs : List Value) (o : Nat) (w' : World), (w'.setCells k o vs).heap.size = w'.heap.size
 | [], _, _ => rfl
 | v :: r, o, w' => (size_cells r (o + 1) _).trans (by simp [World.setCell])
theorem there_keep {x y : World} {k o n : Nat} (h : x.there k o n) (hk : k < x.heap.size) (hb : Below x.heap.size x y) : y.there k o n :=
 fun j hj => ⟨by rw [hb.cell (p := ⟨k, o + j, none⟩) hk]; exact (h j hj).1, by rw [hb.frozen (p := ⟨k, o + j, none⟩) hk]; exact (h j hj).2⟩
theorem there_part {x : World} {g n k : Nat} (h : x.there g 0 (n * 7)) (hk : k < n) : x.there g (k * 7) 7 :=
 fun j hj => by have := h (k * 7 + j) (by omega); simpa using this
theorem there_new {w : World} {C : Array Value} {t : TypeId} {n : Nat} (hC : C.size = n * 7) : (w.alloc (.cells C t)).there w.heap.size 0 (n * 7) :=
 fun j hj => ⟨by simp [go_sem]; omega, by simp [go_sem]⟩
theorem rows_step {x : World} {g k : Nat} {rs : List WantD} {r : WantD} (hr : rs[k]? = some r) (h : RowsAt x g 0 (rs.take k)) (ht : x.there g (k * 7) 7) : RowsAt (x.setCells g (k * 7) r.cells) g 0 (rs.take (k + 1)) := by
 intro j q hj
 rw [List.getElem?_take] at hj
 split at hj
 case isFalse => cases hj
 rename_i hlt
 by_cases e : j = k
 ·
  subst e
  rw [hr] at hj
  cases hj
  have := World.rangeAt_setCells_same x g (j * 7) r.cells ht
  simpa using this
 ·
  have hj' : (rs.take k)[j]? = some q := by rw [List.getElem?_take, if_pos (by omega)]; exact hj
  exact World.rangeAt_setCells_apart (h j q hj') g (k * 7) r.cells (Or.inr (Or.inl (by show 0 + j * 7 + 7 ≤ k * 7; omega)))
set_option maxHeartbeats 1000000 in
theorem toWantS (b off cap : Nat) (rs : List WantD) (w : World) (hR : RowsAt w b off rs) (hb : b < w.heap.size) (hl : rs.length ≤ 1048576) :
  Calls Tryz.prog 30 #[.slice (some ⟨b, off, none⟩) rs.length cap] w fun e w' => e = .returned (.slice (some ⟨w.heap.size, 0, none⟩) rs.length rs.length) ∧ RowsAt w' w.heap.size 0 rs ∧ w'.there w.heap.size 0 (rs.length * 7) ∧ w.heap.size < w'.heap.size ∧ Below w.heap.size w w' := by
 obtain ⟨C, hC, hmk⟩ := make_wants rs.length hl
 have hinfo : (Tryz.prog.info? 94).map (·.size) = some 7 := by kernel_rfl
 go_enter Tryz.func30, Tryz.ntmps30
 go_wp2
 go_loopw [4] (fun i wx => ∃ (k : Nat), k ≤ rs.length ∧ i = .int .i64 k ∧ RowsAt wx w.heap.size 0 (rs.take k) ∧ wx.there w.heap.size 0 (rs.length * 7) ∧ w.heap.size < wx.heap.size ∧ Below w.heap.size w wx) (fun i _ => rs.length - (intOf i).toNat)
 case atStart => exact ⟨0, Nat.zero_le _, rfl, fun k r h => by simp at h, there_new hC, by simp, bl_alloc (Below.refl _ _) _⟩
 case round =>
  obtain ⟨k, hk, rfl, hrows, hth, hgz, hB⟩ := hrel
  clear hmk
  by_cases hlt : k < rs.length
  ·
   obtain ⟨r, hr⟩ : ∃ r, rs[k]? = some r := ⟨rs[k], List.getElem?_eq_getElem hlt⟩
   obtain ⟨c0, c1, c2, c3, c4, c5, c6⟩ := (hR.keep hb hB).at hr
   have Hr : Hid _ := hr
   clear hr
   go_wp2_with fail
   refine (toWant_b r.c r.h r.v r.p r.s r.d r.g _).mono ?_
   rintro e w1 ⟨rfl, hb1⟩
   clear c0 c1 c2 c3 c4 c5 c6
   have hth1 := there_keep hth hgz hb1
   have hrows1 := hrows.keep hgz hb1
   have hB1 := bl_trans hB hb1
   have hgz1 : w.heap.size < w1.heap.size := Nat.lt_of_lt_of_le hgz hb1.size
   clear hth hrows hB hb1
   go_wp2_with (refine wpList_store_mid (by rfl) 94 _ _ (by rfl) w.heap.size (k * 7) #[.string r.c, .int .i64 r.v, .string r.h, .int .i64 r.p, .int .i64 r.s, .int .i64 r.d, .int .i64 r.g] (by rfl) (by rfl) (by exact there_part hth1 hlt) hinfo (by simp [Value.oneCell']) ?_)
   exact ⟨⟨k + 1, by omega, by go_num, rows_step Hr.out hrows1 (there_part hth1 hlt), World.there_setCells hth1 _ _ _, by rw [size_cells]; exact hgz1, bl_cells (Nat.le_refl _) _ _ _ hB1⟩, by simp [intOf]; omega⟩
  ·
   go_wp2
   go_ret
   have e : rs.take k = rs := List.take_of_length_le (by omega)
   rw [e] at hrows
   exact ⟨rfl, hrows, hth, hgz, hB⟩
end Go.Proofs.YtefkdohkjdopeaaGreatDoor.W
namespace Go.Proofs.YtefkdohkjdopeaaGreatDoor.A
open Go.RowKit
set_option linter.unusedVariables false
structure AskD where
 h : ByteArray
 c : ByteArray
 f : Int
 t : Int
end Go.Proofs.YtefkdohkjdopeaaGreatDoor.A
namespace Go.Proofs.YtefkdohkjdopeaaGreatDoor
open Go.RowKit
set_option linter.unusedVariables false
end Go.Proofs.YtefkdohkjdopeaaGreatDoor
namespace Go.Proofs.YtefkdohkjdopeaaGreatDoor.W
open Go.RowKit
set_option linter.unusedVariables false
set_option maxHeartbeats 1000000 in
theorem szWantS_m (b off cap : Nat) (rs : List WantD) (left : Int) (w : World) (hR : RowsAt w b off rs) (hb : b < w.heap.size) (hf : ∀ r ∈ rs, r.fits) (h0 : 0 ≤ left) (h1 : left ≤ 1048576) (hl : rs.length ≤ maxLen) :
  Calls Tryz.prog 20 #[.slice (some ⟨b, off, none⟩) rs.length cap, .int .i64 left] w fun e w' => (e = .returned (.int .i64 (-1)) ∨ ∃ m : Int, e = .returned (.int .i64 m) ∧ 0 ≤ m ∧ m ≤ 1048576 ∧ (rs.length : Int) ≤ left) ∧ Below w.heap.size w w' := by
 unfold maxLen at hl
 by_cases hn : (rs.length : Int) ≤ left
 ·
  go_enter Tryz.func20, Tryz.ntmps20
  go_wp2
  go_loopw [1, 5] (fun l i wx => ∃ (k : Nat) (lv : Int), k ≤ rs.length ∧ i = .int .i64 k ∧ l = .int .i64 lv ∧ 0 ≤ lv ∧ lv ≤ 1048576 ∧ Below w.heap.size w wx) (fun _ i _ => rs.length - (intOf i).toNat)
  case atStart => exact ⟨0, _, Nat.zero_le _, rfl, rfl, by omega, by omega, Below.refl _ _⟩
  case round =>
   obtain ⟨k, lv, hk, rfl, rfl, l0, l1, hB⟩ := hrel
   by_cases hlt : k < rs.length
   ·
    obtain ⟨r, hr⟩ : ∃ r, rs[k]? = some r := ⟨rs[k], List.getElem?_eq_getElem hlt⟩
    obtain ⟨c0, c1, c2, c3, c4, c5, c6⟩ := (hR.keep hb hB).at hr
    have hfr : r.fits := hf r (List.mem_of_getElem? hr)
    clear hr
    by_cases hsz : (r.c.size : Int) + r.h.size ≤ lv
    ·
     go_wp2_with fail
     refine (szWant_yes r.c r.h r.v r.p r.s r.d r.g lv l0 l1 hsz _).mono ?_
     rintro e w1 ⟨rfl, hb1⟩
     go_wp2
     exact ⟨⟨k + 1, _, by omega, by go_num, rfl, by omega, by omega, bl_trans hB hb1⟩, by simp [intOf]; omega⟩
    ·
     go_wp2_with fail
     refine (szWant_no r.c r.h r.v r.p r.s r.d r.g lv l0 l1 hfr.1 hfr.2 (by omega) _).mono ?_
     rintro e w1 ⟨rfl, hb1⟩
     go_wp2
     go_ret
     exact ⟨Or.inl rfl, bl_trans hB hb1⟩
   ·
    go_wp2
    go_ret
    exact ⟨Or.inr ⟨_, rfl, l0, l1, hn⟩, hB⟩
 ·
  go_enter Tryz.func20, Tryz.ntmps20
  go_wp2
  go_ret
  exact ⟨Or.inl rfl, Below.refl _ _⟩
theorem sz_nil (a : Option Addr) (cap : Nat) (left : Int) (w : World) (h0 : 0 ≤ left) (h1 : left ≤ 1048576) :
  Calls Tryz.prog 20 #[.slice a 0 cap, .int .i64 left] w fun e w' => e = .returned (.int .i64 left) ∧ w' = w := by
 go_enter Tryz.func20, Tryz.ntmps20
 go_wp2
 refine wp_loop_rounds 1 ?_
 rw [rounds_succ]
 go_wp2
 go_ret
 exact ⟨rfl, rfl⟩
theorem to_nil (a : Option Addr) (cap : Nat) (w : World) :
  Calls Tryz.prog 30 #[.slice a 0 cap] w fun e w' => e = .returned (.slice (some ⟨w.heap.size, 0, none⟩) 0 0) ∧ w.heap.size < w'.heap.size ∧ Below w.heap.size w w' := by
 obtain ⟨C, hC, hmk0⟩ := make_wants 0 (by omega)
 have hmk : ∀ w : World, Sem.run Tryz.prog (Instr.makeSlice 39 (.int .i64 0) (.int .i64 0)) w = .ok (.slice (some ⟨w.heap.size, 0, none⟩) 0 0) (w.alloc (.cells C 94)) := fun w => hmk0 w
 clear hmk0 hC
 go_enter Tryz.func30, Tryz.ntmps30
 go_wp2
 refine wp_loop_rounds 1 ?_
 rw [rounds_succ]
 go_wp2
 go_ret
 exact ⟨rfl, by simp, bl_alloc (Below.refl _ _) _⟩
def In (w : World) (v : Value) (l : List WantD) : Prop := (l = [] ∧ ∃ a cap, v = .slice a 0 cap) ∨ ∃ b off cap, v = .slice (some ⟨b, off, none⟩) l.length cap ∧ l.length ≤ maxLen ∧ b < w.heap.size ∧ RowsAt w b off l ∧ ∀ r ∈ l, r.fits
theorem In.keep {w w' : World} {v : Value} {l : List WantD} (h : In w v l) (hb : Below w.heap.size w w') : In w' v l := by
 rcases h with h | ⟨b, off, cap, h1, h2, h3, h4, h5⟩
 ·
  exact Or.inl h
 ·
  exact Or.inr ⟨b, off, cap, h1, h2, Nat.lt_of_lt_of_le h3 hb.size, h4.keep h3 hb, h5⟩
theorem In.fits {w : World} {v : Value} {l : List WantD} (h : In w v l) : ∀ r ∈ l, r.fits := by
 rcases h with ⟨rfl, -⟩ | ⟨b, off, cap, h1, h2, h3, h4, h5⟩
 ·
  intro r hr; cases hr
 ·
  exact h5
theorem sz_in {w : World} {v : Value} {l : List WantD} (h : In w v l) (left : Int) (h0 : 0 ≤ left) (h1 : left ≤ 1048576) :
  Calls Tryz.prog 20 #[v, .int .i64 left] w fun e w' => (e = .returned (.int .i64 (-1)) ∨ ∃ m : Int, e = .returned (.int .i64 m) ∧ 0 ≤ m ∧ m ≤ 1048576 ∧ l.length ≤ 1048576) ∧ Below w.heap.size w w' := by
 rcases h with ⟨rfl, a, cap, rfl⟩ | ⟨b, off, cap, rfl, k2, k3, k4, k5⟩
 ·
  refine (sz_nil a cap left w h0 h1).mono ?_
  rintro e w' ⟨rfl, rfl⟩
  exact ⟨Or.inr ⟨left, rfl, h0, h1, by simp⟩, Below.refl _ _⟩
 ·
  refine (szWantS_m b off cap l left w k4 k3 k5 h0 h1 k2).mono ?_
  rintro e w' ⟨rfl | ⟨m, rfl, m0, m1, hn⟩, hb⟩
  ·
   exact ⟨Or.inl rfl, hb⟩
  ·
   exact ⟨Or.inr ⟨m, rfl, m0, m1, by omega⟩, hb⟩
end Go.Proofs.YtefkdohkjdopeaaGreatDoor.W
namespace Go.Proofs.YtefkdohkjdopeaaGreatDoor.A
open Go.RowKit
set_option linter.unusedVariables false
end Go.Proofs.YtefkdohkjdopeaaGreatDoor.A
namespace Go.Proofs.YtefkdohkjdopeaaGreatDoor.P
open Go.RowKit
set_option linter.unusedVariables false
structure PlaceD where
 b : ByteArray
 s : Int
 a : Option Addr
 c : Nat
 ws : List W.WantD
def PlaceD.cells (r : PlaceD) : List Value := [.string r.b, .int .i64 r.s, .slice r.a r.ws.length r.c]
def PlaceD.says (r : PlaceD) : ByteArray × Int × List W.WantD := (r.b, r.s, r.ws)
def Like (ps qs : List PlaceD) : Prop := ps.map PlaceD.says = qs.map PlaceD.says
theorem Like.len {ps qs : List PlaceD} (h : Like ps qs) : ps.length = qs.length := by simpa using congrArg List.length h
theorem Like.at {ps qs : List PlaceD} (h : Like ps qs) {k : Nat} {p q : PlaceD} (hp : ps[k]? = some p) (hq : qs[k]? = some q) : p.b = q.b ∧ p.s = q.s ∧ p.ws = q.ws := by
 have h1 : (ps.map PlaceD.says)[k]? = (qs.map PlaceD.says)[k]? := by rw [h]
 rw [List.getElem?_map, List.getElem?_map, hp, hq] at h1
 simpa [PlaceD.says] using h1
theorem Like.get {ps qs : List PlaceD} (h : Like ps qs) {k : Nat} {p : PlaceD} (hp : ps[k]? = some p) : ∃ q, qs[k]? = some q ∧ p.b = q.b ∧ p.s = q.s ∧ p.ws = q.ws := by
 have hk : k < qs.length := by rw [← h.len]; exact (List.getElem?_eq_some_iff.1 hp).1
 exact ⟨qs[k], List.getElem?_eq_getElem hk, h.at hp (List.getElem?_eq_getElem hk)⟩
theorem Like.symm {ps qs : List PlaceD} (h : Like ps qs) : Like qs ps := Eq.symm h
theorem Like.trans {ps qs rs : List PlaceD} (h : Like ps qs) (h' : Like qs rs) : Like ps rs := Eq.trans h h'
def RowsAt (w : World) (b off : Nat) (rs : List PlaceD) : Prop := ∀ k r, rs[k]? = some r → w.rangeAt b (off + k * 3) r.cells
theorem RowsAt.keep {w w' : World} {b off : Nat} {rs : List PlaceD} (h : RowsAt w b off rs) (hb : b < w.heap.size) (hB : Below w.heap.size w w') : RowsAt w' b off rs :=
 fun k r hk j v hj => (hB.cell (p := ⟨b, off + k * 3 + j, none⟩) hb).trans (h k r hk j v hj)
theorem RowsAt.at {w : World} {b off : Nat} {rs : List PlaceD} (h : RowsAt w b off rs) {k : Nat} {r : PlaceD} (hk : rs[k]? = some r) :
  w.cell? ⟨b, off + k * 3, none⟩ = some (.string r.b) ∧ w.cell? ⟨b, off + k * 3 + 1, none⟩ = some (.int .i64 r.s) ∧ w.cell? ⟨b, off + k * 3 + 2, none⟩ = some (.slice r.a r.ws.length r.c) :=
 ⟨h k r hk 0 _ rfl, h k r hk 1 _ rfl, h k r hk 2 _ rfl⟩
def PlaceD.inn (w : World) (r : PlaceD) : Prop := r.b.size ≤ maxLen ∧ W.In w (.slice r.a r.ws.length r.c) r.ws
theorem PlaceD.inn.keep {w w' : World} {r : PlaceD} (h : r.inn w) (hB : Below w.heap.size w w') : r.inn w' := ⟨h.1, h.2.keep hB⟩
def PlaceD.blk (B : Nat) (w : World) (r : PlaceD) : Prop := ∃ g, r.a = some ⟨g, 0, none⟩ ∧ r.c = r.ws.length ∧ B < g ∧ g < w.heap.size ∧ W.RowsAt w g 0 r.ws
theorem PlaceD.blk.keep {B : Nat} {w w' : World} {r : PlaceD} (h : r.blk B w) (hB : Below w.heap.size w w') : r.blk B w' := by
 obtain ⟨g, h1, hc, h2, h3, h4⟩ := h
 exact ⟨g, h1, hc, h2, Nat.lt_of_lt_of_le h3 hB.size, h4.keep h3 hB⟩
theorem PlaceD.blk.low {B B' : Nat} {w : World} {r : PlaceD} (h : r.blk B w) (hB : B' ≤ B) : r.blk B' w := by
 obtain ⟨g, h1, hc, h2, h3, h4⟩ := h
 exact ⟨g, h1, hc, by omega, h3, h4⟩
def Lns (rs : List PlaceD) : Prop := ∀ r ∈ rs, r.ws.length ≤ 1048576
set_option maxHeartbeats 1000000 in
theorem szPlace (r : PlaceD) (left : Int) (w : World) (hi : r.inn w) (h0 : 0 ≤ left) (h1 : left ≤ 1048576) :
  Calls Tryz.prog 45 #[.agg #[.string r.b, .int .i64 r.s, .slice r.a r.ws.length r.c], .int .i64 left] w fun e w' => (e = .returned (.int .i64 (-1)) ∨ ∃ m : Int, e = .returned (.int .i64 m) ∧ 0 ≤ m ∧ m ≤ 1048576 ∧ r.ws.length ≤ 1048576) ∧ Below w.heap.size w w' := by
 have Hi : Hid (r.inn w) := hi
 have hn := hi.1
 unfold maxLen at hn
 clear hi
 by_cases k1 : (r.b.size : Int) ≤ left
 ·
  go_enter Tryz.func45, Tryz.ntmps45
  go_wp2_with fail
  refine (W.sz_in (Hi.out.2.keep (bl_alloc (Below.refl _ _) _)) (left - (r.b.size : Int)) (by omega) (by omega)).mono ?_
  rintro e w1 ⟨hx, c⟩
  have C : Hid (Below w.heap.size w w1) := bl_trans (bl_alloc (Below.refl _ _) _) c
  clear c
  rcases hx with rfl | ⟨m, rfl, m0, m1, hl⟩
  ·
   go_wp2
   go_ret
   exact ⟨Or.inl rfl, C.out⟩
  ·
   go_wp2
   go_ret
   exact ⟨Or.inr ⟨m, rfl, m0, m1, hl⟩, C.out⟩
 ·
  go_enter Tryz.func45, Tryz.ntmps45
  go_wp2
  go_ret
  exact ⟨Or.inl rfl, bl_alloc (Below.refl _ _) _⟩
set_option maxHeartbeats 1000000 in
theorem szPlaceS (b off cap : Nat) (rs : List PlaceD) (left : Int) (w : World) (hR : RowsAt w b off rs) (hb : b < w.heap.size) (hf : ∀ r ∈ rs, r.inn w) (h0 : 0 ≤ left) (h1 : left ≤ 1048576) (hl : rs.length ≤ maxLen) :
  Calls Tryz.prog 19 #[.slice (some ⟨b, off, none⟩) rs.length cap, .int .i64 left] w fun e w' => (e = .returned (.int .i64 (-1)) ∨ ∃ m : Int, e = .returned (.int .i64 m) ∧ 0 ≤ m ∧ m ≤ 1048576 ∧ (rs.length : Int) ≤ left ∧ Lns rs) ∧ Below w.heap.size w w' := by
 unfold maxLen at hl
 have HF : Hid _ := hf
 clear hf
 by_cases hn : (rs.length : Int) ≤ left
 ·
  go_enter Tryz.func19, Tryz.ntmps19
  go_wp2
  go_loopw [1, 5] (fun l i wx => ∃ (k : Nat) (lv : Int), k ≤ rs.length ∧ i = .int .i64 k ∧ l = .int .i64 lv ∧ 0 ≤ lv ∧ lv ≤ 1048576 ∧ Hid (∀ j r, j < k → rs[j]? = some r → r.ws.length ≤ 1048576) ∧ Below w.heap.size w wx) (fun _ i _ => rs.length - (intOf i).toNat)
  case atStart => exact ⟨0, _, Nat.zero_le _, rfl, rfl, by omega, by omega, (fun j r hj _ => by omega), Below.refl _ _⟩
  case round =>
   obtain ⟨k, lv, hk, rfl, rfl, l0, l1, Ha, hB⟩ := hrel
   by_cases hlt : k < rs.length
   ·
    obtain ⟨r, hr⟩ : ∃ r, rs[k]? = some r := ⟨rs[k], List.getElem?_eq_getElem hlt⟩
    obtain ⟨c0, c1, c2⟩ := (hR.keep hb hB).at hr
    have Hr : Hid _ := hr
    clear hr
    go_wp2_with fail
    refine (szPlace r lv _ ((HF.out r (List.mem_of_getElem? Hr.out)).keep hB) l0 l1).mono ?_
    rintro e w1 ⟨hx, hb1⟩
    have Hb : Hid (Below w.heap.size w w1) := bl_trans hB hb1
    clear hB hb1
    rcases hx with rfl | ⟨m, rfl, m0, m1, hw⟩
    ·
     go_wp2
     go_ret
     exact ⟨Or.inl rfl, Hb.out⟩
    ·
     go_wp2
     exact ⟨⟨k + 1, _, by omega, by go_num, rfl, by omega, by omega, (fun j q hj hq => by
      by_cases e : j = k
      ·
       subst e; have hh := Hr.out; rw [hh] at hq; cases hq; exact hw
      ·
       exact Ha.out j q (by omega) hq), Hb.out⟩, by simp [intOf]; omega⟩
   ·
    go_wp2
    go_ret
    exact ⟨Or.inr ⟨_, rfl, l0, l1, hn, fun r hr => by
     obtain ⟨j, hj⟩ := List.getElem?_of_mem hr
     have hjl : j < rs.length := (List.getElem?_eq_some_iff.1 hj).1
     exact Ha.out j r (by omega) hj⟩, hB⟩
 ·
  go_enter Tryz.func19, Tryz.ntmps19
  go_wp2
  go_ret
  exact ⟨Or.inl rfl, Below.refl _ _⟩
theorem sz_nil (a : Option Addr) (cap : Nat) (left : Int) (w : World) (h0 : 0 ≤ left) (h1 : left ≤ 1048576) :
  Calls Tryz.prog 19 #[.slice a 0 cap, .int .i64 left] w fun e w' => e = .returned (.int .i64 left) ∧ w' = w := by
 go_enter Tryz.func19, Tryz.ntmps19
 go_wp2
 refine wp_loop_rounds 1 ?_
 rw [rounds_succ]
 go_wp2
 go_ret
 exact ⟨rfl, rfl⟩
def In (w : World) (v : Value) (l : List PlaceD) : Prop := (l = [] ∧ ∃ a cap, v = .slice a 0 cap) ∨ ∃ b off cap, v = .slice (some ⟨b, off, none⟩) l.length cap ∧ l.length ≤ maxLen ∧ b < w.heap.size ∧ RowsAt w b off l ∧ ∀ r ∈ l, r.inn w
theorem In.keep {w w' : World} {v : Value} {l : List PlaceD} (h : In w v l) (hb : Below w.heap.size w w') : In w' v l := by
 rcases h with h | ⟨b, off, cap, h1, h2, h3, h4, h5⟩
 ·
  exact Or.inl h
 ·
  exact Or.inr ⟨b, off, cap, h1, h2, Nat.lt_of_lt_of_le h3 hb.size, h4.keep h3 hb, fun r hr => (h5 r hr).keep hb⟩
theorem sz_in {w : World} {v : Value} {l : List PlaceD} (h : In w v l) (left : Int) (h0 : 0 ≤ left) (h1 : left ≤ 1048576) :
  Calls Tryz.prog 19 #[v, .int .i64 left] w fun e w' => (e = .returned (.int .i64 (-1)) ∨ ∃ m : Int, e = .returned (.int .i64 m) ∧ 0 ≤ m ∧ m ≤ 1048576 ∧ l.length ≤ 1048576 ∧ Lns l) ∧ Below w.heap.size w w' := by
 rcases h with ⟨rfl, a, cap, rfl⟩ | ⟨b, off, cap, rfl, k2, k3, k4, k5⟩
 ·
  refine (sz_nil a cap left w h0 h1).mono ?_
  rintro e w' ⟨rfl, rfl⟩
  exact ⟨Or.inr ⟨left, rfl, h0, h1, by simp, fun r hr => by cases hr⟩, Below.refl _ _⟩
 ·
  refine (szPlaceS b off cap l left w k4 k3 k5 h0 h1 k2).mono ?_
  rintro e w' ⟨rfl | ⟨m, rfl, m0, m1, hn, hL⟩, hb⟩
  ·
   exact ⟨Or.inl rfl, hb⟩
  ·
   exact ⟨Or.inr ⟨m, rfl, m0, m1, by omega, hL⟩, hb⟩
end Go.Proofs.YtefkdohkjdopeaaGreatDoor.P
