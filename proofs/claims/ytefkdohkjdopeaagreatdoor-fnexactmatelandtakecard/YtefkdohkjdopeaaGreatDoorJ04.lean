import Derived.Test.YtefkdohkjdopeaaGreatDoorJ03
import Derived.Deep.RegionHeld3
import Derived.Laws.Pointers
import Derived.StillTactics
import Derived.Test.YtefkdohkjdopeaaGreatDoorJ01
import Derived.Test.YtefkdohkjdopeaaGreatDoorJ02
import Derived.Laws.AppendOwn
import Derived.Laws.MakeOwn
namespace Go.Proofs.YtefkdohkjdopeaaGreatDoor.Pr
open Go.RowKit
set_option linter.unusedVariables false
structure PlRaw where
 b : ByteArray
 s : Int
 a : Option Addr
 n : Nat
 c : Nat
def PlRaw.cells (r : PlRaw) : List Value := [.string r.b, .int .i64 r.s, .slice r.a r.n r.c]
def RowsAt (w : World) (b off : Nat) (rs : List PlRaw) : Prop := ∀ k r, rs[k]? = some r → w.rangeAt b (off + k * 3) r.cells
theorem RowsAt.keep {w w' : World} {b off : Nat} {rs : List PlRaw} (h : RowsAt w b off rs) (hb : b < w.heap.size) (hB : Below w.heap.size w w') : RowsAt w' b off rs :=
 fun k r hk j v hj => (hB.cell (p := ⟨b, off + k * 3 + j, none⟩) hb).trans (h k r hk j v hj)
theorem RowsAt.at {w : World} {b off : Nat} {rs : List PlRaw} (h : RowsAt w b off rs) {k : Nat} {r : PlRaw} (hk : rs[k]? = some r) :
  w.cell? ⟨b, off + k * 3, none⟩ = some (.string r.b) ∧ w.cell? ⟨b, off + k * 3 + 1, none⟩ = some (.int .i64 r.s) ∧ w.cell? ⟨b, off + k * 3 + 2, none⟩ = some (.slice r.a r.n r.c) :=
 ⟨h k r hk 0 _ rfl, h k r hk 1 _ rfl, h k r hk 2 _ rfl⟩
def raw (r : P.PlaceD) : PlRaw := ⟨r.b, r.s, r.a, r.ws.length, r.c⟩
theorem raw_rows {w : World} {b off : Nat} {ps : List P.PlaceD} (h : P.RowsAt w b off ps) : RowsAt w b off (ps.map raw) := by
 intro k r hk
 rw [List.getElem?_map] at hk
 obtain ⟨p, hp, rfl⟩ := Option.map_eq_some_iff.1 hk
 exact h k p hp
end Go.Proofs.YtefkdohkjdopeaaGreatDoor.Pr
namespace Go.Proofs.YtefkdohkjdopeaaGreatDoor.Pr
open Go.RowKit
set_option linter.unusedVariables false
theorem name_any (r : PlRaw) (w : World) :
  Calls Tryz.prog 70 #[.agg #[.string r.b, .int .i64 r.s, .slice r.a r.n r.c]] w fun e w' => e = .returned (.string r.b) ∧ Below w.heap.size w w' := by
 go_enter Tryz.func70, Tryz.ntmps70
 go_wp2
 go_ret
 exact ⟨rfl, by repeat (first | exact Below.refl _ _ | refine bl_alloc ?_ _)⟩
end Go.Proofs.YtefkdohkjdopeaaGreatDoor.Pr
namespace Go.Proofs.YtefkdohkjdopeaaGreatDoor.Pr
open Go.RowKit Go.Maps Go.WideMaps
set_option linter.unusedVariables false
theorem lawV : Keyed Tryz.prog 9 := string_keyed Tryz.underlying9
def RVL (xs : List Value) : Option (DataW PlRaw × List MemPlace) :=
 match xs with
 | [.string b', .int .i64 s', .slice a' n' c'] => some (.held ⟨b', s', a', n', c'⟩, [])
 | _ => none
def RV (v : Value) : Option (DataW PlRaw × List MemPlace) :=
 match v with
 | .agg xs => RVL xs.toList
 | _ => none
theorem RV_inv {v : Value} {r : PlRaw} {ps : List MemPlace} (h : RV v = some (.held r, ps)) : v = .agg #[.string r.b, .int .i64 r.s, .slice r.a r.n r.c] := by
 unfold RV at h
 split at h
 ·
  rename_i xs
  obtain ⟨l⟩ := xs
  simp only at h
  unfold RVL at h
  split at h
  ·
   simp only [Option.some.injEq, Prod.mk.injEq, DataW.held.injEq] at h
   obtain ⟨rfl, -⟩ := h
   rfl
  ·
   cases h
 ·
  cases h
def keyV (r : PlRaw) : List UInt8 := r.b.data.toList
def dec (rs : List PlRaw) : DataW PlRaw := Ord.dec keyV rs
def Srt (rs : List PlRaw) : Prop := Ord.Srt keyV rs
theorem mapv_below {x y : World} {b n : Nat} {D : DataW PlRaw} (h : x.ownsMap Tryz.prog 9 RV b n D) (hb : Below x.heap.size x y) : y.ownsMap Tryz.prog 9 RV b n D :=
 h.kept (row := none) ⟨hb.os, hb.tape, hb.output, hb.size, fun k hk _ => hb.block k hk⟩ (by simp)
theorem mapv_step {w : World} (b n : Nat) (rs : List PlRaw) (r : PlRaw) (hown : w.ownsMap Tryz.prog 9 RV b n (dec rs)) (hn : n < maxLen) (hs : r.b.size ≤ maxLen) :
  ∃ w', Sem.run Tryz.prog (Instr.mapUpdate 110 (.map (some b)) (.string r.b) (.agg #[.string r.b, .int .i64 r.s, .slice r.a r.n r.c])) w = .ok () w' ∧ w'.ownsMap Tryz.prog 9 RV b (n + 1) (dec (Ord.ins keyV r rs)) ∧ w.grownBy w' (some b) := by
 have h := hown.update lawV (t := 110) (e := 90) Tryz.underlying110 hn (keyOf_string_mk Tryz.underlying9 hs) (val := .agg #[.string r.b, .int .i64 r.s, .slice r.a r.n r.c]) (d := .held r) (ps := []) rfl
 have e : (dec rs).put (Lit.string r.b.data.toList) (.held r) = dec (Ord.ins keyV r rs) := Ord.dec_put keyV r rs
 rw [e] at h
 exact h
theorem boxV {wr w' : World} {r : PlRaw} (hb : Below (wr.alloc (.cells #[.string r.b, .int .i64 r.s, .slice r.a r.n r.c] 90)).heap.size (wr.alloc (.cells #[.string r.b, .int .i64 r.s, .slice r.a r.n r.c] 90)) w') : w'.cell? ⟨wr.heap.size, 0, none⟩ = some (.string r.b) ∧ w'.cell? ⟨wr.heap.size, 1, none⟩ = some (.int .i64 r.s) ∧ w'.cell? ⟨wr.heap.size, 2, none⟩ = some (.slice r.a r.n r.c) := by
 have hk := box_keep hb
 exact ⟨by rw [hk 0]; simp [go_sem], by rw [hk 1]; simp [go_sem], by rw [hk 2]; simp [go_sem]⟩
theorem boxV_grown {wr w' w2 : World} {r : PlRaw} {B : Nat} (h : w'.cell? ⟨wr.heap.size, 0, none⟩ = some (.string r.b) ∧ w'.cell? ⟨wr.heap.size, 1, none⟩ = some (.int .i64 r.s) ∧ w'.cell? ⟨wr.heap.size, 2, none⟩ = some (.slice r.a r.n r.c)) (hg : w'.grownBy w2 (some B)) (hne : wr.heap.size ≠ B) : w2.cell? ⟨wr.heap.size, 0, none⟩ = some (.string r.b) ∧ w2.cell? ⟨wr.heap.size, 1, none⟩ = some (.int .i64 r.s) ∧ w2.cell? ⟨wr.heap.size, 2, none⟩ = some (.slice r.a r.n r.c) :=
 ⟨hg.cell h.1 (by simpa using hne), hg.cell h.2.1 (by simpa using hne), hg.cell h.2.2 (by simpa using hne)⟩
theorem make_mapV (n : Nat) (w : World) : Sem.run Tryz.prog (Instr.makeMap 110 (some (.int .i64 (n : Int)))) w = .ok (.map (some w.heap.size)) (w.alloc (.map #[] 0)) := by
 kernel_rfl
set_option maxRecDepth 4000 in
set_option maxHeartbeats 2000000 in
theorem byNameV (b off cap : Nat) (rs : List PlRaw) (w : World) (hR : RowsAt w b off rs) (l1 : b < w.heap.size) (hfit : ∀ r ∈ rs, r.b.size ≤ maxLen) (hl : rs.length ≤ 1048576) (hs : Srt rs) :
  Calls Tryz.prog 69 #[.slice (some ⟨b, off, none⟩) rs.length cap, .func (.func 70) #[] #[]] w fun e w' => e = .returned (.map (some w.heap.size)) ∧ w'.ownsMap Tryz.prog 9 RV w.heap.size rs.length (dec rs) ∧ Below w.heap.size w w' := by
 have hmm := make_mapV rs.length
 have HS : Hid (Srt rs) := hs
 clear hs
 go_enter Tryz.func69, Tryz.ntmps69
 go_wp2
 clear hmm
 go_loopw [13] (fun i wx => ∃ (k : Nat), k ≤ rs.length ∧ i = .int .i64 k ∧ Hid (wx.ownsMap Tryz.prog 9 RV w.heap.size k (dec (rs.take k))) ∧ Below w.heap.size w wx) (fun i _ => rs.length - (intOf i).toNat)
 case atStart => exact ⟨0, Nat.zero_le _, rfl, World.ownsMap_made _ _ _ _, bl_alloc (Below.refl _ _) _⟩
 case round =>
  obtain ⟨k, hk, rfl, Ho, hB⟩ := hrel
  by_cases hlt : k < rs.length
  ·
   obtain ⟨r, hr⟩ : ∃ r, rs[k]? = some r := ⟨rs[k], List.getElem?_eq_getElem hlt⟩
   have Hr : Hid _ := hr
   have hf1 := hfit r (List.mem_of_getElem? hr)
   obtain ⟨c0, c1, c2⟩ := (hR.keep l1 hB).at hr
   clear hr
   have hne : wr.heap.size ≠ w.heap.size := by have := Ho.out.lt; omega
   go_wp2_with fail
   go_region_held3 (fun w' => w'.cell? ⟨wr.heap.size, 0, none⟩ = some (.string r.b) ∧ w'.cell? ⟨wr.heap.size, 1, none⟩ = some (.int .i64 r.s) ∧ w'.cell? ⟨wr.heap.size, 2, none⟩ = some (.slice r.a r.n r.c))
    (first | exact boxV (bl_drew (Below.refl _ _)) | exact boxV (bl_trans (bl_drew (Below.refl _ _)) hx) | exact boxV_grown (boxV (bl_trans (bl_drew (Below.refl _ _)) hx)) hg2 hne)
    (first | (go_at_call 70; refine (name_any r _).mono ?_; rintro e w' ⟨rfl, hx⟩) | (have hms := mapv_step w.heap.size k (rs.take k) r (mapv_below (mapv_below Ho.out (bl_drew (bl_alloc (Below.refl _ _) _))) hx) (by unfold maxLen; omega) hf1; obtain ⟨w2, hrun, ho2, hg2⟩ := hms; go_simp))
   have y1 := bl_trans (bl_trans hB (bl_alloc (Below.refl _ wr) _)) (bl_trans (bl_drew (Below.refl _ _)) hx)
   have Y2 : Hid (Below w.heap.size w w2) := Below.grown y1 hg2 y1.size (fun j hj => by cases hj; exact Nat.le_refl _)
   have O2 : Hid (w2.ownsMap Tryz.prog 9 RV w.heap.size (k + 1) (dec (rs.take (k + 1)))) := by
    show World.ownsMap _ _ _ _ _ _ _
    rw [← Ord.take_last keyV HS.out Hr.out]; exact ho2
   clear y1 hx hg2 ho2 hrun
   go_wp2
   exact ⟨⟨k + 1, by omega, by go_num, O2.out, Y2.out⟩, by simp [intOf]; omega⟩
  ·
   go_wp2
   go_ret
   have e : k = rs.length := by omega
   subst e
   rw [List.take_of_length_le (Nat.le_refl _)] at Ho
   exact ⟨rfl, Ho.out, hB⟩
theorem zeroV (w : World) : (zeroValue 90).run Tryz.prog w = .ok (.agg #[.string ⟨#[]⟩, .int .i64 0, .slice none 0 0]) w := by kernel_rfl
theorem look1V {w : World} (b n : Nat) (rs : List PlRaw) (hown : w.ownsMap Tryz.prog 9 RV b n (dec rs)) (hs : Srt rs) (s : ByteArray) (hz : s.size ≤ maxLen) :
  (∃ r ∈ rs, r.b = s ∧ Sem.run Tryz.prog (Instr.lookup 110 (.map (some b)) (.string s) false) w = .ok (.agg #[.string r.b, .int .i64 r.s, .slice r.a r.n r.c]) w) ∨ ((∀ r ∈ rs, r.b ≠ s) ∧ Sem.run Tryz.prog (Instr.lookup 110 (.map (some b)) (.string s) false) w = .ok (.agg #[.string ⟨#[]⟩, .int .i64 0, .slice none 0 0]) w) := by
 obtain ⟨v, ps, hrun, hv⟩ := hown.lookup lawV (t := 110) (e := 90) Tryz.underlying110 (zeroV w) (zd := .held ⟨⟨#[]⟩, 0, none, 0, 0⟩) (zp := []) rfl (keyOf_string_mk Tryz.underlying9 hz)
 cases ha : rs.any (fun y => keyV y == s.data.toList)
 ·
  right
  refine ⟨fun r hr e => ?_, ?_⟩
  ·
   have := List.any_eq_false.1 ha r hr
   rw [← e] at this
   simp [keyV] at this
  ·
   rw [show (dec rs).atKey (Lit.string s.data.toList) (.held ⟨⟨#[]⟩, 0, none, 0, 0⟩) = .held ⟨⟨#[]⟩, 0, none, 0, 0⟩ from Ord.dec_none keyV ha _] at hv
   rw [RV_inv hv] at hrun
   exact hrun
 ·
  left
  obtain ⟨r, hr, he⟩ := List.any_eq_true.1 ha
  have e1 : r.b.data.toList = s.data.toList := by simpa [keyV] using he
  have e2 : r.b = s := Ord.ba_ext e1
  refine ⟨r, hr, e2, ?_⟩
  rw [show Lit.string s.data.toList = Lit.string (keyV r) from by rw [← e1]; rfl, show (dec rs).atKey (Lit.string (keyV r)) (.held ⟨⟨#[]⟩, 0, none, 0, 0⟩) = .held r from Ord.dec_at keyV hs hr _] at hv
  rw [RV_inv hv] at hrun
  exact hrun
end Go.Proofs.YtefkdohkjdopeaaGreatDoor.Pr
namespace Go.Proofs.YtefkdohkjdopeaaGreatDoor.Pr
open Go.RowKit
set_option linter.unusedVariables false
def flatR (rs : List PlRaw) : List Value := rs.flatMap PlRaw.cells
theorem flatR_len : ∀ rs : List PlRaw, (flatR rs).length = rs.length * 3
 | [] => rfl
 | r :: rs => by
  have := flatR_len rs
  simp only [flatR, List.flatMap_cons, List.length_append] at this ⊢
  simp only [this, List.length_cons]
  show 3 + rs.length * 3 = _
  omega
theorem flatR_snoc (rs : List PlRaw) (r : PlRaw) : flatR (rs ++ [r]) = flatR rs ++ r.cells := by simp [flatR]
theorem flatR_at : ∀ (rs : List PlRaw) (k : Nat) (r : PlRaw), rs[k]? = some r → ∀ j, j < 3 → (flatR rs)[k * 3 + j]? = r.cells[j]?
 | [], k, r, h, j, hj => by simp at h
 | q :: rs, 0, r, h, j, hj => by
  simp at h; subst h
  rw [flatR, List.flatMap_cons, List.getElem?_append_left (by show _ < 3; omega)]
  simp
 | q :: rs, k + 1, r, h, j, hj => by
  have ih := flatR_at rs k r (by simpa using h) j hj
  rw [flatR, List.flatMap_cons, List.getElem?_append_right (by show 3 ≤ _; omega)]
  rw [← ih]
  show (flatR rs)[(k + 1) * 3 + j - 3]? = _
  rw [show (k + 1) * 3 + j - 3 = k * 3 + j from by omega]
theorem flatR_one (rs : List PlRaw) : ∀ u ∈ flatR rs, u.oneCell' = true := by
 intro u hu
 obtain ⟨r, -, h⟩ := List.mem_flatMap.1 hu
 simp [PlRaw.cells] at h
 rcases h with rfl | rfl | rfl <;> rfl
theorem rows_of_owns {w : World} {base : Nat} {v : Value} {rs : List PlRaw} (h : w.ownsRow base 90 3 v rs.length (flatR rs)) :
  (v = .slice none 0 0 ∧ rs = []) ∨ ∃ g cap, v = .slice (some ⟨g, 0, none⟩) rs.length cap ∧ base ≤ g ∧ g < w.heap.size ∧ RowsAt w g 0 rs ∧ w.there g 0 (rs.length * 3) := by
 obtain ⟨hl, ⟨rfl, hn⟩ | ⟨g, cap, cur, rfl, hb, hg, hnc, hcm, hcs, htk⟩⟩ := h
 ·
  exact Or.inl ⟨rfl, List.length_eq_zero_iff.1 hn⟩
 ·
  refine Or.inr ⟨g, cap, rfl, hb, (Array.getElem?_eq_some_iff.1 hg).1, ?_, ?_⟩
  ·
   intro k r hk j u hj
   have hjn : j < 3 := by
    rcases Nat.lt_or_ge j 3 with h' | h'
    ·
     exact h'
    ·
     rw [List.getElem?_eq_none (by simpa [PlRaw.cells] using h')] at hj; cases hj
   have hf := flatR_at rs k r hk j hjn
   rw [hj, ← htk, List.getElem?_take] at hf
   split at hf
   ·
    rw [cell_of_row w g _ cur _ (0, 0) hg, Nat.zero_add]
    simpa using hf
   ·
    cases hf
  ·
   intro j hj
   have hlt : j < cur.size := by
    have : rs.length * 3 ≤ cap * 3 := Nat.mul_le_mul_right 3 hnc
    omega
   refine ⟨?_, ?_⟩
   ·
    rw [cell_of_row w g _ cur _ (0, 0) hg, Nat.zero_add]
    simp [Array.getElem?_eq_getElem hlt]
   ·
    simp [World.frozen?, hg]
theorem owns_below {x y : World} {base : Nat} {e : TypeId} {size : Nat} {v : Value} {n : Nat} {xs : List Value} (h : x.ownsRow base e size v n xs) (hb : Below x.heap.size x y) : y.ownsRow base e size v n xs :=
 h.kept (row := none) ⟨hb.os, hb.tape, hb.output, hb.size, fun k hk _ => hb.block k hk⟩ (by cases hv : v.ownBlock <;> simp)
theorem owns_ge {x : World} {base : Nat} {e : TypeId} {size : Nat} {v : Value} {n : Nat} {xs : List Value} (h : x.ownsRow base e size v n xs) : ∀ k, v.ownBlock = some k → base ≤ k := fun k hk => (h.lt k hk).1
theorem new_cells (x : World) (N : Nat) (hN : N = x.heap.size) (arr : Array Value) (t : TypeId) (vs : List Value) (hv : arr.toList = vs) : ∀ j u, vs[j]? = some u → (x.alloc (.cells arr t)).cell? ((⟨N, 0, none⟩ : Addr).add j) = some u := by
 intro j u hj
 subst hN hv
 rw [Addr.add_mid, Nat.zero_add, World.cell?_alloc_new]
 simpa using hj
theorem cellsR_one (r : PlRaw) : ∀ u ∈ r.cells, u.oneCell' = true := fun u hu => flatR_one [r] u (by simpa [flatR] using hu)
theorem infoR : (Tryz.prog.info? 90).map (fun i => (i.zero, i.size, i.bytes)) = some (some (.agg #[.string ⟨#[]⟩, .int .i64 0, .slice none 0 0]), 3, 48) := by kernel_rfl
end Go.Proofs.YtefkdohkjdopeaaGreatDoor.Pr
namespace Go.Proofs.YtefkdohkjdopeaaGreatDoor.Pr
open Go.RowKit
set_option linter.unusedVariables false
def Sl (w : World) (v : Value) (l : List PlRaw) (B : Nat) : Prop := (v = .slice none 0 0 ∧ l = []) ∨ ∃ g cap, v = .slice (some ⟨g, 0, none⟩) l.length cap ∧ B ≤ g ∧ g < w.heap.size ∧ RowsAt w g 0 l ∧ w.there g 0 (l.length * 3)
theorem Sl.of_owns {w : World} {v : Value} {l : List PlRaw} {B : Nat} (h : w.ownsRow B 90 3 v l.length (flatR l)) : Sl w v l B := rows_of_owns h
theorem Sl.grown {w w' : World} {v : Value} {l : List PlRaw} {B : Nat} {row : Option Nat} (h : Sl w v l B) (hg : w.grownBy w' row) (hne : v.ownBlock = none ∨ v.ownBlock ≠ row) : Sl w' v l B := by
 rcases h with h | ⟨g, cap, rfl, h1, h2, h3, h4⟩
 ·
  exact Or.inl h
 ·
  have hn : some g ≠ row := by simpa [Value.ownBlock] using hne
  have hc : ∀ o, w'.cell? ⟨g, o, none⟩ = w.cell? ⟨g, o, none⟩ := fun o => World.cell?_of_block (w := w) (a := ⟨g, o, none⟩) (hg.block g h2 hn)
  have hfz : ∀ o, w'.frozen? ⟨g, o, none⟩ = w.frozen? ⟨g, o, none⟩ := fun o => World.frozen?_of_block (w := w) (a := ⟨g, o, none⟩) (hg.block g h2 hn)
  exact Or.inr ⟨g, cap, rfl, h1, Nat.lt_of_lt_of_le h2 hg.size, fun k r hk j v hj => (hc _).trans (h3 k r hk j v hj), fun j hj => ⟨by rw [hc]; exact (h4 j hj).1, by rw [hfz]; exact (h4 j hj).2⟩⟩
theorem Sl.keep {w w' : World} {v : Value} {l : List PlRaw} {B : Nat} (h : Sl w v l B) (hb : Below w.heap.size w w') : Sl w' v l B :=
 h.grown (row := none) ⟨hb.os, hb.tape, hb.output, hb.size, fun k hk _ => hb.block k hk⟩ (by cases hv : v.ownBlock <;> simp)
theorem Sl.lt {w : World} {v : Value} {l : List PlRaw} {B : Nat} (h : Sl w v l B) : ∀ g, v.ownBlock = some g → B ≤ g ∧ g < w.heap.size := by
 rcases h with ⟨rfl, -⟩ | ⟨g, cap, rfl, h1, h2, -⟩
 ·
  intro g hg; simp [Value.ownBlock] at hg
 ·
  intro g' hg; simp [Value.ownBlock] at hg; subst hg; exact ⟨h1, h2⟩
theorem Sl.shape {w : World} {v : Value} {l : List PlRaw} {B : Nat} (h : Sl w v l B) : ∃ a c, v = .slice a l.length c := by
 rcases h with ⟨rfl, rfl⟩ | ⟨g, cap, rfl, -⟩
 ·
  exact ⟨none, 0, rfl⟩
 ·
  exact ⟨_, _, rfl⟩
end Go.Proofs.YtefkdohkjdopeaaGreatDoor.Pr
namespace Go.Proofs.YtefkdohkjdopeaaGreatDoor.Pr
open Go.RowKit Go.Maps Go.WideMaps
set_option linter.unusedVariables false
def KeysSay : Prop := ∀ (mb : Option Nat) (Wo : World), Calls Tryz.prog 91 #[.map mb] Wo fun e w' => e = .returned (.func (.func 102) #[] #[.pointer (some ⟨Wo.heap.size, 0, none⟩)]) ∧ w' = Wo.alloc (.cells #[.map mb] 110)
def SortedSay : Prop := ∀ (b nn : Nat) (rs : List PlRaw) (w : World), w.ownsMap Tryz.prog 9 RV b nn (dec rs) → rs.length ≤ 1048576 →
 Calls Tryz.prog 89 #[.func (.func 102) #[] #[.pointer (some ⟨w.heap.size, 0, none⟩)]] (w.alloc (.cells #[.map (some b)] 110)) fun e w' => ∃ (v : Value) (ss : List (List UInt8)), e = .returned v ∧ ss.Perm (strKeys (dec rs)) ∧
  w'.ownsRow (w.alloc (.cells #[.map (some b)] 110)).heap.size 9 1 v ss.length ((ss.mergeSort (fun x y => decide (x ≤ y))).map encStr) ∧ Below (w.alloc (.cells #[.map (some b)] 110)).heap.size (w.alloc (.cells #[.map (some b)] 110)) w'
theorem atV {w : World} (b n : Nat) (rs : List PlRaw) (hown : w.ownsMap Tryz.prog 9 RV b n (dec rs)) (hs : Srt rs) (r : PlRaw) (hr : r ∈ rs) (hz : r.b.size ≤ maxLen) :
  Sem.run Tryz.prog (Instr.lookup 110 (.map (some b)) (.string r.b) false) w = .ok (.agg #[.string r.b, .int .i64 r.s, .slice r.a r.n r.c]) w := by
 obtain ⟨v, ps, hrun, hv⟩ := hown.lookup lawV (t := 110) (e := 90) Tryz.underlying110 (zeroV w) (zd := .held ⟨⟨#[]⟩, 0, none, 0, 0⟩) (zp := []) rfl (keyOf_string_mk Tryz.underlying9 hz)
 rw [show Lit.string r.b.data.toList = Lit.string (keyV r) from rfl, show (dec rs).atKey (Lit.string (keyV r)) (.held ⟨⟨#[]⟩, 0, none, 0, 0⟩) = .held r from Ord.dec_at keyV hs hr _] at hv
 rw [RV_inv hv] at hrun
 exact hrun
theorem enc_key (r : PlRaw) : encStr (keyV r) = Value.string r.b := by
 show Value.string ⟨r.b.data.toList.toArray⟩ = _
 rw [Array.toArray_toList]
theorem flat_snoc' {rs : List PlRaw} {k : Nat} {r : PlRaw} (hr : rs[k]? = some r) : flatR (rs.take (k + 1)) = flatR (rs.take k) ++ r.cells := by
 have hlt : k < rs.length := (List.getElem?_eq_some_iff.1 hr).1
 have he : rs[k] = r := by rw [List.getElem?_eq_getElem hlt] at hr; exact Option.some.inj hr
 rw [List.take_succ_eq_append_getElem hlt, he]
 simp [flatR]
set_option maxRecDepth 4000 in
set_option maxHeartbeats 2000000 in
theorem own_low {w : World} {v : Value} {m : Nat} {xs : List Value} {B B' : Nat} (h : w.ownsRow B 90 3 v m xs) (hB : B' ≤ B) : w.ownsRow B' 90 3 v m xs := by
 obtain ⟨h1, h2 | ⟨g, cap, cur, h3, h4, h5⟩⟩ := h
 ·
  exact ⟨h1, Or.inl h2⟩
 ·
  exact ⟨h1, Or.inr ⟨g, cap, cur, h3, Nat.le_trans hB h4, h5⟩⟩
set_option maxRecDepth 4000 in
set_option maxHeartbeats 2000000 in
theorem inOrderO (hK : KeysSay) (hS : SortedSay) (b nn : Nat) (rs : List PlRaw) (w : World) (hown : w.ownsMap Tryz.prog 9 RV b nn (dec rs)) (hs : Srt rs) (hfit : ∀ r ∈ rs, r.b.size ≤ maxLen) (hl : rs.length ≤ 1048576) :
  Calls Tryz.prog 72 #[.map (some b)] w fun e w' => (∃ v, e = .returned v ∧ w'.ownsRow w.heap.size 90 3 v rs.length (flatR rs)) ∧ Below w.heap.size w w' := by
 have HO : Hid (w.ownsMap Tryz.prog 9 RV b nn (dec rs)) := hown
 have HS : Hid (Srt rs) := hs
 have cK : Hid KeysSay := hK
 have cS : Hid SortedSay := hS
 have HF : Hid _ := hfit
 clear hown hs hK hS hfit
 obtain ⟨i0, hi, hz0, hz1, hz2⟩ := info_parts infoR
 go_enter Tryz.func72, Tryz.ntmps72
 go_wp2_with fail
 refine (cK.out _ _).mono ?_
 rintro e w' ⟨rfl, rfl⟩
 go_wp2_with fail
 refine (cS.out b nn rs _ HO.out hl).mono ?_
 rintro e w1 ⟨v, ss, rfl, hp, hrow, hb⟩
 have hlen : ss.length = rs.length := by rw [hp.length_eq, show strKeys (dec rs) = rs.map keyV from Ord.keys_dec keyV rs, List.length_map]
 rw [Ord.sorted_keys keyV HS.out hp, hlen] at hrow
 have B1 : Hid (Below w.heap.size w w1) := bl_trans (bl_alloc (Below.refl _ _) _) hb
 have O1 : Hid (w1.ownsMap Tryz.prog 9 RV b nn (dec rs)) := mapv_below HO.out B1.out
 obtain ⟨a, c, rfl⟩ := str_shape hrow
 have Hrow : Hid (StrAt w1 a (rs.map (fun r => r.b))) := str_at (by rw [List.length_map, List.map_map]; rw [List.map_map, show (encStr ∘ keyV) = ((fun x => Value.string x) ∘ fun r : PlRaw => r.b) from funext enc_key] at hrow; exact hrow)
 clear hrow hp hb hlen
 go_wp2_with fail
 go_loopw [3, 10] (fun v i wx => ∃ (k : Nat), k ≤ rs.length ∧ i = .int .i64 k ∧ wx.ownsRow w1.heap.size 90 3 v k (flatR (rs.take k)) ∧ Hid (Below w1.heap.size w1 wx)) (fun _ i _ => rs.length - (intOf i).toNat)
 case atStart => exact ⟨0, Nat.zero_le _, rfl, World.ownsRow_nil _ _ _ _, Below.refl _ _⟩
 case round =>
  obtain ⟨k, hk, rfl, hown, HB⟩ := hrel
  by_cases hlt : k < rs.length
  ·
   obtain ⟨r, hr⟩ : ∃ r, rs[k]? = some r := ⟨rs[k], List.getElem?_eq_getElem hlt⟩
   have Hr : Hid _ := hr
   obtain ⟨g, rfl, hg, hc⟩ := (Hrow.out.keep HB.out).resolve_left (fun h => by rw [List.map_eq_nil_iff] at h; rw [h] at hlt; simp at hlt)
   have c0 := hc k r.b (by rw [List.getElem?_map, hr]; rfl)
   have hlk := atV b nn rs (mapv_below O1.out HB.out) HS.out r (List.mem_of_getElem? hr) (HF.out r (List.mem_of_getElem? hr))
   obtain ⟨xs, hxs⟩ : ∃ xs, xs = flatR (rs.take k) := ⟨_, rfl⟩
   rw [← hxs] at hown
   have Ho : Hid (wr.ownsRow w1.heap.size 90 3 u3 k xs) := hown
   have Hx : Hid _ := hxs
   have hzw : w1.heap.size ≤ wr.heap.size := HB.out.size
   have i1 : (k : Int) < (rs.length : Int) := by omega
   clear hr hown hxs hc
   go_wp2_with (at_builtin; refine wpList_append_own _ rfl _ _ 32 rfl w1.heap.size 90 i0 _ 3 48 Tryz.underlying32 hi hz0 hz1 hz2 rfl (by decide) _ k _ rfl (by exact owns_below Ho.out (by repeat (first | exact Below.refl _ _ | refine bl_alloc ?_ _))) ⟨_, 0, none⟩ 1 1 r.cells rfl rfl (new_cells _ _ (by simp) _ _ _ rfl) (cellsR_one _) (by unfold maxLen; omega) (by omega) (by simp; omega) ?_; intro v' w2 ho2 hg2 hn2)
   refine ⟨⟨k + 1, by omega, by go_num, ?_, Below.grown (by repeat (first | exact HB.out | refine bl_alloc ?_ _)) hg2 (by simp; omega) (owns_ge Ho.out)⟩, by simp [intOf]; omega⟩
   rw [flat_snoc' Hr.out, ← Hx.out]
   exact ho2
  ·
   go_wp2
   go_ret
   have hk' : k = rs.length := by omega
   subst hk'
   rw [List.take_of_length_le (Nat.le_refl _)] at hown
   exact ⟨⟨_, rfl, own_low hown B1.out.size⟩, bl_trans B1.out HB.out⟩
end Go.Proofs.YtefkdohkjdopeaaGreatDoor.Pr
namespace Go.Proofs.YtefkdohkjdopeaaGreatDoor.G
open Go.RowKit
set_option linter.unusedVariables false
theorem make_grants (n : Nat) (hn : n ≤ 1048576) : ∃ C : Array Value, C.size = n * 5 ∧ ∀ w : World, Sem.run Tryz.prog (Instr.makeSlice 31 (.int .i64 (n : Int)) (.int .i64 (n : Int))) w = .ok (.slice (some ⟨w.heap.size, 0, none⟩) n n) (w.alloc (.cells C 61)) := by
 have hq : (Tryz.prog.info? 61).map (fun i => (i.size, i.bytes, i.zero)) = some (5, 64, some (.agg #[.string ⟨#[]⟩, .string ⟨#[]⟩, .string ⟨#[]⟩, .int .i64 0, .int .i64 0])) := by kernel_rfl
 cases hi : Tryz.prog.info? 61 with
 | none => rw [hi] at hq; simp at hq
 | some i =>
  rw [hi] at hq
  simp only [Option.map_some, Option.some.injEq, Prod.mk.injEq] at hq
  obtain ⟨h1, h2, h3⟩ := hq
  refine ⟨madeCells (Value.cells (.agg #[.string ⟨#[]⟩, .string ⟨#[]⟩, .string ⟨#[]⟩, .int .i64 0, .int .i64 0])) (n * i.size), (size_madeCells _ _).trans (by rw [h1]), fun w => ?_⟩
  have := run_make (P := Tryz.prog) w 31 61 i _ Tryz.underlying31 hi h3 .i64 .i64 n n (by omega) (by omega) (by rw [h2]; omega) (by omega)
  simpa using this
theorem bl_cells {A : World} {k : Nat} (hk : A.heap.size ≤ k) : ∀ (vs : List Value) (o : Nat) (w' : World), Below A.heap.size A w' → Below A.heap.size A (w'.setCells k o vs)
 | [], _, _, h => h
 | v :: r, o, w', h => bl_cells hk r (o + 1) _ (bl_set h (by exact hk) v)
theorem size_cells {k : Nat} : ∀ (vs : List Value) (o : Nat) (w' : World), (w'.setCells k o vs).heap.size = w'.heap.size
 | [], _, _ => rfl
 | v :: r, o, w' => (size_cells r (o + 1) _).trans (by simp [World.setCell])
theorem there_keep {x y : World} {k o n : Nat} (h : x.there k o n) (hk : k < x.heap.size) (hb : Below x.heap.size x y) : y.there k o n :=
 fun j hj => ⟨by rw [hb.cell (p := ⟨k, o + j, none⟩) hk]; exact (h j hj).1, by rw [hb.frozen (p := ⟨k, o + j, none⟩) hk]; exact (h j hj).2⟩
theorem there_part {x : World} {g n k : Nat} (h : x.there g 0 (n * 5)) (hk : k < n) : x.there g (k * 5) 5 :=
 fun j hj => by have := h (k * 5 + j) (by omega); simpa using this
theorem there_new {w : World} {C : Array Value} {t : TypeId} {n : Nat} (hC : C.size = n * 5) : (w.alloc (.cells C t)).there w.heap.size 0 (n * 5) :=
 fun j hj => ⟨by simp [go_sem]; omega, by simp [go_sem]⟩
theorem rows_step {x : World} {g k : Nat} {rs : List GrantD} {r : GrantD} (hr : rs[k]? = some r) (h : RowsAt x g 0 (rs.take k)) (ht : x.there g (k * 5) 5) : RowsAt (x.setCells g (k * 5) r.cells) g 0 (rs.take (k + 1)) := by
 intro j q hj
 rw [List.getElem?_take] at hj
 split at hj
 case isFalse => cases hj
 rename_i hlt
 by_cases e : j = k
 ·
  subst e
  rw [hr] at hj
  cases hj
  have := World.rangeAt_setCells_same x g (j * 5) r.cells ht
  simpa using this
 ·
  have hj' : (rs.take k)[j]? = some q := by rw [List.getElem?_take, if_pos (by omega)]; exact hj
  exact World.rangeAt_setCells_apart (h j q hj') g (k * 5) r.cells (Or.inr (Or.inl (by show 0 + j * 5 + 5 ≤ k * 5; omega)))
set_option maxHeartbeats 1000000 in
theorem toGrantS (b off cap : Nat) (rs : List GrantD) (w : World) (hR : RowsAt w b off rs) (hb : b < w.heap.size) (hl : rs.length ≤ 1048576) :
  Calls Tryz.prog 28 #[.slice (some ⟨b, off, none⟩) rs.length cap] w fun e w' => e = .returned (.slice (some ⟨w.heap.size, 0, none⟩) rs.length rs.length) ∧ RowsAt w' w.heap.size 0 rs ∧ w'.there w.heap.size 0 (rs.length * 5) ∧ w.heap.size < w'.heap.size ∧ Below w.heap.size w w' := by
 obtain ⟨C, hC, hmk⟩ := make_grants rs.length hl
 have hinfo : (Tryz.prog.info? 61).map (·.size) = some 5 := by kernel_rfl
 go_enter Tryz.func28, Tryz.ntmps28
 go_wp2
 go_loopw [4] (fun i wx => ∃ (k : Nat), k ≤ rs.length ∧ i = .int .i64 k ∧ RowsAt wx w.heap.size 0 (rs.take k) ∧ wx.there w.heap.size 0 (rs.length * 5) ∧ w.heap.size < wx.heap.size ∧ Below w.heap.size w wx) (fun i _ => rs.length - (intOf i).toNat)
 case atStart => exact ⟨0, Nat.zero_le _, rfl, fun k r h => by simp at h, there_new hC, by simp, bl_alloc (Below.refl _ _) _⟩
 case round =>
  obtain ⟨k, hk, rfl, hrows, hth, hgz, hB⟩ := hrel
  clear hmk
  by_cases hlt : k < rs.length
  ·
   obtain ⟨r, hr⟩ : ∃ r, rs[k]? = some r := ⟨rs[k], List.getElem?_eq_getElem hlt⟩
   obtain ⟨c0, c1, c2, c3, c4⟩ := (hR.keep hb hB).at hr
   have Hr : Hid _ := hr
   clear hr
   go_wp2_with fail
   refine (toGrant_b r.h r.b r.c r.t r.u _).mono ?_
   rintro e w1 ⟨rfl, hb1⟩
   clear c0 c1 c2 c3 c4
   have hth1 := there_keep hth hgz hb1
   have hrows1 := hrows.keep hgz hb1
   have hB1 := bl_trans hB hb1
   have hgz1 : w.heap.size < w1.heap.size := Nat.lt_of_lt_of_le hgz hb1.size
   clear hth hrows hB hb1
   go_wp2_with (refine wpList_store_mid (by rfl) 61 _ _ (by rfl) w.heap.size (k * 5) #[.string r.h, .string r.b, .string r.c, .int .i64 r.t, .int .i64 r.u] (by rfl) (by rfl) (by exact there_part hth1 hlt) hinfo (by simp [Value.oneCell']) ?_)
   exact ⟨⟨k + 1, by omega, by go_num, rows_step Hr.out hrows1 (there_part hth1 hlt), World.there_setCells hth1 _ _ _, by rw [size_cells]; exact hgz1, bl_cells (Nat.le_refl _) _ _ _ hB1⟩, by simp [intOf]; omega⟩
  ·
   go_wp2
   go_ret
   have e : rs.take k = rs := List.take_of_length_le (by omega)
   rw [e] at hrows
   exact ⟨rfl, hrows, hth, hgz, hB⟩
end Go.Proofs.YtefkdohkjdopeaaGreatDoor.G
