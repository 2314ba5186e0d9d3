import Derived.Test.YtefkdohkjdopeaaGreatDoorJ01
import Derived.Deep.MidRow
import Derived.Laws.AppendOwn
import Derived.Laws.MakeOwn
import Derived.Sort.KeysCollected
namespace Go.Proofs.YtefkdohkjdopeaaGreatDoor.G
open Go.RowKit Go.Maps Go.WideMaps
set_option linter.unusedVariables false
theorem lawV : Keyed Tryz.prog 9 := string_keyed Tryz.underlying9
def RVL (xs : List Value) : Option (DataW GrantD × List MemPlace) :=
 match xs with
 | [.string h', .string b', .string c', .int .i64 t', .int .i64 u'] => some (.held ⟨h', b', c', t', u'⟩, [])
 | _ => none
def RV (v : Value) : Option (DataW GrantD × List MemPlace) :=
 match v with
 | .agg xs => RVL xs.toList
 | _ => none
theorem RV_inv {v : Value} {r : GrantD} {ps : List MemPlace} (h : RV v = some (.held r, ps)) : v = .agg #[.string r.h, .string r.b, .string r.c, .int .i64 r.t, .int .i64 r.u] := by
 unfold RV at h
 split at h
 ·
  rename_i xs
  obtain ⟨l⟩ := xs
  simp only at h
  unfold RVL at h
  split at h
  ·
   simp only [Option.some.injEq, Prod.mk.injEq, DataW.held.injEq] at h
   obtain ⟨rfl, -⟩ := h
   rfl
  ·
   cases h
 ·
  cases h
def keyV (r : GrantD) : List UInt8 := r.h.data.toList
def dec (rs : List GrantD) : DataW GrantD := Ord.dec keyV rs
def Srt (rs : List GrantD) : Prop := Ord.Srt keyV rs
theorem srt_asc {rs : List GrantD} (h : AscN rs rs.length) : Srt rs :=
 Ord.srt_of keyV rs (fun j q r hq hr => by
  have h1 := h j q r (by have := (List.getElem?_eq_some_iff.1 hr).1; omega) hq hr
  rw [Ord.less_before, ByteArray.toList_eq, ByteArray.toList_eq] at h1
  exact h1)
theorem mapv_below {x y : World} {b n : Nat} {D : DataW GrantD} (h : x.ownsMap Tryz.prog 9 RV b n D) (hb : Below x.heap.size x y) : y.ownsMap Tryz.prog 9 RV b n D :=
 h.kept (row := none) ⟨hb.os, hb.tape, hb.output, hb.size, fun k hk _ => hb.block k hk⟩ (by simp)
theorem mapv_step {w : World} (b n : Nat) (rs : List GrantD) (r : GrantD) (hown : w.ownsMap Tryz.prog 9 RV b n (dec rs)) (hn : n < maxLen) (hs : r.h.size ≤ maxLen) :
  ∃ w', Sem.run Tryz.prog (Instr.mapUpdate 107 (.map (some b)) (.string r.h) (.agg #[.string r.h, .string r.b, .string r.c, .int .i64 r.t, .int .i64 r.u])) w = .ok () w' ∧ w'.ownsMap Tryz.prog 9 RV b (n + 1) (dec (Ord.ins keyV r rs)) ∧ w.grownBy w' (some b) := by
 have h := hown.update lawV (t := 107) (e := 61) Tryz.underlying107 hn (keyOf_string_mk Tryz.underlying9 hs) (val := .agg #[.string r.h, .string r.b, .string r.c, .int .i64 r.t, .int .i64 r.u]) (d := .held r) (ps := []) rfl
 have e : (dec rs).put (Lit.string r.h.data.toList) (.held r) = dec (Ord.ins keyV r rs) := Ord.dec_put keyV r rs
 rw [e] at h
 exact h
theorem boxV {wr w' : World} {r : GrantD} (hb : Below (wr.alloc (.cells #[.string r.h, .string r.b, .string r.c, .int .i64 r.t, .int .i64 r.u] 61)).heap.size (wr.alloc (.cells #[.string r.h, .string r.b, .string r.c, .int .i64 r.t, .int .i64 r.u] 61)) w') : w'.cell? ⟨wr.heap.size, 0, none⟩ = some (.string r.h) ∧ w'.cell? ⟨wr.heap.size, 1, none⟩ = some (.string r.b) ∧ w'.cell? ⟨wr.heap.size, 2, none⟩ = some (.string r.c) ∧ w'.cell? ⟨wr.heap.size, 3, none⟩ = some (.int .i64 r.t) ∧ w'.cell? ⟨wr.heap.size, 4, none⟩ = some (.int .i64 r.u) := by
 have hk := box_keep hb
 exact ⟨by rw [hk 0]; simp [go_sem], by rw [hk 1]; simp [go_sem], by rw [hk 2]; simp [go_sem], by rw [hk 3]; simp [go_sem], by rw [hk 4]; simp [go_sem]⟩
theorem boxV_grown {wr w' w2 : World} {r : GrantD} {B : Nat} (h : w'.cell? ⟨wr.heap.size, 0, none⟩ = some (.string r.h) ∧ w'.cell? ⟨wr.heap.size, 1, none⟩ = some (.string r.b) ∧ w'.cell? ⟨wr.heap.size, 2, none⟩ = some (.string r.c) ∧ w'.cell? ⟨wr.heap.size, 3, none⟩ = some (.int .i64 r.t) ∧ w'.cell? ⟨wr.heap.size, 4, none⟩ = some (.int .i64 r.u)) (hg : w'.grownBy w2 (some B)) (hne : wr.heap.size ≠ B) : w2.cell? ⟨wr.heap.size, 0, none⟩ = some (.string r.h) ∧ w2.cell? ⟨wr.heap.size, 1, none⟩ = some (.string r.b) ∧ w2.cell? ⟨wr.heap.size, 2, none⟩ = some (.string r.c) ∧ w2.cell? ⟨wr.heap.size, 3, none⟩ = some (.int .i64 r.t) ∧ w2.cell? ⟨wr.heap.size, 4, none⟩ = some (.int .i64 r.u) :=
 ⟨hg.cell h.1 (by simpa using hne), hg.cell h.2.1 (by simpa using hne), hg.cell h.2.2.1 (by simpa using hne), hg.cell h.2.2.2.1 (by simpa using hne), hg.cell h.2.2.2.2 (by simpa using hne)⟩
theorem make_mapV (n : Nat) (w : World) : Sem.run Tryz.prog (Instr.makeMap 107 (some (.int .i64 (n : Int)))) w = .ok (.map (some w.heap.size)) (w.alloc (.map #[] 0)) := by
 kernel_rfl
set_option maxRecDepth 4000 in
set_option maxHeartbeats 2000000 in
theorem byNameV (b off cap : Nat) (rs : List GrantD) (w : World) (hR : RowsAt w b off rs) (l1 : b < w.heap.size) (hfit : ∀ r ∈ rs, r.h.size ≤ maxLen) (hl : rs.length ≤ 1048576) (hs : Srt rs) :
  Calls Tryz.prog 67 #[.slice (some ⟨b, off, none⟩) rs.length cap, .func (.func 68) #[] #[]] w fun e w' => e = .returned (.map (some w.heap.size)) ∧ w'.ownsMap Tryz.prog 9 RV w.heap.size rs.length (dec rs) ∧ Below w.heap.size w w' := by
 have hmm := make_mapV rs.length
 have HS : Hid (Srt rs) := hs
 clear hs
 go_enter Tryz.func67, Tryz.ntmps67
 go_wp2
 clear hmm
 go_loopw [13] (fun i wx => ∃ (k : Nat), k ≤ rs.length ∧ i = .int .i64 k ∧ Hid (wx.ownsMap Tryz.prog 9 RV w.heap.size k (dec (rs.take k))) ∧ Below w.heap.size w wx) (fun i _ => rs.length - (intOf i).toNat)
 case atStart => exact ⟨0, Nat.zero_le _, rfl, World.ownsMap_made _ _ _ _, bl_alloc (Below.refl _ _) _⟩
 case round =>
  obtain ⟨k, hk, rfl, Ho, hB⟩ := hrel
  by_cases hlt : k < rs.length
  ·
   obtain ⟨r, hr⟩ : ∃ r, rs[k]? = some r := ⟨rs[k], List.getElem?_eq_getElem hlt⟩
   have Hr : Hid _ := hr
   have hf1 := hfit r (List.mem_of_getElem? hr)
   obtain ⟨c0, c1, c2, c3, c4⟩ := (hR.keep l1 hB).at hr
   clear hr
   have hne : wr.heap.size ≠ w.heap.size := by have := Ho.out.lt; omega
   go_wp2_with fail
   go_region_held3 (fun w' => w'.cell? ⟨wr.heap.size, 0, none⟩ = some (.string r.h) ∧ w'.cell? ⟨wr.heap.size, 1, none⟩ = some (.string r.b) ∧ w'.cell? ⟨wr.heap.size, 2, none⟩ = some (.string r.c) ∧ w'.cell? ⟨wr.heap.size, 3, none⟩ = some (.int .i64 r.t) ∧ w'.cell? ⟨wr.heap.size, 4, none⟩ = some (.int .i64 r.u))
    (first | exact boxV (bl_drew (Below.refl _ _)) | exact boxV (bl_trans (bl_drew (Below.refl _ _)) hx) | exact boxV_grown (boxV (bl_trans (bl_drew (Below.refl _ _)) hx)) hg2 hne)
    (first | (go_at_call 68; refine (name_any r _).mono ?_; rintro e w' ⟨rfl, hx⟩) | (have hms := mapv_step w.heap.size k (rs.take k) r (mapv_below (mapv_below Ho.out (bl_drew (bl_alloc (Below.refl _ _) _))) hx) (by unfold maxLen; omega) hf1; obtain ⟨w2, hrun, ho2, hg2⟩ := hms; go_simp))
   have y1 := bl_trans (bl_trans hB (bl_alloc (Below.refl _ wr) _)) (bl_trans (bl_drew (Below.refl _ _)) hx)
   have Y2 : Hid (Below w.heap.size w w2) := Below.grown y1 hg2 y1.size (fun j hj => by cases hj; exact Nat.le_refl _)
   have O2 : Hid (w2.ownsMap Tryz.prog 9 RV w.heap.size (k + 1) (dec (rs.take (k + 1)))) := by
    show World.ownsMap _ _ _ _ _ _ _
    rw [← Ord.take_last keyV HS.out Hr.out]; exact ho2
   clear y1 hx hg2 ho2 hrun
   go_wp2
   exact ⟨⟨k + 1, by omega, by go_num, O2.out, Y2.out⟩, by simp [intOf]; omega⟩
  ·
   go_wp2
   go_ret
   have e : k = rs.length := by omega
   subst e
   rw [List.take_of_length_le (Nat.le_refl _)] at Ho
   exact ⟨rfl, Ho.out, hB⟩
theorem zeroV (w : World) : (zeroValue 61).run Tryz.prog w = .ok (.agg #[.string ⟨#[]⟩, .string ⟨#[]⟩, .string ⟨#[]⟩, .int .i64 0, .int .i64 0]) w := by kernel_rfl
theorem lookV {w : World} (b n : Nat) (rs : List GrantD) (hown : w.ownsMap Tryz.prog 9 RV b n (dec rs)) (hs : Srt rs) (s : ByteArray) (hz : s.size ≤ maxLen) :
  (∃ r ∈ rs, r.h = s ∧ Sem.run Tryz.prog (Instr.lookup 107 (.map (some b)) (.string s) true) w = .ok (.tuple #[.agg #[.string r.h, .string r.b, .string r.c, .int .i64 r.t, .int .i64 r.u], .bool true]) w) ∨ ((∀ r ∈ rs, r.h ≠ s) ∧ Sem.run Tryz.prog (Instr.lookup 107 (.map (some b)) (.string s) true) w = .ok (.tuple #[.agg #[.string ⟨#[]⟩, .string ⟨#[]⟩, .string ⟨#[]⟩, .int .i64 0, .int .i64 0], .bool false]) w) := by
 obtain ⟨v, ps, hrun, hv⟩ := hown.look_ok lawV (t := 107) (e := 61) Tryz.underlying107 (zeroV w) (zd := .held ⟨⟨#[]⟩, ⟨#[]⟩, ⟨#[]⟩, 0, 0⟩) (zp := []) rfl (keyOf_string_mk Tryz.underlying9 hz)
 have hh : has (dec rs) (Lit.string s.data.toList) = rs.any (fun y => keyV y == s.data.toList) := Ord.dec_has keyV _ rs
 rw [hh] at hrun
 cases ha : rs.any (fun y => keyV y == s.data.toList)
 ·
  right
  refine ⟨fun r hr e => ?_, ?_⟩
  ·
   have := List.any_eq_false.1 ha r hr
   rw [← e] at this
   simp [keyV] at this
  ·
   rw [show (dec rs).atKey (Lit.string s.data.toList) (.held ⟨⟨#[]⟩, ⟨#[]⟩, ⟨#[]⟩, 0, 0⟩) = .held ⟨⟨#[]⟩, ⟨#[]⟩, ⟨#[]⟩, 0, 0⟩ from Ord.dec_none keyV ha _] at hv
   rw [RV_inv hv, ha] at hrun
   exact hrun
 ·
  left
  obtain ⟨r, hr, he⟩ := List.any_eq_true.1 ha
  have e1 : r.h.data.toList = s.data.toList := by simpa [keyV] using he
  have e2 : r.h = s := Ord.ba_ext e1
  refine ⟨r, hr, e2, ?_⟩
  rw [show Lit.string s.data.toList = Lit.string (keyV r) from by rw [← e1]; rfl, show (dec rs).atKey (Lit.string (keyV r)) (.held ⟨⟨#[]⟩, ⟨#[]⟩, ⟨#[]⟩, 0, 0⟩) = .held r from Ord.dec_at keyV hs hr _] at hv
  rw [RV_inv hv, ha] at hrun
  exact hrun
end Go.Proofs.YtefkdohkjdopeaaGreatDoor.G
namespace Go.Proofs.YtefkdohkjdopeaaGreatDoor
open Go.RowKit
set_option linter.unusedVariables false
structure Ex (kr : Nat) (w w' : World) : Prop where
 os : w'.os = w.os
 tape : w'.tape = w.tape
 output : w'.output = w.output
 size : w.heap.size ≤ w'.heap.size
 block : ∀ k, k < w.heap.size → k ≠ kr → w'.heap[k]? = w.heap[k]?
theorem Ex.refl (kr : Nat) (w : World) : Ex kr w w := ⟨rfl, rfl, rfl, Nat.le_refl _, fun _ _ _ => rfl⟩
theorem Ex.trans {kr : Nat} {a b c : World} (h : Ex kr a b) (k : Ex kr b c) : Ex kr a c :=
 ⟨k.os.trans h.os, k.tape.trans h.tape, k.output.trans h.output, Nat.le_trans h.size k.size, fun i hi hne => (k.block i (Nat.lt_of_lt_of_le hi h.size) hne).trans (h.block i hi hne)⟩
theorem Ex.of_below {kr : Nat} {a b : World} (h : Below a.heap.size a b) : Ex kr a b := ⟨h.os, h.tape, h.output, h.size, fun i hi _ => h.block i hi⟩
theorem Ex.below {kr B : Nat} {a b : World} (h : Ex kr a b) (hB : B ≤ kr) (hz : B ≤ a.heap.size) : Below B a b := ⟨h.os, h.tape, h.output, h.size, fun i hi => h.block i (by omega) (by omega)⟩
theorem Ex.set {kr : Nat} {a b : World} (h : Ex kr a b) (o : Nat) (u : Value) : Ex kr a (b.setCell ⟨kr, o, none⟩ u) :=
 h.trans ⟨rfl, rfl, rfl, by simp [World.setCell], fun i hi hne => Below.heap_setCell _ _ _ _ hne⟩
theorem Ex.cell {kr : Nat} {a b : World} (h : Ex kr a b) {p : Addr} (hp : p.block < a.heap.size) (hne : p.block ≠ kr) : b.cell? p = a.cell? p := World.cell?_of_block (w := a) (h.block p.block hp hne)
theorem Ex.frozen {kr : Nat} {a b : World} (h : Ex kr a b) {p : Addr} (hp : p.block < a.heap.size) (hne : p.block ≠ kr) : b.frozen? p = a.frozen? p := World.frozen?_of_block (w := a) (h.block p.block hp hne)
theorem Ex.cells {kr : Nat} : ∀ (vs : List Value) (o : Nat) {a b : World}, Ex kr a b → Ex kr a (b.setCells kr o vs)
 | [], _, _, _, h => h
 | v :: r, o, _, _, h => Ex.cells r (o + 1) (h.set o v)
theorem Ex.mono {kr : Nat} {a b c : World} (h : Below a.heap.size a b) (k : Ex kr b c) (hk : a.heap.size ≤ kr) : Below a.heap.size a c := h.trans (k.below hk h.size)
theorem there_ex {kr : Nat} {x y : World} {k o n : Nat} (h : x.there k o n) (hk : k < x.heap.size) (hE : Ex kr x y) (hne : k ≠ kr) : y.there k o n :=
 fun j hj => ⟨by rw [hE.cell (p := ⟨k, o + j, none⟩) hk hne]; exact (h j hj).1, by rw [hE.frozen (p := ⟨k, o + j, none⟩) hk hne]; exact (h j hj).2⟩
theorem there_keep2 {x y : World} {k o n : Nat} (h : x.there k o n) (hk : k < x.heap.size) (hb : Below x.heap.size x y) : y.there k o n :=
 fun j hj => ⟨by rw [hb.cell (p := ⟨k, o + j, none⟩) hk]; exact (h j hj).1, by rw [hb.frozen (p := ⟨k, o + j, none⟩) hk]; exact (h j hj).2⟩
theorem range_keep {w w' : World} {b o : Nat} {vs : List Value} (h : w.rangeAt b o vs) (hb : b < w.heap.size) (hB : Below w.heap.size w w') : w'.rangeAt b o vs :=
 fun j v hj => (hB.cell (p := ⟨b, o + j, none⟩) hb).trans (h j v hj)
theorem range_append {w : World} {b o : Nat} {xs ys : List Value} (h1 : w.rangeAt b o xs) (h2 : w.rangeAt b (o + xs.length) ys) : w.rangeAt b o (xs ++ ys) := by
 intro j v hj
 rcases Nat.lt_or_ge j xs.length with hl | hl
 ·
  rw [List.getElem?_append_left hl] at hj; exact h1 j v hj
 ·
  rw [List.getElem?_append_right hl] at hj
  have := h2 (j - xs.length) v hj
  rwa [show o + xs.length + (j - xs.length) = o + j from by omega] at this
end Go.Proofs.YtefkdohkjdopeaaGreatDoor
namespace Go.Proofs.YtefkdohkjdopeaaGreatDoor.G
open Go.RowKit
set_option linter.unusedVariables false
def flatR (rs : List GrantD) : List Value := rs.flatMap GrantD.cells
theorem flatR_len : ∀ rs : List GrantD, (flatR rs).length = rs.length * 5
 | [] => rfl
 | r :: rs => by
  have := flatR_len rs
  simp only [flatR, List.flatMap_cons, List.length_append] at this ⊢
  simp only [this, List.length_cons]
  show 5 + rs.length * 5 = _
  omega
theorem flatR_at : ∀ (rs : List GrantD) (k : Nat) (r : GrantD), rs[k]? = some r → ∀ j, j < 5 → (flatR rs)[k * 5 + j]? = r.cells[j]?
 | [], k, r, h, j, hj => by simp at h
 | q :: rs, 0, r, h, j, hj => by
  simp at h; subst h
  rw [flatR, List.flatMap_cons, List.getElem?_append_left (by show _ < 5; omega)]
  simp
 | q :: rs, k + 1, r, h, j, hj => by
  have ih := flatR_at rs k r (by simpa using h) j hj
  rw [flatR, List.flatMap_cons, List.getElem?_append_right (by show 5 ≤ _; omega)]
  rw [← ih]
  show (flatR rs)[(k + 1) * 5 + j - 5]? = _
  rw [show (k + 1) * 5 + j - 5 = k * 5 + j from by omega]
theorem flatR_one (rs : List GrantD) : ∀ u ∈ flatR rs, u.oneCell' = true := by
 intro u hu
 obtain ⟨r, -, h⟩ := List.mem_flatMap.1 hu
 simp [GrantD.cells] at h
 rcases h with rfl | rfl | rfl | rfl | rfl <;> rfl
theorem rows_of_owns {w : World} {base : Nat} {v : Value} {rs : List GrantD} (h : w.ownsRow base 61 5 v rs.length (flatR rs)) :
  (v = .slice none 0 0 ∧ rs = []) ∨ ∃ g cap, v = .slice (some ⟨g, 0, none⟩) rs.length cap ∧ base ≤ g ∧ g < w.heap.size ∧ RowsAt w g 0 rs ∧ w.there g 0 (rs.length * 5) := by
 obtain ⟨hl, ⟨rfl, hn⟩ | ⟨g, cap, cur, rfl, hb, hg, hnc, hcm, hcs, htk⟩⟩ := h
 ·
  exact Or.inl ⟨rfl, List.length_eq_zero_iff.1 hn⟩
 ·
  refine Or.inr ⟨g, cap, rfl, hb, (Array.getElem?_eq_some_iff.1 hg).1, ?_, ?_⟩
  ·
   intro k r hk j u hj
   have hjn : j < 5 := by
    rcases Nat.lt_or_ge j 5 with h' | h'
    ·
     exact h'
    ·
     rw [List.getElem?_eq_none (by simpa [GrantD.cells] using h')] at hj; cases hj
   have hf := flatR_at rs k r hk j hjn
   rw [hj, ← htk, List.getElem?_take] at hf
   split at hf
   ·
    rw [cell_of_row w g _ cur _ (0, 0) hg, Nat.zero_add]
    simpa using hf
   ·
    cases hf
  ·
   intro j hj
   have hlt : j < cur.size := by
    have : rs.length * 5 ≤ cap * 5 := Nat.mul_le_mul_right 5 hnc
    omega
   refine ⟨?_, ?_⟩
   ·
    rw [cell_of_row w g _ cur _ (0, 0) hg, Nat.zero_add]
    simp [Array.getElem?_eq_getElem hlt]
   ·
    simp [World.frozen?, hg]
theorem owns_below {x y : World} {base : Nat} {e : TypeId} {size : Nat} {v : Value} {n : Nat} {xs : List Value} (h : x.ownsRow base e size v n xs) (hb : Below x.heap.size x y) : y.ownsRow base e size v n xs :=
 h.kept (row := none) ⟨hb.os, hb.tape, hb.output, hb.size, fun k hk _ => hb.block k hk⟩ (by cases hv : v.ownBlock <;> simp)
theorem owns_ge {x : World} {base : Nat} {e : TypeId} {size : Nat} {v : Value} {n : Nat} {xs : List Value} (h : x.ownsRow base e size v n xs) : ∀ k, v.ownBlock = some k → base ≤ k := fun k hk => (h.lt k hk).1
theorem new_cells (x : World) (N : Nat) (hN : N = x.heap.size) (arr : Array Value) (t : TypeId) (vs : List Value) (hv : arr.toList = vs) : ∀ j u, vs[j]? = some u → (x.alloc (.cells arr t)).cell? ((⟨N, 0, none⟩ : Addr).add j) = some u := by
 intro j u hj
 subst hN hv
 rw [Addr.add_mid, Nat.zero_add, World.cell?_alloc_new]
 simpa using hj
theorem cellsR_one (r : GrantD) : ∀ u ∈ r.cells, u.oneCell' = true := fun u hu => flatR_one [r] u (by simpa [flatR] using hu)
theorem infoR : (Tryz.prog.info? 61).map (fun i => (i.zero, i.size, i.bytes)) = some (some (.agg #[.string ⟨#[]⟩, .string ⟨#[]⟩, .string ⟨#[]⟩, .int .i64 0, .int .i64 0]), 5, 64) := by kernel_rfl
end Go.Proofs.YtefkdohkjdopeaaGreatDoor.G
namespace Go.Proofs.YtefkdohkjdopeaaGreatDoor.G
open Go.RowKit
set_option linter.unusedVariables false
def Sl (w : World) (v : Value) (l : List GrantD) (B : Nat) : Prop := (v = .slice none 0 0 ∧ l = []) ∨ ∃ g cap, v = .slice (some ⟨g, 0, none⟩) l.length cap ∧ B ≤ g ∧ g < w.heap.size ∧ RowsAt w g 0 l ∧ w.there g 0 (l.length * 5)
theorem Sl.of_owns {w : World} {v : Value} {l : List GrantD} {B : Nat} (h : w.ownsRow B 61 5 v l.length (flatR l)) : Sl w v l B := rows_of_owns h
theorem Sl.grown {w w' : World} {v : Value} {l : List GrantD} {B : Nat} {row : Option Nat} (h : Sl w v l B) (hg : w.grownBy w' row) (hne : v.ownBlock = none ∨ v.ownBlock ≠ row) : Sl w' v l B := by
 rcases h with h | ⟨g, cap, rfl, h1, h2, h3, h4⟩
 ·
  exact Or.inl h
 ·
  have hn : some g ≠ row := by simpa [Value.ownBlock] using hne
  have hc : ∀ o, w'.cell? ⟨g, o, none⟩ = w.cell? ⟨g, o, none⟩ := fun o => World.cell?_of_block (w := w) (a := ⟨g, o, none⟩) (hg.block g h2 hn)
  have hfz : ∀ o, w'.frozen? ⟨g, o, none⟩ = w.frozen? ⟨g, o, none⟩ := fun o => World.frozen?_of_block (w := w) (a := ⟨g, o, none⟩) (hg.block g h2 hn)
  exact Or.inr ⟨g, cap, rfl, h1, Nat.lt_of_lt_of_le h2 hg.size, fun k r hk j v hj => (hc _).trans (h3 k r hk j v hj), fun j hj => ⟨by rw [hc]; exact (h4 j hj).1, by rw [hfz]; exact (h4 j hj).2⟩⟩
theorem Sl.keep {w w' : World} {v : Value} {l : List GrantD} {B : Nat} (h : Sl w v l B) (hb : Below w.heap.size w w') : Sl w' v l B :=
 h.grown (row := none) ⟨hb.os, hb.tape, hb.output, hb.size, fun k hk _ => hb.block k hk⟩ (by cases hv : v.ownBlock <;> simp)
theorem Sl.lt {w : World} {v : Value} {l : List GrantD} {B : Nat} (h : Sl w v l B) : ∀ g, v.ownBlock = some g → B ≤ g ∧ g < w.heap.size := by
 rcases h with ⟨rfl, -⟩ | ⟨g, cap, rfl, h1, h2, -⟩
 ·
  intro g hg; simp [Value.ownBlock] at hg
 ·
  intro g' hg; simp [Value.ownBlock] at hg; subst hg; exact ⟨h1, h2⟩
theorem Sl.shape {w : World} {v : Value} {l : List GrantD} {B : Nat} (h : Sl w v l B) : ∃ a c, v = .slice a l.length c := by
 rcases h with ⟨rfl, rfl⟩ | ⟨g, cap, rfl, -⟩
 ·
  exact ⟨none, 0, rfl⟩
 ·
  exact ⟨_, _, rfl⟩
end Go.Proofs.YtefkdohkjdopeaaGreatDoor.G
namespace Go.Proofs.YtefkdohkjdopeaaGreatDoor
open Go.RowKit
set_option linter.unusedVariables false
structure RunD where
 c : ByteArray
 h : ByteArray
 v : Int
 p : Int
 s : Int
 d : Int
 g : Int
 a : Int
 b : Int
 i : Int
 u : Int
def RunD.cells (r : RunD) : List Value := [.string r.c, .int .i64 r.v, .string r.h, .int .i64 r.p, .int .i64 r.s, .int .i64 r.d, .int .i64 r.g, .int .i64 r.a, .int .i64 r.b, .int .i64 r.i, .int .i64 r.u]
def RowsAt (w : World) (b off : Nat) (rs : List RunD) : Prop := ∀ k r, rs[k]? = some r → w.rangeAt b (off + k * 11) r.cells
theorem RowsAt.keep {w w' : World} {b off : Nat} {rs : List RunD} (h : RowsAt w b off rs) (hb : b < w.heap.size) (hB : Below w.heap.size w w') : RowsAt w' b off rs :=
 fun k r hk j v hj => (hB.cell (p := ⟨b, off + k * 11 + j, none⟩) hb).trans (h k r hk j v hj)
theorem RowsAt.at {w : World} {b off : Nat} {rs : List RunD} (h : RowsAt w b off rs) {k : Nat} {r : RunD} (hk : rs[k]? = some r) :
  w.cell? ⟨b, off + k * 11, none⟩ = some (.string r.c) ∧ w.cell? ⟨b, off + k * 11 + 1, none⟩ = some (.int .i64 r.v) ∧ w.cell? ⟨b, off + k * 11 + 2, none⟩ = some (.string r.h) ∧ w.cell? ⟨b, off + k * 11 + 3, none⟩ = some (.int .i64 r.p) ∧ w.cell? ⟨b, off + k * 11 + 4, none⟩ = some (.int .i64 r.s) ∧ w.cell? ⟨b, off + k * 11 + 5, none⟩ = some (.int .i64 r.d) ∧ w.cell? ⟨b, off + k * 11 + 6, none⟩ = some (.int .i64 r.g) ∧ w.cell? ⟨b, off + k * 11 + 7, none⟩ = some (.int .i64 r.a) ∧ w.cell? ⟨b, off + k * 11 + 8, none⟩ = some (.int .i64 r.b) ∧ w.cell? ⟨b, off + k * 11 + 9, none⟩ = some (.int .i64 r.i) ∧ w.cell? ⟨b, off + k * 11 + 10, none⟩ = some (.int .i64 r.u) :=
 ⟨h k r hk 0 _ rfl, h k r hk 1 _ rfl, h k r hk 2 _ rfl, h k r hk 3 _ rfl, h k r hk 4 _ rfl, h k r hk 5 _ rfl, h k r hk 6 _ rfl, h k r hk 7 _ rfl, h k r hk 8 _ rfl, h k r hk 9 _ rfl, h k r hk 10 _ rfl⟩
theorem bl_cells {A : World} {k : Nat} (hk : A.heap.size ≤ k) : ∀ (vs : List Value) (o : Nat) (w' : World), Below A.heap.size A w' → Below A.heap.size A (w'.setCells k o vs)
 | [], _, _, h => h
 | v :: r, o, w', h => bl_cells hk r (o + 1) _ (bl_set h (by exact hk) v)
theorem size_cells {k : Nat} : ∀ (vs : List Value) (o : Nat) (w' : World), (w'.setCells k o vs).heap.size = w'.heap.size
 | [], _, _ => rfl
 | v :: r, o, w' => (size_cells r (o + 1) _).trans (by simp [World.setCell])
theorem there_keep {x y : World} {k o n : Nat} (h : x.there k o n) (hk : k < x.heap.size) (hb : Below x.heap.size x y) : y.there k o n :=
 fun j hj => ⟨by rw [hb.cell (p := ⟨k, o + j, none⟩) hk]; exact (h j hj).1, by rw [hb.frozen (p := ⟨k, o + j, none⟩) hk]; exact (h j hj).2⟩
theorem there_part {x : World} {g n k : Nat} (h : x.there g 0 (n * 11)) (hk : k < n) : x.there g (k * 11) 11 :=
 fun j hj => by have := h (k * 11 + j) (by omega); simpa using this
theorem there_new {w : World} {C : Array Value} {t : TypeId} {n : Nat} (hC : C.size = n * 11) : (w.alloc (.cells C t)).there w.heap.size 0 (n * 11) :=
 fun j hj => ⟨by simp [go_sem]; omega, by simp [go_sem]⟩
theorem rows_step {x : World} {g k : Nat} {rs : List RunD} {r : RunD} (hr : rs[k]? = some r) (h : RowsAt x g 0 (rs.take k)) (ht : x.there g (k * 11) 11) : RowsAt (x.setCells g (k * 11) r.cells) g 0 (rs.take (k + 1)) := by
 intro j q hj
 rw [List.getElem?_take] at hj
 split at hj
 case isFalse => cases hj
 rename_i hlt
 by_cases e : j = k
 ·
  subst e
  rw [hr] at hj
  cases hj
  have := World.rangeAt_setCells_same x g (j * 11) r.cells ht
  simpa using this
 ·
  have hj' : (rs.take k)[j]? = some q := by rw [List.getElem?_take, if_pos (by omega)]; exact hj
  exact World.rangeAt_setCells_apart (h j q hj') g (k * 11) r.cells (Or.inr (Or.inl (by show 0 + j * 11 + 11 ≤ k * 11; omega)))
def flatR (rs : List RunD) : List Value := rs.flatMap RunD.cells
theorem flatR_len : ∀ rs : List RunD, (flatR rs).length = rs.length * 11
 | [] => rfl
 | r :: rs => by
  have := flatR_len rs
  simp only [flatR, List.flatMap_cons, List.length_append] at this ⊢
  simp only [this, List.length_cons]
  show 11 + rs.length * 11 = _
  omega
theorem flatR_snoc (rs : List RunD) (r : RunD) : flatR (rs ++ [r]) = flatR rs ++ r.cells := by simp [flatR]
theorem flatR_at : ∀ (rs : List RunD) (k : Nat) (r : RunD), rs[k]? = some r → ∀ j, j < 11 → (flatR rs)[k * 11 + j]? = r.cells[j]?
 | [], k, r, h, j, hj => by simp at h
 | q :: rs, 0, r, h, j, hj => by
  simp at h; subst h
  rw [flatR, List.flatMap_cons, List.getElem?_append_left (by show _ < 11; omega)]
  simp
 | q :: rs, k + 1, r, h, j, hj => by
  have ih := flatR_at rs k r (by simpa using h) j hj
  rw [flatR, List.flatMap_cons, List.getElem?_append_right (by show 11 ≤ _; omega)]
  rw [← ih]
  show (flatR rs)[(k + 1) * 11 + j - 11]? = _
  rw [show (k + 1) * 11 + j - 11 = k * 11 + j from by omega]
theorem flatR_one (rs : List RunD) : ∀ u ∈ flatR rs, u.oneCell' = true := by
 intro u hu
 obtain ⟨r, -, h⟩ := List.mem_flatMap.1 hu
 simp [RunD.cells] at h
 rcases h with rfl | rfl | rfl | rfl | rfl | rfl | rfl | rfl | rfl | rfl | rfl <;> rfl
theorem owns_below {x y : World} {base : Nat} {e : TypeId} {size : Nat} {v : Value} {n : Nat} {xs : List Value} (h : x.ownsRow base e size v n xs) (hb : Below x.heap.size x y) : y.ownsRow base e size v n xs :=
 h.kept (row := none) ⟨hb.os, hb.tape, hb.output, hb.size, fun k hk _ => hb.block k hk⟩ (by cases hv : v.ownBlock <;> simp)
theorem owns_ge {x : World} {base : Nat} {e : TypeId} {size : Nat} {v : Value} {n : Nat} {xs : List Value} (h : x.ownsRow base e size v n xs) : ∀ k, v.ownBlock = some k → base ≤ k := fun k hk => (h.lt k hk).1
theorem new_cells (x : World) (N : Nat) (hN : N = x.heap.size) (arr : Array Value) (t : TypeId) (vs : List Value) (hv : arr.toList = vs) : ∀ j u, vs[j]? = some u → (x.alloc (.cells arr t)).cell? ((⟨N, 0, none⟩ : Addr).add j) = some u := by
 intro j u hj
 subst hN hv
 rw [Addr.add_mid, Nat.zero_add, World.cell?_alloc_new]
 simpa using hj
theorem cellsR_one (r : RunD) : ∀ u ∈ r.cells, u.oneCell' = true := fun u hu => flatR_one [r] u (by simpa [flatR] using hu)
def StrAt (w : World) (a : Option Addr) (xs : List ByteArray) : Prop := xs = [] ∨ ∃ g, a = some ⟨g, 0, none⟩ ∧ g < w.heap.size ∧ ∀ k x, xs[k]? = some x → w.cell? ⟨g, k, none⟩ = some (.string x)
theorem StrAt.keep {w w' : World} {a : Option Addr} {xs : List ByteArray} (h : StrAt w a xs) (hb : Below w.heap.size w w') : StrAt w' a xs := by
 rcases h with h | ⟨g, h1, h2, h3⟩
 ·
  exact Or.inl h
 ·
  exact Or.inr ⟨g, h1, Nat.lt_of_lt_of_le h2 hb.size, fun k x hk => (hb.cell (p := ⟨g, k, none⟩) h2).trans (h3 k x hk)⟩
theorem str_shape {w : World} {base : Nat} {e : TypeId} {v : Value} {n : Nat} {xs : List Value} (h : w.ownsRow base e 1 v n xs) : ∃ a c, v = .slice a n c := by
 rcases h.2 with ⟨h1, h2⟩ | ⟨g, cap, cur, h1, -⟩
 ·
  subst h2; exact ⟨none, 0, h1⟩
 ·
  exact ⟨_, _, h1⟩
theorem str_at {w : World} {base : Nat} {e : TypeId} {a : Option Addr} {c : Nat} {xs : List ByteArray} (h : w.ownsRow base e 1 (.slice a xs.length c) xs.length (xs.map (fun x => .string x))) : StrAt w a xs := by
 obtain ⟨hl, ⟨h0, hn⟩ | ⟨g, cap, cur, h0, hb, hg, hnc, hcm, hcs, htk⟩⟩ := h
 ·
  exact Or.inl (List.length_eq_zero_iff.1 hn)
 ·
  cases h0
  refine Or.inr ⟨g, rfl, (Array.getElem?_eq_some_iff.1 hg).1, fun k x hk => ?_⟩
  have hf : (xs.map (fun x => Value.string x))[k]? = some (.string x) := by rw [List.getElem?_map, hk]; rfl
  rw [← htk, List.getElem?_take] at hf
  split at hf
  ·
   rw [cell_of_row w g _ cur _ (0, 0) hg]
   simpa using hf
  ·
   cases hf
end Go.Proofs.YtefkdohkjdopeaaGreatDoor
