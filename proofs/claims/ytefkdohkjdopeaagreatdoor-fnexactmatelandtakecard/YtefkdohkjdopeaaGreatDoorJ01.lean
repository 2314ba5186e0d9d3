import Derived.Test.YtefkdohkjdopeaaGreatDoorRows
import Derived.WalkKit
import Derived.WalkSpells
import Derived.WalkLawsBesides
import Derived.Below
import Derived.Outline
import Derived.Deep.MidRow
import Derived.Deep.RegionHeld3
import Derived.Laws.Pointers
import Derived.StillTactics
import Derived.Maps.OwnSet
import Derived.Sort.KeysCollected
namespace Go.Proofs.YtefkdohkjdopeaaGreatDoor
open Go.RowKit
theorem bl_alloc {w w' : World} (h : Below w.heap.size w w') (o : Obj) : Below w.heap.size w (w'.alloc o) := h.alloc h.size o
theorem bl_drew {w w' : World} (h : Below w.heap.size w w') : Below w.heap.size w w'.drew := h.drew
theorem bl_trans {w w1 w2 : World} (h : Below w.heap.size w w1) (k : Below w1.heap.size w1 w2) : Below w.heap.size w w2 := h.trans (k.mono h.size)
theorem bl_set {w w' : World} (h : Below w.heap.size w w') {p : Addr} (hp : w.heap.size ≤ p.block) (u : Value) : Below w.heap.size w (w'.setCell p u) := h.setCell hp u
theorem box_keep {w w1 : World} {o : Obj} (h : Below (w.alloc o).heap.size (w.alloc o) w1) : ∀ k, w1.cell? ⟨w.heap.size, k, none⟩ = (w.alloc o).cell? ⟨w.heap.size, k, none⟩ :=
 fun k => h.cell (p := ⟨w.heap.size, k, none⟩) (by simp)
theorem szWant_yes (c h : ByteArray) (v p s d g left : Int) (h0 : 0 ≤ left) (h1 : left ≤ 1048576) (k : (c.size : Int) + h.size ≤ left) (w : World) :
  Calls Tryz.prog 46 #[.agg #[.string c, .int .i64 v, .string h, .int .i64 p, .int .i64 s, .int .i64 d, .int .i64 g], .int .i64 left] w fun e w' => e = .returned (.int .i64 (left - c.size - h.size)) ∧ Below w.heap.size w w' := by
 go_enter Tryz.func46, Tryz.ntmps46
 go_wp2
 go_ret
 exact ⟨rfl, (Below.refl _ _).alloc (Nat.le_refl _) _⟩
theorem szWant_no (c h : ByteArray) (v p s d g left : Int) (h0 : 0 ≤ left) (h1 : left ≤ 1048576) (hc : c.size ≤ maxLen) (hh : h.size ≤ maxLen) (k : ¬ (c.size : Int) + h.size ≤ left) (w : World) :
  Calls Tryz.prog 46 #[.agg #[.string c, .int .i64 v, .string h, .int .i64 p, .int .i64 s, .int .i64 d, .int .i64 g], .int .i64 left] w fun e w' => e = .returned (.int .i64 (-1)) ∧ Below w.heap.size w w' := by
 unfold maxLen at hc hh
 by_cases k1 : (c.size : Int) ≤ left
 ·
  go_enter Tryz.func46, Tryz.ntmps46
  go_wp2
  go_ret
  exact ⟨rfl, (Below.refl _ _).alloc (Nat.le_refl _) _⟩
 ·
  go_enter Tryz.func46, Tryz.ntmps46
  go_wp2
  go_ret
  exact ⟨rfl, (Below.refl _ _).alloc (Nat.le_refl _) _⟩
theorem toWant_any (c h : ByteArray) (v p s d g : Int) (w : World) :
  Calls Tryz.prog 51 #[.agg #[.string c, .int .i64 v, .string h, .int .i64 p, .int .i64 s, .int .i64 d, .int .i64 g]] w fun e w' =>
   e = .returned (.agg #[.string c, .int .i64 v, .string h, .int .i64 p, .int .i64 s, .int .i64 d, .int .i64 g]) ∧ w' = ((w.alloc (.cells #[.string c, .int .i64 v, .string h, .int .i64 p, .int .i64 s, .int .i64 d, .int .i64 g] 87)).alloc (.cells #[.string c, .int .i64 v, .string h, .int .i64 p, .int .i64 s, .int .i64 d, .int .i64 g] 94)).alloc (.cells #[.string c, .int .i64 v, .string h, .int .i64 p, .int .i64 s, .int .i64 d, .int .i64 g] 94) := by
 go_enter Tryz.func51, Tryz.ntmps51
 go_wp2
 exact bodyPost_ret (v := .agg #[.string c, .int .i64 v, .string h, .int .i64 p, .int .i64 s, .int .i64 d, .int .i64 g]) (by simp [results, Tryz.results51, go_sem]) rfl ⟨rfl, rfl⟩
end Go.Proofs.YtefkdohkjdopeaaGreatDoor
namespace Go.Proofs.YtefkdohkjdopeaaGreatDoor.G
open Go.RowKit
set_option linter.unusedVariables false
theorem szGrant_yes (h b c : ByteArray) (t u left : Int) (h0 : 0 ≤ left) (h1 : left ≤ 1048576) (k : (h.size : Int) + b.size + c.size ≤ left) (w : World) :
  Calls Tryz.prog 44 #[.agg #[.string h, .string b, .string c, .int .i64 t, .int .i64 u], .int .i64 left] w fun e w' => e = .returned (.int .i64 (left - h.size - b.size - c.size)) ∧ Below w.heap.size w w' := by
 go_enter Tryz.func44, Tryz.ntmps44
 go_wp2
 go_ret
 exact ⟨rfl, (Below.refl _ _).alloc (Nat.le_refl _) _⟩
theorem szGrant_no (h b c : ByteArray) (t u left : Int) (h0 : 0 ≤ left) (h1 : left ≤ 1048576) (hh : h.size ≤ maxLen) (hb : b.size ≤ maxLen) (hc : c.size ≤ maxLen) (k : ¬ (h.size : Int) + b.size + c.size ≤ left) (w : World) :
  Calls Tryz.prog 44 #[.agg #[.string h, .string b, .string c, .int .i64 t, .int .i64 u], .int .i64 left] w fun e w' => e = .returned (.int .i64 (-1)) ∧ Below w.heap.size w w' := by
 unfold maxLen at hc hh hb
 by_cases k1 : (h.size : Int) ≤ left
 ·
  by_cases k2 : (h.size : Int) + b.size ≤ left
  ·
   go_enter Tryz.func44, Tryz.ntmps44
   go_wp2
   go_ret
   exact ⟨rfl, (Below.refl _ _).alloc (Nat.le_refl _) _⟩
  ·
   go_enter Tryz.func44, Tryz.ntmps44
   go_wp2
   go_ret
   exact ⟨rfl, (Below.refl _ _).alloc (Nat.le_refl _) _⟩
 ·
  go_enter Tryz.func44, Tryz.ntmps44
  go_wp2
  go_ret
  exact ⟨rfl, (Below.refl _ _).alloc (Nat.le_refl _) _⟩
theorem toGrant_b (h b c : ByteArray) (t u : Int) (w : World) :
  Calls Tryz.prog 49 #[.agg #[.string h, .string b, .string c, .int .i64 t, .int .i64 u]] w fun e w' => e = .returned (.agg #[.string h, .string b, .string c, .int .i64 t, .int .i64 u]) ∧ Below w.heap.size w w' := by
 go_enter Tryz.func49, Tryz.ntmps49
 go_wp2
 exact bodyPost_ret (v := .agg #[.string h, .string b, .string c, .int .i64 t, .int .i64 u]) (by simp [results, Tryz.results49, go_sem]) rfl ⟨rfl, by repeat (first | exact Below.refl _ _ | refine bl_alloc ?_ _)⟩
structure GrantD where
 h : ByteArray
 b : ByteArray
 c : ByteArray
 t : Int
 u : Int
def GrantD.cells (r : GrantD) : List Value := [.string r.h, .string r.b, .string r.c, .int .i64 r.t, .int .i64 r.u]
def GrantD.fits (r : GrantD) : Prop := r.h.size ≤ maxLen ∧ r.b.size ≤ maxLen ∧ r.c.size ≤ maxLen
def RowsAt (w : World) (b off : Nat) (rs : List GrantD) : Prop := ∀ k r, rs[k]? = some r → w.rangeAt b (off + k * 5) r.cells
theorem RowsAt.keep {w w' : World} {b off : Nat} {rs : List GrantD} (h : RowsAt w b off rs) (hb : b < w.heap.size) (hB : Below w.heap.size w w') : RowsAt w' b off rs :=
 fun k r hk j v hj => (hB.cell (p := ⟨b, off + k * 5 + j, none⟩) hb).trans (h k r hk j v hj)
theorem RowsAt.at {w : World} {b off : Nat} {rs : List GrantD} (h : RowsAt w b off rs) {k : Nat} {r : GrantD} (hk : rs[k]? = some r) :
  w.cell? ⟨b, off + k * 5, none⟩ = some (.string r.h) ∧ w.cell? ⟨b, off + k * 5 + 1, none⟩ = some (.string r.b) ∧ w.cell? ⟨b, off + k * 5 + 2, none⟩ = some (.string r.c) ∧ w.cell? ⟨b, off + k * 5 + 3, none⟩ = some (.int .i64 r.t) ∧ w.cell? ⟨b, off + k * 5 + 4, none⟩ = some (.int .i64 r.u) :=
 ⟨h k r hk 0 _ rfl, h k r hk 1 _ rfl, h k r hk 2 _ rfl, h k r hk 3 _ rfl, h k r hk 4 _ rfl⟩
end Go.Proofs.YtefkdohkjdopeaaGreatDoor.G
namespace Go.Proofs.YtefkdohkjdopeaaGreatDoor.G
open Go.RowKit
set_option linter.unusedVariables false
set_option maxRecDepth 4000 in
set_option maxHeartbeats 1000000 in
theorem allOk (bk : Nat) (P : GrantD → Bool) (b off cap : Nat) (rs : List GrantD) (w : World) (hR : RowsAt w b off rs) (l1 : b < w.heap.size) (hl : rs.length ≤ 1048576)
  (hF : ∀ r ∈ rs, ∀ x, Below w.heap.size w x → Calls Tryz.prog 83 #[.agg #[.string r.h, .string r.b, .string r.c, .int .i64 r.t, .int .i64 r.u], .pointer (some ⟨bk, 0, none⟩)] x fun e x' => e = .returned (.bool (P r)) ∧ Below x.heap.size x x') :
  Calls Tryz.prog 82 #[.slice (some ⟨b, off, none⟩) rs.length cap, .func (.func 83) #[] #[.pointer (some ⟨bk, 0, none⟩)]] w fun e w' => (∃ q : Bool, e = .returned (.bool q) ∧ (q = true ↔ ∀ r ∈ rs, P r = true)) ∧ Below w.heap.size w w' := by
 have HF : Hid _ := hF
 clear hF
 go_enter Tryz.func82, Tryz.ntmps82
 go_wp2
 go_loopw [9] (fun i wx => ∃ (k : Nat), k ≤ rs.length ∧ i = .int .i64 k ∧ Hid (∀ j r, j < k → rs[j]? = some r → P r = true) ∧ Below w.heap.size w wx) (fun i _ => rs.length - (intOf i).toNat)
 case atStart => exact ⟨0, Nat.zero_le _, rfl, fun j r h => by omega, Below.refl _ _⟩
 case round =>
  obtain ⟨k, hk, rfl, Ha, hB⟩ := hrel
  by_cases hlt : k < rs.length
  ·
   obtain ⟨r, hr⟩ : ∃ r, rs[k]? = some r := ⟨rs[k], List.getElem?_eq_getElem hlt⟩
   have Hr : Hid _ := hr
   clear hr
   obtain ⟨c0, c1, c2, c3, c4⟩ := (hR.keep l1 hB).at Hr.out
   go_wp2_with fail
   refine (HF.out r (List.mem_of_getElem? Hr.out) _ (bl_alloc hB _)).mono ?_
   rintro e w1 ⟨rfl, hb⟩
   have hB1 := bl_trans (bl_alloc hB _) hb
   have Hb1 : Hid _ := hB1
   clear hB hb hB1
   cases hP : P r
   ·
    go_wp2
    go_ret
    exact ⟨⟨false, rfl, ⟨fun h => (by cases h), fun h => by have := h r (List.mem_of_getElem? Hr.out); rw [hP] at this; cases this⟩⟩, Hb1.out⟩
   ·
    go_wp2
    exact ⟨⟨k + 1, by omega, by go_num, (fun j q hj hq => by
     by_cases e : j = k
     ·
      subst e; have hh := Hr.out; rw [hh] at hq; cases hq; exact hP
     ·
      exact Ha.out j q (by omega) hq), Hb1.out⟩, by simp [intOf]; omega⟩
  ·
   go_wp2
   go_ret
   exact ⟨⟨true, rfl, ⟨fun _ r hr => by
    obtain ⟨j, hj⟩ := List.getElem?_of_mem hr
    have hjl : j < rs.length := (List.getElem?_eq_some_iff.1 hj).1
    exact Ha.out j r (by omega) hj, fun _ => rfl⟩⟩, hB⟩
theorem name_any (r : GrantD) (w : World) :
  Calls Tryz.prog 68 #[.agg #[.string r.h, .string r.b, .string r.c, .int .i64 r.t, .int .i64 r.u]] w fun e w' => e = .returned (.string r.h) ∧ Below w.heap.size w w' := by
 go_enter Tryz.func68, Tryz.ntmps68
 go_wp2
 go_ret
 exact ⟨rfl, by repeat (first | exact Below.refl _ _ | refine bl_alloc ?_ _)⟩
def AscN (rs : List GrantD) (n : Nat) : Prop := ∀ j q r, j + 1 < n → rs[j]? = some q → rs[j + 1]? = some r → Op.bytesLess q.h.toList r.h.toList = true
theorem AscN.step {rs : List GrantD} {k : Nat} {q r : GrantD} (h : AscN rs (k + 1)) (hq : rs[k]? = some q) (hr : rs[k + 1]? = some r) (hs : Op.bytesLess q.h.toList r.h.toList = true) : AscN rs (k + 1 + 1) := by
 intro j q' r' hj hq' hr'
 by_cases e : j = k
 ·
  subst e; rw [hq] at hq'; rw [hr] at hr'; cases hq'; cases hr'; exact hs
 ·
  exact h j q' r' (by omega) hq' hr'
theorem keepAsc {x w' : World} {b off m : Nat} {rs : List GrantD} {r q : GrantD} (hk : rs[m + 1]? = some r) (hq : rs[m]? = some q) (h1 : RowsAt x b off rs) (l1 : b < x.heap.size) (hb : Below x.heap.size x w') :
  Below x.heap.size x w' ∧ (w'.cell? ⟨b, off + (m + 1) * 5, none⟩ = some (.string r.h) ∧ w'.cell? ⟨b, off + (m + 1) * 5 + 1, none⟩ = some (.string r.b) ∧ w'.cell? ⟨b, off + (m + 1) * 5 + 2, none⟩ = some (.string r.c) ∧ w'.cell? ⟨b, off + (m + 1) * 5 + 3, none⟩ = some (.int .i64 r.t) ∧ w'.cell? ⟨b, off + (m + 1) * 5 + 4, none⟩ = some (.int .i64 r.u)) ∧ (w'.cell? ⟨b, off + m * 5, none⟩ = some (.string q.h) ∧ w'.cell? ⟨b, off + m * 5 + 1, none⟩ = some (.string q.b) ∧ w'.cell? ⟨b, off + m * 5 + 2, none⟩ = some (.string q.c) ∧ w'.cell? ⟨b, off + m * 5 + 3, none⟩ = some (.int .i64 q.t) ∧ w'.cell? ⟨b, off + m * 5 + 4, none⟩ = some (.int .i64 q.u)) := ⟨hb, (h1.keep l1 hb).at hk, (h1.keep l1 hb).at hq⟩
set_option maxRecDepth 4000 in
set_option maxHeartbeats 2000000 in
theorem ascends (b off cap : Nat) (rs : List GrantD) (w : World) (hR : RowsAt w b off rs) (l1 : b < w.heap.size) (hl : rs.length ≤ 1048576) :
  Calls Tryz.prog 81 #[.slice (some ⟨b, off, none⟩) rs.length cap, .func (.func 68) #[] #[]] w fun e w' => (∃ q : Bool, e = .returned (.bool q) ∧ (q = true ↔ AscN rs rs.length)) ∧ Below w.heap.size w w' := by
 go_enter Tryz.func81, Tryz.ntmps81
 go_wp2
 go_loopw [5] (fun i wx => ∃ (m : Nat), m ≤ rs.length ∧ i = .int .i64 ((m : Int) + 1) ∧ Hid (AscN rs (m + 1)) ∧ Below w.heap.size w wx) (fun i _ => rs.length + 1 - (intOf i).toNat)
 case atStart => exact ⟨0, Nat.zero_le _, rfl, (fun j q r hj _ _ => by omega), Below.refl _ _⟩
 case round =>
  obtain ⟨m, hk, rfl, Ha, hB⟩ := hrel
  by_cases hlt : m + 1 < rs.length
  ·
   obtain ⟨r, hr⟩ : ∃ r, rs[m + 1]? = some r := ⟨rs[m + 1], List.getElem?_eq_getElem hlt⟩
   obtain ⟨q, hq⟩ : ∃ q, rs[m]? = some q := ⟨rs[m], List.getElem?_eq_getElem (by omega)⟩
   have Hr : Hid _ := hr
   have Hq : Hid _ := hq
   clear hr hq
   have g1 := hR.keep l1 hB
   have z1 : b < wr.heap.size := Nat.lt_of_lt_of_le l1 hB.size
   have i0 : (0 : Int) ≤ (m : Int) := by omega
   have i1 : (m : Int) + 1 < (rs.length : Int) := by omega
   have i2 : (m : Int) < (rs.length : Int) := by omega
   have i3 : (0 : Int) ≤ (m : Int) + 1 := by omega
   have iw : IntKind.i64.wrap (m : Int) = (m : Int) := by rw [IntKind.wrap_i64]; omega
   cases hasc : Op.bytesLess q.h.toList r.h.toList
   ·
    go_wp2_with fail
    go_region_held3 (fun w' => Below wr.heap.size wr w' ∧ (w'.cell? ⟨b, off + (m + 1) * 5, none⟩ = some (.string r.h) ∧ w'.cell? ⟨b, off + (m + 1) * 5 + 1, none⟩ = some (.string r.b) ∧ w'.cell? ⟨b, off + (m + 1) * 5 + 2, none⟩ = some (.string r.c) ∧ w'.cell? ⟨b, off + (m + 1) * 5 + 3, none⟩ = some (.int .i64 r.t) ∧ w'.cell? ⟨b, off + (m + 1) * 5 + 4, none⟩ = some (.int .i64 r.u)) ∧ (w'.cell? ⟨b, off + m * 5, none⟩ = some (.string q.h) ∧ w'.cell? ⟨b, off + m * 5 + 1, none⟩ = some (.string q.b) ∧ w'.cell? ⟨b, off + m * 5 + 2, none⟩ = some (.string q.c) ∧ w'.cell? ⟨b, off + m * 5 + 3, none⟩ = some (.int .i64 q.t) ∧ w'.cell? ⟨b, off + m * 5 + 4, none⟩ = some (.int .i64 q.u)))
     (first | exact keepAsc Hr.out Hq.out g1 z1 (bl_drew (Below.refl _ _)) | exact keepAsc Hr.out Hq.out g1 z1 (bl_trans (bl_drew (Below.refl _ _)) hx) | exact keepAsc Hr.out Hq.out g1 z1 (bl_trans (bl_trans (bl_drew (Below.refl _ _)) hx) hy))
     (first | (go_at_call 68; refine (name_any q _).mono ?_; rintro e w' ⟨rfl, hx⟩) | (go_at_call 68; refine (name_any r _).mono ?_; rintro e w'' ⟨rfl, hy⟩))
    have y1 := bl_trans (bl_trans (bl_drew (Below.refl _ wr)) hx) hy
    have Hb1 : Hid _ := bl_trans hB y1
    clear hx hy y1 hB g1
    go_wp2
    go_ret
    exact ⟨⟨false, rfl, ⟨fun h => (by cases h), fun h => by have := h m q r (by omega) Hq.out Hr.out; rw [hasc] at this; cases this⟩⟩, Hb1.out⟩
   ·
    go_wp2_with fail
    go_region_held3 (fun w' => Below wr.heap.size wr w' ∧ (w'.cell? ⟨b, off + (m + 1) * 5, none⟩ = some (.string r.h) ∧ w'.cell? ⟨b, off + (m + 1) * 5 + 1, none⟩ = some (.string r.b) ∧ w'.cell? ⟨b, off + (m + 1) * 5 + 2, none⟩ = some (.string r.c) ∧ w'.cell? ⟨b, off + (m + 1) * 5 + 3, none⟩ = some (.int .i64 r.t) ∧ w'.cell? ⟨b, off + (m + 1) * 5 + 4, none⟩ = some (.int .i64 r.u)) ∧ (w'.cell? ⟨b, off + m * 5, none⟩ = some (.string q.h) ∧ w'.cell? ⟨b, off + m * 5 + 1, none⟩ = some (.string q.b) ∧ w'.cell? ⟨b, off + m * 5 + 2, none⟩ = some (.string q.c) ∧ w'.cell? ⟨b, off + m * 5 + 3, none⟩ = some (.int .i64 q.t) ∧ w'.cell? ⟨b, off + m * 5 + 4, none⟩ = some (.int .i64 q.u)))
     (first | exact keepAsc Hr.out Hq.out g1 z1 (bl_drew (Below.refl _ _)) | exact keepAsc Hr.out Hq.out g1 z1 (bl_trans (bl_drew (Below.refl _ _)) hx) | exact keepAsc Hr.out Hq.out g1 z1 (bl_trans (bl_trans (bl_drew (Below.refl _ _)) hx) hy))
     (first | (go_at_call 68; refine (name_any q _).mono ?_; rintro e w' ⟨rfl, hx⟩) | (go_at_call 68; refine (name_any r _).mono ?_; rintro e w'' ⟨rfl, hy⟩))
    have y1 := bl_trans (bl_trans (bl_drew (Below.refl _ wr)) hx) hy
    have Hb1 : Hid _ := bl_trans hB y1
    clear hx hy y1 hB g1
    go_wp2
    exact ⟨⟨m + 1, by omega, by go_num, Ha.out.step Hq.out Hr.out hasc, Hb1.out⟩, by simp [intOf]; omega⟩
  ·
   go_wp2
   go_ret
   exact ⟨⟨true, rfl, ⟨fun _ j q r hj hq hr => Ha.out j q r (by omega) hq hr, fun _ => rfl⟩⟩, hB⟩
end Go.Proofs.YtefkdohkjdopeaaGreatDoor.G
namespace Go.Proofs.YtefkdohkjdopeaaGreatDoor.Ord
open Go.Maps Go.WideMaps
set_option linter.unusedVariables false
set_option linter.unusedSectionVars false
theorem ba_ext {x y : ByteArray} (h : x.data.toList = y.data.toList) : x = y := by
 obtain ⟨⟨a⟩⟩ := x
 obtain ⟨⟨b⟩⟩ := y
 simp at h
 rw [h]
theorem less_before : ∀ (x y : List UInt8), Op.bytesLess x y = bytesBefore x y
 | [], [] => rfl
 | [], _ :: _ => rfl
 | _ :: _, [] => rfl
 | a :: x, b :: y => by rw [Op.bytesLess, bytesBefore, less_before x y]
theorem lt_of_less : ∀ (x y : List UInt8), Op.bytesLess x y = decide (x < y)
 | [], [] => by simp [Op.bytesLess]
 | _ :: _, [] => by simp [Op.bytesLess]
 | [], _ :: _ => by simp [Op.bytesLess]
 | a :: x, b :: y => by
  rw [Op.bytesLess, lt_of_less x y]
  simp only [List.cons_lt_cons_iff]
  by_cases h1 : a < b <;> by_cases h2 : a = b <;> by_cases h3 : x < y <;> simp [h1, h2, h3]
theorem before_asymm {x y : List UInt8} (h : bytesBefore x y = true) : bytesBefore y x = false := by
 cases h' : bytesBefore y x
 ·
  rfl
 ·
  have := WideShapes.bytes_trans x y x h h'
  rw [WideAt.bytes_irrefl] at this; cases this
theorem before_ne {x y : List UInt8} (h : bytesBefore x y = true) : x ≠ y := fun e => by
 subst e; rw [WideAt.bytes_irrefl] at h; cases h
section
variable {α : Type} (key : α → List UInt8)
def Srt (l : List α) : Prop := l.Pairwise (fun q r => bytesBefore (key q) (key r) = true)
def dec (l : List α) : DataW α := .map (l.map fun r => (Lit.string (key r), .held r))
def insL (r : α) : List α → List α
 | [] => [r]
 | y :: l => if bytesBefore (key r) (key y) then r :: y :: l else y :: insL r l
def ins (r : α) (l : List α) : List α := insL key r (l.filter (fun y => !(key y == key r)))
def out (k : List UInt8) (l : List α) : List α := l.filter (fun y => !(key y == k))
theorem insert_dec (r : α) : ∀ l : List α, DataW.insert (Lit.string (key r), .held r) (l.map fun r => (Lit.string (key r), DataW.held r)) = (insL key r l).map fun r => (Lit.string (key r), .held r)
 | [] => rfl
 | y :: l => by
  show (if bytesBefore (key r) (key y) then _ else _) = _
  rw [insL]
  split
  ·
   rfl
  ·
   rw [List.map_cons]; congr 1; exact insert_dec r l
theorem filter_dec (k : List UInt8) (l : List α) : (l.map fun r => (Lit.string (key r), (DataW.held r : DataW α))).filter (fun p => !p.1.sameKey (Lit.string k)) = (out key k l).map fun r => (Lit.string (key r), .held r) := by
 unfold out
 rw [List.filter_map]
 rfl
theorem dec_put (r : α) (l : List α) : (dec key l).put (Lit.string (key r)) (.held r) = dec key (ins key r l) := by
 show DataW.map (DataW.insert _ _) = _
 rw [filter_dec, insert_dec]
 rfl
theorem dec_del (k : List UInt8) (l : List α) : (dec key l).del (Lit.string k) = dec key (out key k l) := by
 show DataW.map _ = _
 rw [filter_dec]
 rfl
theorem dec_has (k : List UInt8) (l : List α) : has (dec key l) (Lit.string k) = l.any (fun y => key y == k) := by
 show (l.map _).any _ = _
 rw [List.any_map]
 rfl
theorem dec_size (l : List α) : size (dec key l) = l.length := by
 show (l.map _).length = _
 simp
theorem dec_at {l : List α} {r : α} (hs : Srt key l) (hr : r ∈ l) (z : DataW α) : (dec key l).atKey (Lit.string (key r)) z = .held r := by
 refine WideAt.atKey_mem z trivial ?_ (List.mem_map.2 ⟨r, hr, rfl⟩)
 rw [List.pairwise_map]
 exact hs.imp (fun h e => before_ne h (Lit.string.inj e))
theorem dec_none {l : List α} {k : List UInt8} (h : l.any (fun y => key y == k) = false) (z : DataW α) : (dec key l).atKey (Lit.string k) z = z :=
 atKey_of_not_has (by rw [dec_has]; exact h) z
theorem ins_last {l : List α} {r : α} (h : ∀ y ∈ l, bytesBefore (key y) (key r) = true) : ins key r l = l ++ [r] := by
 have e : l.filter (fun y => !(key y == key r)) = l := List.filter_eq_self.2 (fun y hy => by simp [before_ne (h y hy)])
 unfold ins
 rw [e]
 clear e
 induction l with
 | nil => rfl
 | cons y l ih =>
  rw [insL, if_neg (by rw [before_asymm (h y (List.mem_cons_self ..))]; simp), ih (fun z hz => h z (List.mem_cons_of_mem _ hz)), List.cons_append]
theorem keys_dec (l : List α) : strKeys (dec key l) = l.map key := by
 show (l.map _).map _ = _
 rw [List.map_map]
 rfl
theorem before_le {x y : List UInt8} (h : bytesBefore x y = true) : x ≤ y := by
 have h1 : Op.bytesLess x y = true := by rw [less_before]; exact h
 rw [lt_of_less] at h1
 exact List.le_of_lt (of_decide_eq_true h1)
theorem sorted_keys {l : List α} (hs : Srt key l) {ss : List (List UInt8)} (hp : ss.Perm (strKeys (dec key l))) : ss.mergeSort (fun x y => decide (x ≤ y)) = l.map key := by
 have h1 : ss.mergeSort leB = (l.map key).mergeSort leB := by rw [← keys_dec key l]; exact mergeSort_of_perm hp
 rw [show ss.mergeSort (fun x y => decide (x ≤ y)) = ss.mergeSort leB from rfl, h1]
 refine List.mergeSort_of_pairwise ?_
 rw [List.pairwise_map]
 exact hs.imp (fun h => by simpa [leB] using before_le h)
theorem take_last {l : List α} {k : Nat} {r : α} (hs : Srt key l) (hr : l[k]? = some r) : ins key r (l.take k) = l.take (k + 1) := by
 have hlt : k < l.length := (List.getElem?_eq_some_iff.1 hr).1
 have he : l[k] = r := by rw [List.getElem?_eq_getElem hlt] at hr; exact Option.some.inj hr
 rw [List.take_succ_eq_append_getElem hlt, he]
 refine ins_last key (fun y hy => ?_)
 obtain ⟨i, hi⟩ := List.getElem?_of_mem hy
 rw [List.getElem?_take] at hi
 split at hi
 ·
  rename_i hik
  obtain ⟨hil, rfl⟩ := List.getElem?_eq_some_iff.1 hi
  have := List.pairwise_iff_getElem.1 hs i k hil hlt hik
  rw [he] at this
  exact this
 ·
  cases hi
theorem srt_of (l : List α) (h : ∀ j q r, l[j]? = some q → l[j + 1]? = some r → bytesBefore (key q) (key r) = true) : Srt key l := by
 induction l with
 | nil => exact List.Pairwise.nil
 | cons x l ih =>
  have ih' := ih (fun j q r hq hr => h (j + 1) q r (by simpa using hq) (by simpa using hr))
  refine List.Pairwise.cons ?_ ih'
  cases l with
  | nil => intro y hy; cases hy
  | cons y l =>
   have hxy := h 0 x y rfl rfl
   intro z hz
   rcases List.mem_cons.1 hz with rfl | hz
   ·
    exact hxy
   ·
    exact WideShapes.bytes_trans _ _ _ hxy (List.rel_of_pairwise_cons ih' hz)
end
end Go.Proofs.YtefkdohkjdopeaaGreatDoor.Ord
