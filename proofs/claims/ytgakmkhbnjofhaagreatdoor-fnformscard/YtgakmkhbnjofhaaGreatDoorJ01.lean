import Derived.Test.YtgakmkhbnjofhaaGreatDoorRows
import Derived.WalkKit
import Derived.WalkSpells
import Derived.WalkLawsBesides
import Derived.Below
import Derived.Outline
import Derived.Deep.MidRow
import Derived.Laws.Bits64
import Derived.Deep.QuietTactic
import Derived.BigQuiet
import Derived.Laws.Pointers
namespace Go.Proofs.YtgakmkhbnjofhaaGreatDoor
open Go.RowKit
theorem bl_alloc {w w' : World} (h : Below w.heap.size w w') (o : Obj) : Below w.heap.size w (w'.alloc o) := h.alloc h.size o
theorem bl_drew {w w' : World} (h : Below w.heap.size w w') : Below w.heap.size w w'.drew := h.drew
theorem bl_trans {w w1 w2 : World} (h : Below w.heap.size w w1) (k : Below w1.heap.size w1 w2) : Below w.heap.size w w2 := h.trans (k.mono h.size)
theorem bl_set {w w' : World} (h : Below w.heap.size w w') {p : Addr} (hp : w.heap.size ≤ p.block) (u : Value) : Below w.heap.size w (w'.setCell p u) := h.setCell hp u
theorem box_keep {w w1 : World} {o : Obj} (h : Below (w.alloc o).heap.size (w.alloc o) w1) : ∀ k, w1.cell? ⟨w.heap.size, k, none⟩ = (w.alloc o).cell? ⟨w.heap.size, k, none⟩ :=
 fun k => h.cell (p := ⟨w.heap.size, k, none⟩) (by simp)
theorem lb {n m : Nat} (h : Nat.ble n m = true) : n ≤ m := Nat.le_of_ble_eq_true h
theorem hidP {p : Prop} (h : p) : Hid p := h
structure Ex (kr : Nat) (w w' : World) : Prop where
 os : w'.os = w.os
 tape : w'.tape = w.tape
 output : w'.output = w.output
 size : w.heap.size ≤ w'.heap.size
 block : ∀ k, k < w.heap.size → k ≠ kr → w'.heap[k]? = w.heap[k]?
theorem Ex.refl (kr : Nat) (w : World) : Ex kr w w := ⟨rfl, rfl, rfl, Nat.le_refl _, fun _ _ _ => rfl⟩
theorem Ex.trans {kr : Nat} {a b c : World} (h : Ex kr a b) (k : Ex kr b c) : Ex kr a c :=
 ⟨k.os.trans h.os, k.tape.trans h.tape, k.output.trans h.output, Nat.le_trans h.size k.size, fun i hi hne => (k.block i (Nat.lt_of_lt_of_le hi h.size) hne).trans (h.block i hi hne)⟩
theorem Ex.of_below {kr : Nat} {a b : World} (h : Below a.heap.size a b) : Ex kr a b := ⟨h.os, h.tape, h.output, h.size, fun i hi _ => h.block i hi⟩
theorem Ex.below {kr B : Nat} {a b : World} (h : Ex kr a b) (hB : B ≤ kr) (hz : B ≤ a.heap.size) : Below B a b := ⟨h.os, h.tape, h.output, h.size, fun i hi => h.block i (by omega) (by omega)⟩
theorem Ex.set {kr : Nat} {a b : World} (h : Ex kr a b) (o : Nat) (u : Value) : Ex kr a (b.setCell ⟨kr, o, none⟩ u) :=
 h.trans ⟨rfl, rfl, rfl, by simp [World.setCell], fun i hi hne => Below.heap_setCell _ _ _ _ hne⟩
theorem Ex.drewN {kr : Nat} {a b : World} (h : Ex kr a b) (n : Nat) : Ex kr a (b.drewN n) := ⟨h.os, h.tape, h.output, h.size, h.block⟩
theorem Ex.cell {kr : Nat} {a b : World} (h : Ex kr a b) {p : Addr} (hp : p.block < a.heap.size) (hne : p.block ≠ kr) : b.cell? p = a.cell? p := World.cell?_of_block (w := a) (h.block p.block hp hne)
theorem Ex.frozen {kr : Nat} {a b : World} (h : Ex kr a b) {p : Addr} (hp : p.block < a.heap.size) (hne : p.block ≠ kr) : b.frozen? p = a.frozen? p := World.frozen?_of_block (w := a) (h.block p.block hp hne)
theorem Ex.cells {kr : Nat} : ∀ (vs : List Value) (o : Nat) {a b : World}, Ex kr a b → Ex kr a (b.setCells kr o vs)
 | [], _, _, _, h => h
 | v :: r, o, _, _, h => Ex.cells r (o + 1) (h.set o v)
theorem Ex.mono {kr : Nat} {a b c : World} (h : Below a.heap.size a b) (k : Ex kr b c) (hk : a.heap.size ≤ kr) : Below a.heap.size a c := h.trans (k.below hk h.size)
theorem there_ex {kr : Nat} {x y : World} {k o n : Nat} (h : x.there k o n) (hk : k < x.heap.size) (hE : Ex kr x y) (hne : k ≠ kr) : y.there k o n :=
 fun j hj => ⟨by rw [hE.cell (p := ⟨k, o + j, none⟩) hk hne]; exact (h j hj).1, by rw [hE.frozen (p := ⟨k, o + j, none⟩) hk hne]; exact (h j hj).2⟩
theorem there_keep2 {x y : World} {k o n : Nat} (h : x.there k o n) (hk : k < x.heap.size) (hb : Below x.heap.size x y) : y.there k o n :=
 fun j hj => ⟨by rw [hb.cell (p := ⟨k, o + j, none⟩) hk]; exact (h j hj).1, by rw [hb.frozen (p := ⟨k, o + j, none⟩) hk]; exact (h j hj).2⟩
def Code (w : World) (kr : Nat) (a : Option Addr) (n : Nat) (zs : List Int) : Prop :=
 n ≤ 2000 ∧ (n = 0 ∨ ∃ b off, a = some ⟨b, off, none⟩ ∧ b ≠ kr ∧ b < w.heap.size ∧ ∀ i, i < n → w.cell? ⟨b, off + i, none⟩ = some (.int .u8 (zs.getD i 0)) ∧ 0 ≤ zs.getD i 0 ∧ zs.getD i 0 ≤ 255)
theorem Code.keep {w w' : World} {kr : Nat} {a : Option Addr} {n : Nat} {zs : List Int} (h : Code w kr a n zs) (he : Ex kr w w') : Code w' kr a n zs := by
 obtain ⟨hn, h⟩ := h
 refine ⟨hn, h.imp id ?_⟩
 rintro ⟨b, off, ha, hne, hb, hc⟩
 exact ⟨b, off, ha, hne, Nat.lt_of_lt_of_le hb he.size, fun i hi => ⟨(he.cell (p := ⟨b, off + i, none⟩) hb hne).trans (hc i hi).1, (hc i hi).2⟩⟩
structure Rd (w : World) (kr : Nat) (a : Option Addr) (n cap : Nat) (zs : List Int) (p : Int) : Prop where
 sl : w.cell? ⟨kr, 0, none⟩ = some (.slice a n cap)
 at_ : w.cell? ⟨kr, 1, none⟩ = some (.int .i64 p)
 open_ : w.frozen? ⟨kr, 1, none⟩ = false
 lt : kr < w.heap.size
 code : Code w kr a n zs
 p0 : 0 ≤ p
 p1 : p ≤ 1000000
theorem xor_i64 (a b : Nat) (ha : a < 4611686018427387904) (hb : b < 4611686018427387904) : bits .xor .i64 (a : Int) (b : Int) = ((a ^^^ b : Nat) : Int) := by
 have hx : a ^^^ b < 2 ^ 62 := Nat.xor_lt_two_pow (by omega) (by omega)
 have h1 : (BitVec.ofInt 64 (a : Int)).toNat = a := by
  rw [BitVec.ofInt_natCast, BitVec.toNat_ofNat]; exact Nat.mod_eq_of_lt (by omega)
 have h2 : (BitVec.ofInt 64 (b : Int)).toNat = b := by
  rw [BitVec.ofInt_natCast, BitVec.toNat_ofNat]; exact Nat.mod_eq_of_lt (by omega)
 show IntKind.i64.wrap ((BitVec.ofInt 64 (a : Int) ^^^ BitVec.ofInt 64 (b : Int)).toNat : Int) = _
 rw [BitVec.toNat_xor, h1, h2, IntKind.wrap_i64]
 omega
theorem xor_mix (x : Int) (h0 : 0 ≤ x) (h1 : x < 4611686018427387904) : ∃ y : Int, bits .xor .i64 x (x / 64) = y ∧ 0 ≤ y ∧ y < 4611686018427387904 := by
 obtain ⟨m, rfl⟩ := Int.eq_ofNat_of_zero_le h0
 have hx : m ^^^ (m / 64) < 2 ^ 62 := Nat.xor_lt_two_pow (by omega) (by omega)
 refine ⟨((m ^^^ (m / 64) : Nat) : Int), ?_, by omega, by omega⟩
 have := xor_i64 m (m / 64) (by omega) (by omega)
 simpa using this
set_option maxHeartbeats 1000000 in
theorem pick_any (kr : Nat) (a : Option Addr) (n cap : Nat) (zs : List Int) (p k : Int) (w : World) (h : Rd w kr a n cap zs p) (hp : p < 1000000) (k0 : 1 ≤ k) (k1 : k ≤ 1000000) :
  Calls Tryz.prog 19 #[.pointer (some ⟨kr, 0, none⟩), .int .i64 k] w fun e w' => ∃ (m : Int) (nq : Nat), e = .returned (.int .i64 m) ∧ 0 ≤ m ∧ m < k ∧ w' = (w.setCell ⟨kr, 1, none⟩ (.int .i64 (p + 1))).drewN nq := by
 obtain ⟨c0, c1, c2, hlt, ⟨hn, hc⟩, p0, p1⟩ := h
 rcases Nat.eq_zero_or_pos n with hz | hz
 ·
  subst hz
  clear hc
  go_enter Tryz.func19, Tryz.ntmps19
  go_wp2
  go_ret
  exact ⟨0, 0, rfl, by omega, by omega, rfl⟩
 ·
  obtain ⟨b, off, rfl, hne, hb, hcell⟩ := hc.resolve_left (by omega)
  have hn0 : ((n : Int) == 0) = false := by simp; omega
  by_cases hin : p < (n : Int)
  ·
   obtain ⟨cb, z0, z1⟩ := hcell p.toNat (by omega)
   generalize zs.getD p.toNat 0 = z at cb z0 z1
   clear hcell hc
   have hne' : kr ≠ b := fun e => hne e.symm
   go_enter Tryz.func19, Tryz.ntmps19
   go_wp2
   go_ret
   exact ⟨z % k, 0, rfl, Int.emod_nonneg _ (by omega), Int.emod_lt_of_pos _ (by omega), rfl⟩
  ·
   have r0 : 0 ≤ p % (n : Int) := Int.emod_nonneg _ (by omega)
   have r1 : p % (n : Int) < (n : Int) := Int.emod_lt_of_pos _ (by omega)
   have s0 : 0 ≤ (p * 7 + 3) % (n : Int) := Int.emod_nonneg _ (by omega)
   have s1 : (p * 7 + 3) % (n : Int) < (n : Int) := Int.emod_lt_of_pos _ (by omega)
   have q0 : 0 ≤ p / (n : Int) := Int.ediv_nonneg p0 (by omega)
   have q1 : p / (n : Int) ≤ 1000000 := Int.le_trans (Int.ediv_le_self _ p0) p1
   obtain ⟨cy, y0, y1⟩ := hcell (p % (n : Int)).toNat (by omega)
   obtain ⟨cz, z0, z1⟩ := hcell ((p * 7 + 3) % (n : Int)).toNat (by omega)
   generalize zs.getD (p % (n : Int)).toNat 0 = y at cy y0 y1
   generalize zs.getD ((p * 7 + 3) % (n : Int)).toNat 0 = z at cz z0 z1
   clear hcell hc
   have hne' : kr ≠ b := fun e => hne e.symm
   have hnp : (0 : Int) < (n : Int) := by omega
   obtain ⟨m, hm, m0, m1⟩ := xor_mix (y * 131 + z * 1117 + p * 29 + p / (n : Int) * 53) (by omega) (by omega)
   go_enter Tryz.func19, Tryz.ntmps19
   go_wp2_with fail
   go_quiet (fail)
   go_wp2
   go_ret
   exact ⟨m % k, nq, rfl, Int.emod_nonneg _ (by omega), Int.emod_lt_of_pos _ (by omega), rfl⟩
theorem Rd.step {w : World} {kr : Nat} {a : Option Addr} {n cap : Nat} {zs : List Int} {p : Int} (h : Rd w kr a n cap zs p) (hp : p < 1000000) (nq : Nat) : Rd ((w.setCell ⟨kr, 1, none⟩ (.int .i64 (p + 1))).drewN nq) kr a n cap zs (p + 1) := by
 have he : Ex kr w ((w.setCell ⟨kr, 1, none⟩ (.int .i64 (p + 1))).drewN nq) := ((Ex.refl kr w).set 1 _).drewN nq
 have c0 := h.sl
 have c1 := h.at_
 have c2 := h.open_
 have := h.p0
 exact ⟨by go_simp, by go_simp, by go_simp, Nat.lt_of_lt_of_le h.lt he.size, h.code.keep he, by omega, by omega⟩
theorem pick_rd (kr : Nat) (a : Option Addr) (n cap : Nat) (zs : List Int) (p k : Int) (w : World) (h : Rd w kr a n cap zs p) (hp : p < 1000000) (k0 : 1 ≤ k) (k1 : k ≤ 1000000) :
  Calls Tryz.prog 19 #[.pointer (some ⟨kr, 0, none⟩), .int .i64 k] w fun e w' => ∃ m : Int, e = .returned (.int .i64 m) ∧ 0 ≤ m ∧ m < k ∧ Rd w' kr a n cap zs (p + 1) ∧ Ex kr w w' := by
 refine (pick_any kr a n cap zs p k w h hp k0 k1).mono ?_
 rintro e w' ⟨m, nq, rfl, m0, m1, rfl⟩
 exact ⟨m, rfl, m0, m1, h.step hp nq, ((Ex.refl kr w).set 1 _).drewN nq⟩
def CodeIn (w : World) (a : Option Addr) (n : Nat) (zs : List Int) : Prop :=
 n = 0 ∨ ∃ b off, a = some ⟨b, off, none⟩ ∧ b < w.heap.size ∧ ∀ i, i < n → w.cell? ⟨b, off + i, none⟩ = some (.int .u8 (zs.getD i 0)) ∧ 0 ≤ zs.getD i 0 ∧ zs.getD i 0 ≤ 255
theorem rd_new {w : World} {a : Option Addr} {n cap m : Nat} {zs : List Int} (h : CodeIn w a n zs) (hm : m ≤ n) (hm2 : m ≤ 2000) :
  Rd (w.alloc (.cells #[.slice a m cap, .int .i64 0] 89)) w.heap.size a m cap zs 0 := by
 refine ⟨by simp [go_sem], by simp [go_sem], by simp [go_sem], by simp, ⟨hm2, ?_⟩, by omega, by omega⟩
 rcases h with rfl | ⟨b, off, ha, hb, hc⟩
 ·
  exact Or.inl (by omega)
 ·
  refine Or.inr ⟨b, off, ha, by omega, by simp; omega, fun i hi => ?_⟩
  obtain ⟨h1, h2⟩ := hc i (by omega)
  exact ⟨by rw [World.cell?_alloc_past _ _ _ (by exact hb)]; exact h1, h2⟩
set_option maxHeartbeats 1000000 in
theorem many20 (w : World) : Calls Tryz.prog 59 #[.string ⟨#[110]⟩, .int .i64 20] w fun e w' => ∃ x : ByteArray, e = .returned (.string x) ∧ x.size ≤ maxLen ∧ w' = w := by
 go_enter Tryz.func59, Tryz.ntmps59
 go_wp2
 refine wp_loop_rounds 6 ?_
 rw [rounds_succ]
 go_wp2
 rw [rounds_succ]
 go_wp2
 rw [rounds_succ]
 go_wp2
 rw [rounds_succ]
 go_wp2
 rw [rounds_succ]
 go_wp2
 rw [rounds_succ]
 go_wp2
 go_ret
 exact ⟨_, rfl, by unfold maxLen; decide, rfl⟩
set_option maxHeartbeats 1000000 in
theorem many21 (w : World) : Calls Tryz.prog 59 #[.string ⟨#[110]⟩, .int .i64 21] w fun e w' => ∃ x : ByteArray, e = .returned (.string x) ∧ x.size ≤ maxLen ∧ w' = w := by
 go_enter Tryz.func59, Tryz.ntmps59
 go_wp2
 refine wp_loop_rounds 6 ?_
 rw [rounds_succ]
 go_wp2
 rw [rounds_succ]
 go_wp2
 rw [rounds_succ]
 go_wp2
 rw [rounds_succ]
 go_wp2
 rw [rounds_succ]
 go_wp2
 rw [rounds_succ]
 go_wp2
 go_ret
 exact ⟨_, rfl, by unfold maxLen; decide, rfl⟩
end Go.Proofs.YtgakmkhbnjofhaaGreatDoor
namespace Go.Proofs.YtgakmkhbnjofhaaGreatDoor
open Go.RowKit
section
variable {P : Program} {ops : Array Oper} {Q : Exit → Act → World → Prop} {md : Region.Mode}
def openOf (listed : Array Bool) : Nat := listed.toList.countP (fun b => !b)
theorem openOf_set {listed : Array Bool} {i : Nat} (h : listed.getD i true = false) : openOf (listed.setIfInBounds i true) + 1 = openOf listed := by
 obtain ⟨l⟩ := listed
 simp only [openOf, List.setIfInBounds_toArray]
 have : l[i]? = some false := by
  simp only [Array.getD] at h
  split at h
  ·
   rename_i hlt; simp at h hlt; rw [List.getElem?_eq_getElem hlt, h]
  ·
   cases h
 clear h
 induction l generalizing i with
 | nil => simp at this
 | cons x l ih =>
  cases i with
  | zero => simp at this; subst this; simp
  | succ i =>
   simp at this
   have := ih this
   simp only [List.set_cons_succ, List.countP_cons]
   omega
theorem ready_open {listed : Array Bool} {i : Nat} (h : i ∈ Region.ready md ops listed) : listed.getD i true = false := by
 simp only [Region.ready, List.mem_filter, Bool.and_eq_true, Bool.not_eq_true'] at h
 exact h.2.1
theorem openOf_pos {listed : Array Bool} {i : Nat} (h : listed.getD i true = false) : 0 < openOf listed := by
 have := openOf_set h; omega
theorem wpAny_inv (I : Array Bool → Act → World → Prop)
  (step : ∀ listed a w i, I listed a w → i ∈ Region.ready md ops listed → wpOp P ops Q i (I (listed.setIfInBounds i true)) a w)
  (done : ∀ listed a w, I listed a w → Region.ready md ops listed = [] → Q .normal a w) :
  ∀ fuel listed a w, openOf listed ≤ fuel → I listed a w → wpAny P md ops Q fuel listed a w := by
 intro fuel
 induction fuel with
 | zero =>
  intro listed a w hf hI
  have hr : Region.ready md ops listed = [] := by
   cases h : Region.ready md ops listed with
   | nil => rfl
   | cons i rs =>
    have hi : i ∈ Region.ready md ops listed := by rw [h]; exact List.mem_cons_self ..
    have := openOf_pos (ready_open hi)
    omega
  exact ⟨hr, done _ _ _ hI hr⟩
 | succ fuel ih =>
  intro listed a w hf hI
  refine ⟨done _ _ _ hI, fun i hi => wpOp_mono (fun a' w' h => ih _ a' w' ?_ h) (step _ _ _ i hI hi)⟩
  have := openOf_set (ready_open hi)
  omega
def depsOk (ops : Array Oper) : Bool := (List.range ops.size).all fun i => match ops[i]? with | some o => o.after.toList.all (fun e => decide (e.on < i)) | none => true
theorem all_listed {listed : Array Bool} (hd : depsOk ops = true) (hr : Region.ready md ops listed = []) (hz : listed.size = ops.size) : ∀ i, i < ops.size → listed.getD i false = true := by
 intro i
 induction i using Nat.strongRecOn with
 | ind i ih =>
  intro hi
  have hl : listed.getD i false = listed[i]'(by omega) := by simp [Array.getD, show i < listed.size from by omega]
  have hl' : listed.getD i true = listed[i]'(by omega) := by simp [Array.getD, show i < listed.size from by omega]
  cases hb : listed[i]'(by omega) with
  | true => rw [hl, hb]
  | false =>
   exfalso
   have hmem : i ∈ Region.ready md ops listed := by
    simp only [Region.ready, List.mem_filter, List.mem_range, hi, true_and, hl', hb, Bool.not_false, Bool.true_and]
    have ho : ops[i]? = some ops[i] := Array.getElem?_eq_getElem hi
    rw [ho]
    simp only [Option.map_some, Option.getD_some]
    have h1 := List.all_eq_true.1 hd i (List.mem_range.2 hi)
    rw [ho] at h1
    simp only at h1
    rw [← Array.all_toList]
    refine List.all_eq_true.2 fun e he => ?_
    have h2 := of_decide_eq_true (List.all_eq_true.1 h1 e he)
    rw [ih e.on h2 (by omega)]
    simp
   rw [hr] at hmem
   cases hmem
theorem dep_listed {listed : Array Bool} {i j : Nat} {o : Oper} (hi : i ∈ Region.ready md ops listed) (ho : ops[i]? = some o) (he : o.after.toList.any (fun e => Region.binds md e && e.on == j) = true) : listed.getD j false = true := by
 have h := (List.mem_filter.1 hi).2
 rw [ho] at h
 simp only [Option.map_some, Option.getD_some, Bool.and_eq_true] at h
 obtain ⟨e, hm, hb⟩ := List.any_eq_true.1 he
 simp only [Bool.and_eq_true, beq_iff_eq] at hb
 have h2 := h.2
 rw [← Array.all_toList] at h2
 have h3 := List.all_eq_true.1 h2 e hm
 rw [hb.1, hb.2] at h3
 simpa using h3
end
theorem wpOp_plain {P : Program} {ops : Array Oper} {Q : Exit → Act → World → Prop} {i : Nat} {o : Oper} {K : Act → World → Prop} {a : Act} {w : World} (ho : ops[i]? = some o) (hg : o.guard = none) (h : o.wp P a w K Q) : wpOp P ops Q i K a w := by
 unfold wpOp
 simp only [ho]
 have hw : Region.wanted o (yielded ops a.tmps) = true := by simp [Region.wanted, hg]
 rw [if_pos hw]
 exact Or.inl h
theorem ev_tmp {a : Act} {k : Nat} {v : Value} (h : a.tmps.getD k undef = v) : a.tmps[k]?.getD undef = v := by rwa [Array.getD_eq_getD_getElem?] at h
def Lst (P : Value → Prop) (B rb m : Nat) (w : World) (v : Value) : Prop := ∃ g, v = .slice (some ⟨g, 0, none⟩) m m ∧ B ≤ g ∧ g ≠ rb ∧ g < w.heap.size ∧ ∀ j, j < m → ∃ u, w.cell? ⟨g, j, none⟩ = some u ∧ P u
def Cell (P : Value → Prop) (B rb : Nat) (w : World) (v : Value) : Prop := ∃ g j u, v = .pointer (some ⟨g, j, none⟩) ∧ B ≤ g ∧ g ≠ rb ∧ g < w.heap.size ∧ w.cell? ⟨g, j, none⟩ = some u ∧ P u
def Num (lo hi : Int) (v : Value) : Prop := ∃ x, v = .int .i64 x ∧ lo ≤ x ∧ x ≤ hi
def Txt (v : Value) : Prop := ∃ s : ByteArray, v = .string s ∧ s.size ≤ 20
theorem Lst.keep {P : Value → Prop} {B rb m kr : Nat} {w w' : World} {v : Value} (h : Lst P B rb m w v) (he : Ex kr w w') (hk : kr < B) : Lst P B rb m w' v := by
 obtain ⟨g, rfl, h1, h2, h3, h4⟩ := h
 exact ⟨g, rfl, h1, h2, Nat.lt_of_lt_of_le h3 he.size, fun j hj => by rw [he.cell (p := ⟨g, j, none⟩) h3 (by show g ≠ kr; omega)]; exact h4 j hj⟩
theorem Cell.keep {P : Value → Prop} {B rb kr : Nat} {w w' : World} {v : Value} (h : Cell P B rb w v) (he : Ex kr w w') (hk : kr < B) : Cell P B rb w' v := by
 obtain ⟨g, j, u, rfl, h1, h2, h3, h4, h5⟩ := h
 exact ⟨g, j, u, rfl, h1, h2, Nat.lt_of_lt_of_le h3 he.size, by rw [he.cell (p := ⟨g, j, none⟩) h3 (by show g ≠ kr; omega)]; exact h4, h5⟩
theorem Rd.below {w w' : World} {kr : Nat} {a : Option Addr} {n cap : Nat} {zs : List Int} {p : Int} (h : Rd w kr a n cap zs p) (hb : Below w.heap.size w w') : Rd w' kr a n cap zs p :=
 ⟨(hb.cell (p := ⟨kr, 0, none⟩) h.lt).trans h.sl, (hb.cell (p := ⟨kr, 1, none⟩) h.lt).trans h.at_, (hb.frozen (p := ⟨kr, 1, none⟩) h.lt).trans h.open_, Nat.lt_of_lt_of_le h.lt hb.size, h.code.keep (Ex.of_below hb), h.p0, h.p1⟩
theorem Rd.other {W w w' : World} {kr rb : Nat} {a : Option Addr} {n cap : Nat} {zs : List Int} {p q : Int} (h0 : Rd W kr a n cap zs q) (h : Rd w kr a n cap zs p) (he : Ex rb w w') (hk : kr ≠ rb) (hW : Ex kr W w') : Rd w' kr a n cap zs p :=
 ⟨(he.cell (p := ⟨kr, 0, none⟩) h.lt hk).trans h.sl, (he.cell (p := ⟨kr, 1, none⟩) h.lt hk).trans h.at_, (he.frozen (p := ⟨kr, 1, none⟩) h.lt hk).trans h.open_, Nat.lt_of_lt_of_le h.lt he.size, h0.code.keep hW, h.p0, h.p1⟩
theorem Ex.other {kr rb : Nat} {W w w' : World} (h : Ex kr W w) (he : Ex rb w w') (hrb : W.heap.size ≤ rb) : Ex kr W w' :=
 ⟨he.os.trans h.os, he.tape.trans h.tape, he.output.trans h.output, Nat.le_trans h.size he.size, fun k hk hne => (he.block k (Nat.lt_of_lt_of_le hk h.size) (by omega)).trans (h.block k hk hne)⟩
theorem Lst.res {P : Value → Prop} {B rb m : Nat} {w w' : World} {v : Value} (h : Lst P B rb m w v) (he : Ex rb w w') : Lst P B rb m w' v := by
 obtain ⟨g, rfl, h1, h2, h3, h4⟩ := h
 exact ⟨g, rfl, h1, h2, Nat.lt_of_lt_of_le h3 he.size, fun j hj => by rw [he.cell (p := ⟨g, j, none⟩) h3 h2]; exact h4 j hj⟩
theorem Cell.res {P : Value → Prop} {B rb : Nat} {w w' : World} {v : Value} (h : Cell P B rb w v) (he : Ex rb w w') : Cell P B rb w' v := by
 obtain ⟨g, j, u, rfl, h1, h2, h3, h4, h5⟩ := h
 exact ⟨g, j, u, rfl, h1, h2, Nat.lt_of_lt_of_le h3 he.size, by rw [he.cell (p := ⟨g, j, none⟩) h3 h2]; exact h4, h5⟩
section
variable (kr rb : Nat) (W : World) (c : ByteArray) (a0 : Option Addr) (n cap : Nat) (zs : List Int) (p0 : Int)
def Good (w : World) (i : Nat) (v : Value) : Prop :=
 match i with
 | 0 => v = .string c
 | 1 | 5 | 9 | 11 | 14 | 18 => v = .pointer (some ⟨kr, 0, none⟩)
 | 2 | 12 => Num 0 2 v
 | 3 => Num 1 3 v
 | 6 | 10 | 19 => Num 0 3 v
 | 15 => Num 0 5 v
 | 4 => Lst Txt W.heap.size rb 4 w v
 | 7 => Cell Txt W.heap.size rb w v
 | 8 => Txt v
 | 13 => Lst (Num 0 8) W.heap.size rb 6 w v
 | 16 => Cell (Num 0 8) W.heap.size rb w v
 | 17 => Num 0 8 v
 | 20 => ∃ (h : ByteArray) (v1 p s d g : Int), v = .agg #[.string c, .int .i64 v1, .string h, .int .i64 p, .int .i64 s, .int .i64 d, .int .i64 g] ∧ h.size ≤ 20 ∧ (0 ≤ v1 ∧ v1 ≤ 100) ∧ (0 ≤ p ∧ p ≤ 100) ∧ (0 ≤ s ∧ s ≤ 100) ∧ (0 ≤ d ∧ d ≤ 100) ∧ (0 ≤ g ∧ g ≤ 100)
 | _ => True
theorem Good.keep {w w' : World} {i : Nat} {v : Value} (h : Good kr rb W c w i v) (he : Ex kr w w') (hk : kr < W.heap.size) : Good kr rb W c w' i v := by
 by_cases e4 : i = 4
 ·
  subst e4; exact Lst.keep (P := Txt) h he hk
 by_cases e7 : i = 7
 ·
  subst e7; exact Cell.keep (P := Txt) h he hk
 by_cases e13 : i = 13
 ·
  subst e13; exact Lst.keep (P := Num 0 8) h he hk
 by_cases e16 : i = 16
 ·
  subst e16; exact Cell.keep (P := Num 0 8) h he hk
 have e : Good kr rb W c w i v = Good kr rb W c w' i v := by
  unfold Good
  split <;> first | rfl | (exfalso; omega)
 rw [← e]; exact h
theorem Good.res {w w' : World} {i : Nat} {v : Value} (h : Good kr rb W c w i v) (he : Ex rb w w') : Good kr rb W c w' i v := by
 by_cases e4 : i = 4
 ·
  subst e4; exact Lst.res (P := Txt) h he
 by_cases e7 : i = 7
 ·
  subst e7; exact Cell.res (P := Txt) h he
 by_cases e13 : i = 13
 ·
  subst e13; exact Lst.res (P := Num 0 8) h he
 by_cases e16 : i = 16
 ·
  subst e16; exact Cell.res (P := Num 0 8) h he
 have e : Good kr rb W c w i v = Good kr rb W c w' i v := by
  unfold Good
  split <;> first | rfl | (exfalso; omega)
 rw [← e]; exact h
structure Wd (left : Nat) (w : World) : Prop where
 rd : ∃ p, Rd w kr a0 n cap zs p ∧ p + (left : Int) ≤ p0 + 22
 ex : Ex kr W w
 lt : rb < w.heap.size
 th : w.there rb 0 7
def Fin (w : World) : Prop := ∃ (h : ByteArray) (v1 p s d g : Int), w.rangeAt rb 0 [.string c, .int .i64 v1, .string h, .int .i64 p, .int .i64 s, .int .i64 d, .int .i64 g] ∧ h.size ≤ 20 ∧ (0 ≤ v1 ∧ v1 ≤ 100) ∧ (0 ≤ p ∧ p ≤ 100) ∧ (0 ≤ s ∧ s ≤ 100) ∧ (0 ≤ d ∧ d ≤ 100) ∧ (0 ≤ g ∧ g ≤ 100)
structure Iw (listed : Array Bool) (a : Act) (w : World) : Prop where
 df : a.defers = []
 sz : a.tmps.size = 26
 s0 : a.tmps.getD 0 undef = .pointer (some ⟨kr, 0, none⟩)
 s1 : a.tmps.getD 1 undef = .string c
 s4 : a.tmps.getD 4 undef = .pointer (some ⟨rb, 0, none⟩)
 good : ∀ i, i < 21 → listed.getD i false = true → Good kr rb W c w i (a.tmps.getD (5 + i) undef)
 wd : Wd kr rb W a0 n cap zs p0 (openOf listed) w
 lz : listed.size = 22
 fin : listed.getD 21 false = true → Fin rb c w
theorem Iw.put {listed : Array Bool} {a : Act} {w w' : World} {i : Nat} {v : Value} (h : Iw kr rb W c a0 n cap zs p0 listed a w) (hi : i < 21) (ho : listed.getD i true = false) (hk : kr < W.heap.size) (hkr : kr ≠ rb)
  (hg : Good kr rb W c w' i v) (he : Ex kr w w') (hr : ∃ p, Rd w' kr a0 n cap zs p ∧ p + (openOf (listed.setIfInBounds i true) : Int) ≤ p0 + 22) :
  Iw kr rb W c a0 n cap zs p0 (listed.setIfInBounds i true) (a.put (some (5 + i)) v) w' := by
 have hsz : i < a.tmps.size := by rw [h.sz]; omega
 refine ⟨h.df, ?_, ?_, ?_, ?_, ?_, ⟨hr, h.wd.ex.trans he, Nat.lt_of_lt_of_le h.wd.lt he.size, there_ex h.wd.th h.wd.lt he (fun e => hkr e.symm)⟩, by simp [h.lz], ?_⟩
 ·
  simp [Act.put, h.sz]
 ·
  have := h.s0; simp only [Act.put, Array.getD_eq_getD_getElem?] at this ⊢; rw [Array.getElem?_setIfInBounds_ne (by omega)]; exact this
 ·
  have := h.s1; simp only [Act.put, Array.getD_eq_getD_getElem?] at this ⊢; rw [Array.getElem?_setIfInBounds_ne (by omega)]; exact this
 ·
  have := h.s4; simp only [Act.put, Array.getD_eq_getD_getElem?] at this ⊢; rw [Array.getElem?_setIfInBounds_ne (by omega)]; exact this
 ·
  intro j hj hl
  by_cases e : j = i
  ·
   subst e
   simp only [Act.put, Array.getD_eq_getD_getElem?]
   rw [Array.getElem?_setIfInBounds_self_of_lt (by rw [h.sz]; omega)]
   exact hg
  ·
   have h1 := h.good j hj (by
    simp only [Array.getD_eq_getD_getElem?] at hl ⊢
    rwa [Array.getElem?_setIfInBounds_ne (fun x => e x.symm)] at hl)
   have h2 := h1.keep kr rb W c he hk
   simp only [Act.put, Array.getD_eq_getD_getElem?] at h2 ⊢
   rw [Array.getElem?_setIfInBounds_ne (by omega)]
   exact h2
 ·
  intro hl
  have h1 := h.fin (by
   simp only [Array.getD_eq_getD_getElem?] at hl ⊢
   rwa [Array.getElem?_setIfInBounds_ne (by omega)] at hl)
  obtain ⟨hh, v1, p, s, d, g, hr, hb⟩ := h1
  exact ⟨hh, v1, p, s, d, g, fun j u hj => (he.cell (p := ⟨rb, 0 + j, none⟩) h.wd.lt (fun e => hkr e.symm)).trans (hr j u hj), hb⟩
theorem Iw.last {listed : Array Bool} {a : Act} {w : World} {u : Value} {vs : List Value} {q : Int} (h : Iw kr rb W c a0 n cap zs p0 listed a w) (ho : listed.getD 21 true = false) (hrb : W.heap.size ≤ rb) (hkr : kr ≠ rb) (h0 : Rd W kr a0 n cap zs q)
  (hf : Fin rb c (w.setCells rb 0 vs)) : Iw kr rb W c a0 n cap zs p0 (listed.setIfInBounds 21 true) (a.put none u) (w.setCells rb 0 vs) := by
 have he : Ex rb w (w.setCells rb 0 vs) := (Ex.refl rb w).cells vs 0
 have hW : Ex kr W (w.setCells rb 0 vs) := h.wd.ex.other he hrb
 obtain ⟨p, hr, hp⟩ := h.wd.rd
 have hop := openOf_set ho
 refine ⟨h.df, h.sz, h.s0, h.s1, h.s4, fun i hi hl => ?_, ⟨⟨p, h0.other hr he hkr hW, by omega⟩, hW, Nat.lt_of_lt_of_le h.wd.lt he.size, World.there_setCells h.wd.th _ _ _⟩, by simp [h.lz], fun _ => hf⟩
 refine Good.res kr rb W c (h.good i hi ?_) he
 simp only [Array.getD_eq_getD_getElem?] at hl ⊢
 rwa [Array.getElem?_setIfInBounds_ne (by omega)] at hl
end
end Go.Proofs.YtgakmkhbnjofhaaGreatDoor
