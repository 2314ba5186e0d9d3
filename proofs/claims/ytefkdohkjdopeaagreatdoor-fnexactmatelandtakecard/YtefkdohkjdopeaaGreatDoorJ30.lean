import Derived.Test.YtefkdohkjdopeaaGreatDoorJ29
import Derived.Test.YtefkdohkjdopeaaGreatDoorJ19
import Derived.Laws.AppendOwnNone
import Derived.Test.YtefkdohkjdopeaaGreatDoorJ28
import Derived.Test.YtefkdohkjdopeaaGreatDoorJ21
import Derived.Test.YtefkdohkjdopeaaGreatDoorJ09
namespace Go.Proofs.YtefkdohkjdopeaaGreatDoor
open Go.RowKit Go.Maps Go.WideMaps
set_option linter.unusedVariables false
theorem addr_add (g o n : Nat) : (⟨g, o, none⟩ : Addr).add n = ⟨g, o + n, none⟩ := by
 unfold Addr.add
 split
 ·
  subst_vars; rfl
 ·
  rfl
def RstG (w : World) (v : Value) (l : List G.GrantD) : Prop := ∃ a c, v = .slice a l.length c ∧ ((a = none ∧ c = 0 ∧ l = []) ∨ ∃ g o : Nat, a = some ⟨g, o, none⟩ ∧ g < w.heap.size ∧ ∀ j u, (G.flatR l)[j]? = some u → w.cell? ⟨g, o + j, none⟩ = some u)
theorem RstG.keep {w w' : World} {v : Value} {l : List G.GrantD} (h : RstG w v l) (hb : Below w.heap.size w w') : RstG w' v l := by
 obtain ⟨a, c, h1, h⟩ := h
 refine ⟨a, c, h1, ?_⟩
 rcases h with h | ⟨g, o, h2, h3, h4⟩
 ·
  exact Or.inl h
 ·
  exact Or.inr ⟨g, o, h2, Nat.lt_of_lt_of_le h3 hb.size, fun j u hj => (hb.cell (p := ⟨g, o + j, none⟩) h3).trans (h4 j u hj)⟩
theorem flat_cellsH {w : World} {g : Nat} {l : List G.GrantD} (h : G.RowsAt w g 0 l) : ∀ j u, (G.flatR l)[j]? = some u → w.cell? ⟨g, j, none⟩ = some u := by
 intro j u hj
 have hlt : j < l.length * 5 := by
  rw [← G.flatR_len]
  exact (List.getElem?_eq_some_iff.1 hj).1
 have hk : j / 5 < l.length := by omega
 have h1 := G.flatR_at l (j / 5) l[j / 5] (List.getElem?_eq_getElem hk) (j % 5) (by omega)
 rw [show j / 5 * 5 + j % 5 = j from by omega, hj] at h1
 have h2 := h (j / 5) l[j / 5] (List.getElem?_eq_getElem hk) (j % 5) u h1.symm
 rw [show 0 + j / 5 * 5 + j % 5 = j from by omega] at h2
 exact h2
theorem flat_dropG (l : List G.GrantD) (k j : Nat) : (G.flatR (l.drop k))[j]? = (G.flatR l)[k * 5 + j]? := by
 induction l generalizing k with
 | nil => simp [G.flatR]
 | cons r l ih =>
  cases k with
  | zero => simp
  | succ k =>
   rw [List.drop_succ_cons, ih k]
   show _ = (r.cells ++ G.flatR l)[_]?
   rw [List.getElem?_append_right (by show 5 ≤ _; omega)]
   show _ = (G.flatR l)[(k + 1) * 5 + j - 5]?
   rw [show (k + 1) * 5 + j - 5 = k * 5 + j from by omega]
theorem flat_appG (l m : List G.GrantD) : G.flatR (l ++ m) = G.flatR l ++ G.flatR m := by simp [G.flatR]
theorem flat_takeG (l : List G.GrantD) (k j : Nat) (u : Value) (h : (G.flatR (l.take k))[j]? = some u) : (G.flatR l)[j]? = some u := by
 have e : G.flatR l = G.flatR (l.take k) ++ G.flatR (l.drop k) := by
  rw [← flat_appG, List.take_append_drop]
 rw [e, List.getElem?_append_left (List.getElem?_eq_some_iff.1 h).1]
 exact h
theorem rstg_from {w : World} {a : Option Addr} {n p B k : Nat} {l : List G.GrantD} (h : G.Sl w (.slice a n p) l B) (hn : l.length = n) (hp : n ≤ p) (hk : k ≤ n) : RstG w (sliced a k n p 5) (l.drop k) := by
 rcases h with ⟨h1, rfl⟩ | ⟨g, cap, h1, h2, h3, h4, h5⟩
 ·
  injection h1 with e1 e2 e3
  subst e1 e2 e3
  refine ⟨none, 0, ?_, Or.inl ⟨rfl, rfl, by simp⟩⟩
  unfold sliced
  simp
 ·
  injection h1 with e1 e2 e3
  subst e1 e3
  unfold sliced
  by_cases e : p = k
  ·
   have e0 : l.drop k = [] := List.drop_of_length_le (by omega)
   rw [if_pos e, e0]
   exact ⟨_, p - k, by rw [show n - k = 0 from by omega]; rfl, Or.inr ⟨g, 0, rfl, h3, fun j u hj => by simp [G.flatR] at hj⟩⟩
  ·
   rw [if_neg e, Option.map_some, addr_add]
   refine ⟨_, p - k, by rw [List.length_drop, hn], Or.inr ⟨g, 0 + k * 5, rfl, h3, fun j u hj => ?_⟩⟩
   rw [flat_dropG] at hj
   have := flat_cellsH h4 _ u hj
   rw [Nat.zero_add]
   exact this
theorem rstg_to {w : World} {a : Option Addr} {n p B k : Nat} {l : List G.GrantD} (h : G.Sl w (.slice a n p) l B) (hn : l.length = n) (hp : n ≤ p) (hk : k ≤ n) : RstG w (sliced a 0 k p 5) (l.take k) := by
 rcases h with ⟨h1, rfl⟩ | ⟨g, cap, h1, h2, h3, h4, h5⟩
 ·
  injection h1 with e1 e2 e3
  subst e1 e2 e3
  have : k = 0 := by simpa using hk
  subst this
  exact ⟨none, 0, rfl, Or.inl ⟨rfl, rfl, rfl⟩⟩
 ·
  injection h1 with e1 e2 e3
  subst e1 e3
  have ea : (if p = 0 then some (⟨g, 0, none⟩ : Addr) else Option.map (·.add (0 * 5)) (some (⟨g, 0, none⟩ : Addr))) = some (⟨g, 0, none⟩ : Addr) := by
   split <;> rfl
  unfold sliced
  rw [ea]
  exact ⟨_, p - 0, by rw [List.length_take, hn, Nat.min_eq_left hk]; rfl, Or.inr ⟨g, 0, rfl, h3, fun j u hj => by rw [Nat.zero_add]; exact flat_cellsH h4 j u (flat_takeG l k j u hj)⟩⟩
theorem run_fromG (a : Option Addr) (n p k : Nat) (hk : k ≤ n) (wx : World) : Sem.run Tryz.prog (Instr.slice 31 (.slice a n p) (some (.int .i64 (k : Int))) none none) wx = .ok (sliced a k n p 5) wx := by
 have hu : Tryz.prog.underlying 31 = some (.slice (Tryz.prog.elem 31)) := by kernel_rfl
 have hz : (sizeOf (Tryz.prog.elem 31)).run Tryz.prog wx = .ok 5 wx := by kernel_rfl
 rw [run_slice_l wx 31 a n p hu .i64 (k : Int) (by omega) (by omega), hz]
 rfl
theorem run_toG (a : Option Addr) (n p k : Nat) (hk : k ≤ p) (wx : World) : Sem.run Tryz.prog (Instr.slice 31 (.slice a n p) none (some (.int .i64 (k : Int))) none) wx = .ok (sliced a 0 k p 5) wx := by
 have hu : Tryz.prog.underlying 31 = some (.slice (Tryz.prog.elem 31)) := by kernel_rfl
 have hz : (sizeOf (Tryz.prog.elem 31)).run Tryz.prog wx = .ok 5 wx := by kernel_rfl
 rw [run_slice_h wx 31 a n p hu .i64 (k : Int) (by omega) (by omega), hz]
 rfl
theorem appRstG {o : Oper} {a : Act} {Y : World} {K : Act → World → Prop} {Q : Exit → Act → World → Prop} (B : Nat) (s x : Operand)
  (ho : o.op = .call { callee := .builtin .append, args := #[s, x], argTypes := #[31, 31] }) (l m : List G.GrantD) (v vx : Value)
  (hs : a.eval s = v) (hown : OG B l Y v) (hB : B ≤ Y.heap.size) (hx : a.eval x = vx) (hr : RstG Y vx m) (hl : l.length + m.length ≤ 1048576)
  (h : ∀ (s' : Value) (w' : World), OG B (l ++ m) w' s' → Y.grownBy w' v.ownBlock → (s'.ownBlock = v.ownBlock ∨ s'.ownBlock = some Y.heap.size) → K (a.put o.dst s') w') : o.wp Tryz.prog a Y K Q := by
 obtain ⟨i0, hi, hz0, hz1, hz2⟩ := info_parts G.infoR
 obtain ⟨ax, c, rfl, hr⟩ := hr
 rcases hr with ⟨rfl, rfl, rfl⟩ | ⟨g, off, rfl, hg, hc⟩
 ·
  have hrun := run_append_owned_none (P := Tryz.prog) (w := Y) B 31 o.type 61 i0 5 Tryz.underlying31 hi v l.length _ hown
  have hx' : a.eval x = .slice none 0 0 := hx
  unfold Oper.wp
  simp [execOp, ho, resolve, invoke, builtin, hs, hx', hrun, Result.andThen]
  exact h v Y (by simpa using hown) ⟨rfl, rfl, rfl, Nat.le_refl _, fun _ _ _ => rfl⟩ (Or.inl rfl)
 ·
  refine wp_append_own_atP s x 31 ho B 61 i0 _ 5 64 Tryz.underlying31 hi hz0 hz1 hz2 rfl (by decide) v l.length _ hs hown ⟨g, off, none⟩ m.length c (G.flatR m) hx (G.flatR_len _) (fun j u hj => by rw [addr_add]; exact hc j u hj) (G.flatR_one _) (by unfold maxLen; omega) (by omega) hB ?_
  intro s' w' ho' hg' hat
  refine h s' w' ?_ hg' hat
  unfold OG
  rw [List.length_append, flat_appG]
  exact ho'
theorem copyRstG {o : Oper} {a : Act} {Y : World} {K : Act → World → Prop} {Q : Exit → Act → World → Prop} (B : Nat) (s x : Operand)
  (ho : o.op = .call { callee := .builtin .append, args := #[s, x], argTypes := #[31, 31] }) (m : List G.GrantD) (g0 : Nat) (vx : Value)
  (hs : a.eval s = .slice (some ⟨g0, 0, none⟩) 0 0) (hown : OG B [] Y (.slice (some ⟨g0, 0, none⟩) 0 0)) (hB : B ≤ Y.heap.size) (hx : a.eval x = vx) (hr : RstG Y vx m) (hl : m.length ≤ 1048576)
  (h : ∀ (s' : Value) (w' : World), OG B m w' s' → Below Y.heap.size Y w' → K (a.put o.dst s') w') : o.wp Tryz.prog a Y K Q := by
 obtain ⟨i0, hi, hz0, hz1, hz2⟩ := info_parts G.infoR
 obtain ⟨ax, c, rfl, hr⟩ := hr
 rcases hr with ⟨rfl, rfl, rfl⟩ | ⟨g, off, rfl, hg, hc⟩
 ·
  have hrun := run_append_owned_none (P := Tryz.prog) (w := Y) B 31 o.type 61 i0 5 Tryz.underlying31 hi _ 0 _ hown
  have hx' : a.eval x = .slice none 0 0 := hx
  unfold Oper.wp
  simp [execOp, ho, resolve, invoke, builtin, hs, hx', hrun, Result.andThen]
  exact h _ Y hown (Below.refl _ _)
 ·
  by_cases hm : m.length = 0
  ·
   have hn : m = [] := List.eq_nil_of_length_eq_zero hm
   subst hn
   have hrr := run_append_room_cells (P := Tryz.prog) Y 31 o.type 61 i0 Tryz.underlying31 hi g0 0 0 0 ⟨g, off, none⟩ 0 c [] (by simp) (fun j u hj => by simp at hj) (fun u hu => by cases hu) (Nat.le_refl _) (fun j hj => by simp at hj) (fun j hj => by simp at hj)
   have hx' : a.eval x = .slice (some ⟨g, off, none⟩) 0 c := hx
   unfold Oper.wp execOp
   simp only [ho, resolve, invoke, builtin, Sem.run_bind, Sem.run_pure, Result.andThen_ok, List.map_toArray, List.map_cons, List.map_nil, hs, hx', hrr]
   exact h _ _ hown (Below.refl _ _)
  ·
   obtain ⟨v', w', hrr, h2, h3⟩ := run_append_arg_grows (P := Tryz.prog) Y 31 o.type 61 i0 _ 5 64 Tryz.underlying31 hi hz0 hz1 hz2 rfl (by decide) ⟨g0, 0, none⟩ 0 0 [] (by simp) (fun j u hj => by simp at hj) ⟨g, off, none⟩ m.length c (G.flatR m) (G.flatR_len _) (fun j u hj => by rw [addr_add]; exact hc j u hj) (by omega) (by unfold maxLen; omega) (by omega)
   unfold Oper.wp execOp
   simp only [ho, resolve, invoke, builtin, Sem.run_bind, Sem.run_pure, Result.andThen_ok, List.map_toArray, List.map_cons, List.map_nil, hs, hx, hrr]
   exact h v' w' (owns_low (by simpa [OG] using h2) hB) (Below.grown (Below.refl _ _) h3 (Nat.le_refl _) (fun j hj => by cases hj))
def arrG (g : G.GrantD) : Array Value := #[.string g.h, .string g.b, .string g.c, .int .i64 g.t, .int .i64 g.u]
theorem bld1G (g : G.GrantD) (w : World) : Sem.run Tryz.prog (Instr.buildSlice 31 1 #[(0, .agg #[.string g.h, .string g.b, .string g.c, .int .i64 g.t, .int .i64 g.u])]) w = .ok (.slice (some ⟨w.heap.size, 0, none⟩) 1 1) (w.alloc (.cells (arrG g) 61)) := by kernel_rfl
theorem rstg_one {w : World} {g : Nat} {r : G.GrantD} (h : w.heap[g]? = some (.cells (arrG r) 61 (0, 0))) : RstG w (.slice (some ⟨g, 0, none⟩) 1 1) [r] := by
 refine ⟨_, 1, rfl, Or.inr ⟨g, 0, rfl, (Array.getElem?_eq_some_iff.1 h).1, fun j u hj => ?_⟩⟩
 have := blk_cells h j u (by simpa [G.flatR, arrG, G.GrantD.cells] using hj)
 rw [addr_add] at this
 exact this
end Go.Proofs.YtefkdohkjdopeaaGreatDoor
namespace Go.Proofs.YtefkdohkjdopeaaGreatDoor
open Go.RowKit Go.Maps Go.WideMaps
set_option linter.unusedVariables false
theorem Ord.out_cut {α : Type} (key : α → List UInt8) : ∀ (l : List α) (k : Nat) (r : α), Ord.Srt key l → l[k]? = some r → l.take k ++ l.drop (k + 1) = Ord.out key (key r) l
 | [], k, r, _, h => by simp at h
 | x :: l, k, r, hs, h => by
  have hs' : Ord.Srt key l := (List.pairwise_cons.1 hs).2
  have hx := (List.pairwise_cons.1 hs).1
  cases k with
  | zero =>
   have e : x = r := by simpa using h
   subst e
   unfold Ord.out
   rw [List.take_zero, List.nil_append, List.drop_succ_cons, List.drop_zero, List.filter_cons_of_neg (by simp)]
   refine (List.filter_eq_self.2 fun y hy => ?_).symm
   simpa using (Ord.before_ne (hx y hy)).symm
  | succ k =>
   have h' : l[k]? = some r := by simpa using h
   have ih := Ord.out_cut key l k r hs' h'
   have hne := Ord.before_ne (hx r (List.mem_of_getElem? h'))
   unfold Ord.out at ih ⊢
   rw [List.take_succ_cons, List.drop_succ_cons, List.cons_append, ih, List.filter_cons_of_pos (by simpa using hne)]
theorem Ord.insS_out {α : Type} (key : α → List UInt8) (r : α) {l : List α} (hs : Ord.Srt key l) : Ord.insS key r (Ord.out key (key r) l) = Ord.insS key r l := by
 have hs' : Ord.Srt key (Ord.out key (key r) l) := List.Pairwise.filter _ hs
 rw [← Ord.ins_insS key r _ hs', ← Ord.ins_insS key r l hs]
 unfold Ord.ins Ord.out
 rw [List.filter_filter]
 simp
def baseG (t : Int) (h : ByteArray) (gs : List G.GrantD) : List G.GrantD := if hasG h gs = true then Ord.out G.keyV h.data.toList gs else leftG t h gs
theorem base_has {t : Int} {h : ByteArray} {gs : List G.GrantD} (hh : hasG h gs = true) : leftG t h gs = gs := by
 unfold leftG roomG
 rw [hh]; rfl
theorem base_ins {t : Int} {p : TakeP} {gs : List G.GrantD} (hs : G.Srt gs) : Ord.insS G.keyV (newG t p) (baseG t p.h gs) = Ord.insS G.keyV (newG t p) (leftG t p.h gs) := by
 unfold baseG
 split
 ·
  rename_i hh
  rw [base_has hh]
  exact Ord.insS_out G.keyV (newG t p) hs
 ·
  rfl
theorem out_len {h : ByteArray} {gs : List G.GrantD} (hh : hasG h gs = true) : (Ord.out G.keyV h.data.toList gs).length < gs.length := by
 obtain ⟨r, hr, he⟩ := List.any_eq_true.1 hh
 unfold Ord.out
 have h1 := List.length_filter_le (fun y => !(G.keyV y == h.data.toList)) gs
 rcases Nat.lt_or_ge (gs.filter (fun y => !(G.keyV y == h.data.toList))).length gs.length with h2 | h2
 ·
  exact h2
 ·
  have h3 := List.length_filter_eq_length_iff.1 (Nat.le_antisymm h1 h2) r hr
  have e : r.h = h := eqT_iff.1 he
  rw [G.keyV, e] at h3
  simp at h3
theorem base_room {t : Int} {h : ByteArray} {gs : List G.GrantD} (hl : gs.length ≤ 40) : roomG h (leftG t h gs) = decide ((baseG t h gs).length < 40) := by
 unfold baseG
 split
 ·
  rename_i hh
  have h1 := out_len hh
  rw [base_has hh, decide_eq_true (by omega)]
  unfold roomG
  rw [hh]; rfl
 ·
  rename_i hh
  have hf : hasG h gs = false := by simpa using hh
  have hn : hasG h (leftG t h gs) = false := has_none (fun g hg => has_false hf g (left_mem g hg))
  unfold roomG
  rw [hn]; rfl
theorem base_srt {t : Int} {h : ByteArray} {gs : List G.GrantD} (hs : G.Srt gs) : G.Srt (baseG t h gs) := by
 unfold baseG
 split
 ·
  exact List.Pairwise.filter _ hs
 ·
  unfold leftG
  split
  ·
   exact hs
  ·
   exact still_srt hs
theorem og_sl {B : Nat} {gs : List G.GrantD} {w : World} {v : Value} (h : OG B gs w v) : G.Sl w v gs B := G.Sl.of_owns h
structure Stg (xb : Nat) (t : Int) (s2 : Value) (l : List G.GrantD) (a : Option Addr) (c : Nat) (y : World) : Prop where
 k0 : y.cell? ⟨xb, 0, none⟩ = some (.int .i64 t)
 k1 : y.cell? ⟨xb, 1, none⟩ = some (.slice a l.length c)
 k2 : y.cell? ⟨xb, 2, none⟩ = some s2
 f1 : y.frozen? ⟨xb, 1, none⟩ = false
 z : xb < y.heap.size
 cap : l.length ≤ c
 r : G.Sl y (.slice a l.length c) l 0
theorem Stg.keep {xb : Nat} {t : Int} {s2 : Value} {l : List G.GrantD} {a : Option Addr} {c : Nat} {y y' : World} (h : Stg xb t s2 l a c y) (hb : Below y.heap.size y y') : Stg xb t s2 l a c y' :=
 ⟨(hb.cell (p := ⟨xb, 0, none⟩) h.z).trans h.k0, (hb.cell (p := ⟨xb, 1, none⟩) h.z).trans h.k1, (hb.cell (p := ⟨xb, 2, none⟩) h.z).trans h.k2, (hb.frozen (p := ⟨xb, 1, none⟩) h.z).trans h.f1, Nat.lt_of_lt_of_le h.z hb.size, h.cap, h.r.keep hb⟩
theorem Stg.lay {xb : Nat} {t : Int} {s2 : Value} {l m : List G.GrantD} {a b : Option Addr} {c d B : Nat} {y : World} (h : Stg xb t s2 l a c y) (ho : OG B m y (.slice b m.length d)) (hB : xb < B) : Stg xb t s2 m b d (y.setCell ⟨xb, 1, none⟩ (.slice b m.length d)) := by
 have hx : Ex xb y (y.setCell ⟨xb, 1, none⟩ (.slice b m.length d)) := (Ex.refl _ _).set _ _
 refine ⟨?_, ?_, ?_, ?_, Nat.lt_of_lt_of_le h.z hx.size, ?_, ?_⟩
 ·
  rw [World.cell?_setCell_other _ _ _ _ (by intro e; cases e)]; exact h.k0
 ·
  rw [World.cell?_setCell_same _ _ _ h.k1]
 ·
  rw [World.cell?_setCell_other _ _ _ _ (by intro e; cases e)]; exact h.k2
 ·
  rw [World.frozen?_setCell]; exact h.f1
 ·
  exact cap_owns ho _ _ _ rfl
 ·
  have h1 := (og_sl ho)
  refine (h1.grown (row := some xb) ⟨hx.os, hx.tape, hx.output, hx.size, fun k hk hne => hx.block k hk (fun e => hne (by rw [e]))⟩ ?_).low (Nat.zero_le _)
  cases hv : (Value.slice b m.length d).ownBlock with
  | none => exact Or.inl rfl
  | some g =>
   right
   intro e
   have := (h1.lt g hv).1
   have e' : g = xb := Option.some.inj e
   omega
theorem setT_back {l : Array Bool} {i j : Nat} (h : (l.setIfInBounds i true).getD j false = false) (hi : i < l.size) : l.getD j false = false := by
 by_cases e : j = i
 ·
  subst e; rw [setT_same hi] at h; cases h
 ·
  rw [setT_ne e] at h; exact h
section
variable {sl : Nat → Nat} {n se : Nat} {ops : Array Oper} {a0 : Act} {G : Array Bool → World → Nat → Value → Prop} {D : World → Prop} {E : Value → World → Prop} {listed : Array Bool} {a : Act} {w w' : World} {i : Nat} {v : Value}
end
end Go.Proofs.YtefkdohkjdopeaaGreatDoor
