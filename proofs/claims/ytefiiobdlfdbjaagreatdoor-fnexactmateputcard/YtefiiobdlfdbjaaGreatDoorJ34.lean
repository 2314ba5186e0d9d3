import Derived.Test.YtefiiobdlfdbjaaGreatDoorJ33
import Derived.Laws.AppendOwnNone
/- The specification's put: the region that lays the new list. -/
namespace Go.Proofs.YtefiiobdlfdbjaaGreatDoor
open Go.RowKit
set_option linter.unusedVariables false

theorem infoPl : (Tryz.prog.info? 53).map (fun i => (i.zero, i.size, i.bytes)) = some (some (.agg #[.string ⟨#[]⟩, .int .i64 0, .slice none 0 0]), 3, 48) := Pr.infoR
/-- A stretch is appended to a row of the call's own. -/
theorem appRst {o : Oper} {a : Act} {Y : World} {K : Act → World → Prop} {Q : Exit → Act → World → Prop} (B : Nat) (s x : Operand)
    (ho : o.op = .call { callee := .builtin .append, args := #[s, x], argTypes := #[30, 30] }) (l m : List Pr.PlRaw) (v vx : Value)
    (hs : a.eval s = v) (hown : OQ B l Y v) (hB : B ≤ Y.heap.size) (hx : a.eval x = vx) (hr : Rst Y vx m) (hl : l.length + m.length ≤ 1048576)
    (h : ∀ (s' : Value) (w' : World), OQ B (l ++ m) w' s' → Y.grownBy w' v.ownBlock → (s'.ownBlock = v.ownBlock ∨ s'.ownBlock = some Y.heap.size) → K (a.put o.dst s') w') : o.wp Tryz.prog a Y K Q := by
  obtain ⟨i0, hi, hz0, hz1, hz2⟩ := info_parts infoPl
  obtain ⟨ax, c, rfl, hr⟩ := hr
  rcases hr with ⟨rfl, rfl, rfl⟩ | ⟨g, off, rfl, hg, hc⟩
  · have hrun := run_append_owned_none (P := Tryz.prog) (w := Y) B 30 o.type 53 i0 3 Tryz.underlying30 hi v l.length _ hown
    have hx' : a.eval x = .slice none 0 0 := hx
    unfold Oper.wp
    simp [execOp, ho, resolve, invoke, builtin, hs, hx', hrun, Result.andThen]
    exact h v Y (by simpa using hown) ⟨rfl, rfl, rfl, Nat.le_refl _, fun _ _ _ => rfl⟩ (Or.inl rfl)
  · refine wp_append_own_atP s x 30 ho B 53 i0 _ 3 48 Tryz.underlying30 hi hz0 hz1 hz2 rfl (by decide) v l.length _ hs hown ⟨g, off, none⟩ m.length c (Pr.flatR m) hx (Pr.flatR_len _) (fun j u hj => by rw [addr_add]; exact hc j u hj) (Pr.flatR_one _) (by unfold maxLen; omega) (by omega) hB ?_
    intro s' w' ho' hg' hat
    refine h s' w' ?_ hg' hat
    unfold OQ
    rw [List.length_append, flat_app]
    exact ho'
/-- A stretch is appended to an empty list: nothing that was there turns. -/
theorem copyRst {o : Oper} {a : Act} {Y : World} {K : Act → World → Prop} {Q : Exit → Act → World → Prop} (B : Nat) (s x : Operand)
    (ho : o.op = .call { callee := .builtin .append, args := #[s, x], argTypes := #[30, 30] }) (m : List Pr.PlRaw) (g0 : Nat) (vx : Value)
    (hs : a.eval s = .slice (some ⟨g0, 0, none⟩) 0 0) (hown : OQ B [] Y (.slice (some ⟨g0, 0, none⟩) 0 0)) (hB : B ≤ Y.heap.size) (hx : a.eval x = vx) (hr : Rst Y vx m) (hl : m.length ≤ 1048576)
    (h : ∀ (s' : Value) (w' : World), OQ B m w' s' → Below Y.heap.size Y w' → K (a.put o.dst s') w') : o.wp Tryz.prog a Y K Q := by
  obtain ⟨i0, hi, hz0, hz1, hz2⟩ := info_parts infoPl
  obtain ⟨ax, c, rfl, hr⟩ := hr
  rcases hr with ⟨rfl, rfl, rfl⟩ | ⟨g, off, rfl, hg, hc⟩
  · have hrun := run_append_owned_none (P := Tryz.prog) (w := Y) B 30 o.type 53 i0 3 Tryz.underlying30 hi _ 0 _ hown
    have hx' : a.eval x = .slice none 0 0 := hx
    unfold Oper.wp
    simp [execOp, ho, resolve, invoke, builtin, hs, hx', hrun, Result.andThen]
    exact h _ Y hown (Below.refl _ _)
  · by_cases hm : m.length = 0
    · have hn : m = [] := List.eq_nil_of_length_eq_zero hm
      subst hn
      have hrr := run_append_room_cells (P := Tryz.prog) Y 30 o.type 53 i0 Tryz.underlying30 hi g0 0 0 0 ⟨g, off, none⟩ 0 c [] (by simp) (fun j u hj => by simp at hj) (fun u hu => by cases hu) (Nat.le_refl _) (fun j hj => by simp at hj) (fun j hj => by simp at hj)
      have hx' : a.eval x = .slice (some ⟨g, off, none⟩) 0 c := hx
      unfold Oper.wp execOp
      simp only [ho, resolve, invoke, builtin, Sem.run_bind, Sem.run_pure, Result.andThen_ok, List.map_toArray, List.map_cons, List.map_nil, hs, hx', hrr]
      exact h _ _ hown (Below.refl _ _)
    · obtain ⟨v', w', hrr, h2, h3⟩ := run_append_arg_grows (P := Tryz.prog) Y 30 o.type 53 i0 _ 3 48 Tryz.underlying30 hi hz0 hz1 hz2 rfl (by decide) ⟨g0, 0, none⟩ 0 0 [] (by simp) (fun j u hj => by simp at hj) ⟨g, off, none⟩ m.length c (Pr.flatR m) (Pr.flatR_len _) (fun j u hj => by rw [addr_add]; exact hc j u hj) (by omega) (by unfold maxLen; omega) (by omega)
      unfold Oper.wp execOp
      simp only [ho, resolve, invoke, builtin, Sem.run_bind, Sem.run_pure, Result.andThen_ok, List.map_toArray, List.map_cons, List.map_nil, hs, hx, hrr]
      exact h v' w' (owns_low (by simpa [OQ] using h2) hB) (Below.grown (Below.refl _ _) h3 (Nat.le_refl _) (fun j hj => by cases hj))
theorem bld0P (w : World) : Sem.run Tryz.prog (Instr.buildSlice 30 0 #[]) w = .ok (.slice (some ⟨w.heap.size, 0, none⟩) 0 0) (w.alloc (.cells #[] 53)) := by kernel_rfl
def sl14 : Nat → Nat
  | 0 => 73
  | 1 => 74
  | 2 => 75
  | 3 => 76
  | 4 => 77
  | 5 => 78
  | 6 => 79
  | 7 => 80
  | 8 => 81
  | 9 => 82
  | 10 => 83
  | 11 => 84
  | _ => 0
theorem sl14_inj (i : Nat) (hi : i < 12) : ∀ j, j < 12 → sl14 j = sl14 i → j = i := by
  have h : ∀ a : _root_.Fin 12, ∀ b : _root_.Fin 12, sl14 b.1 = sl14 a.1 → b.1 = a.1 := by decide
  intro j hj e
  exact h ⟨i, hi⟩ ⟨j, hj⟩ e
theorem sl14_far : ∀ j, (j < 73 ∨ 73 + 12 ≤ j) → ∀ i, i < 12 → sl14 i ≠ j := by
  intro j h2 i hi
  match i, hi with
  | 0, _ => show 73 ≠ j; omega
  | 1, _ => show 74 ≠ j; omega
  | 2, _ => show 75 ≠ j; omega
  | 3, _ => show 76 ≠ j; omega
  | 4, _ => show 77 ≠ j; omega
  | 5, _ => show 78 ≠ j; omega
  | 6, _ => show 79 ≠ j; omega
  | 7, _ => show 80 ≠ j; omega
  | 8, _ => show 81 ≠ j; omega
  | 9, _ => show 82 ≠ j; omega
  | 10, _ => show 83 ≠ j; omega
  | 11, _ => show 84 ≠ j; omega
def arrPl (np : P.PlaceD) : Array Value := #[.string np.b, .int .i64 np.s, .slice np.a np.ws.length np.c]
theorem rst_one {w : World} {g : Nat} {np : P.PlaceD} (h : w.heap[g]? = some (.cells (arrPl np) 53 (0, 0))) : Rst w (.slice (some ⟨g, 0, none⟩) 1 1) [Pr.raw np] := by
  refine ⟨_, 1, rfl, Or.inr ⟨g, 0, rfl, (Array.getElem?_eq_some_iff.1 h).1, fun j u hj => ?_⟩⟩
  have := blk_cells h j u (by simpa [Pr.flatR, Pr.raw, arrPl, Pr.PlRaw.cells] using hj)
  rw [addr_add] at this
  exact this
theorem bld1Pl (np : P.PlaceD) (w : World) : Sem.run Tryz.prog (Instr.buildSlice 30 1 #[(0, .agg #[.string np.b, .int .i64 np.s, .slice np.a np.ws.length np.c])]) w = .ok (.slice (some ⟨w.heap.size, 0, none⟩) 1 1) (w.alloc (.cells (arrPl np) 53)) := by kernel_rfl
/-- What stands in the region's slots. -/
def G14 (xb Z : Nat) (a2 : Option Addr) (n p k : Nat) (aH : Option Addr) (cH : Nat) (vF : Value) (np : P.PlaceD) (lk lf : List Pr.PlRaw) (L : Array Bool) (w : World) : Nat → Value → Prop
  | 0, v => L.getD 5 false = false → ∃ g0, v = .slice (some ⟨g0, 0, none⟩) 0 0 ∧ OQ Z [] w v
  | 1, v => v = .pointer (some ⟨xb, 2, none⟩)
  | 2, v => v = .slice a2 n p
  | 3, v => v = .int .i64 (k : Int)
  | 4, v => v = .slice aH k cH
  | 5, v => L.getD 8 false = false → OQ Z lk w v
  | 6, v => v = .agg #[.string np.b, .int .i64 np.s, .slice np.a np.ws.length np.c]
  | 7, v => L.getD 8 false = false → ∃ g, v = .slice (some ⟨g, 0, none⟩) 1 1 ∧ g < w.heap.size ∧ w.heap[g]? = some (.cells (arrPl np) 53 (0, 0))
  | 8, v => L.getD 10 false = false → OQ Z (lk ++ [Pr.raw np]) w v
  | 9, v => v = vF
  | 10, v => OQ Z (lk ++ [Pr.raw np] ++ lf) w v
  | 11, v => v = .pointer (some ⟨xb, 2, none⟩)
  | _, _ => True
section
variable {xb Z : Nat} {a2 : Option Addr} {n p k : Nat} {aH : Option Addr} {cH : Nat} {vF : Value} {np : P.PlaceD} {lk lf : List Pr.PlRaw} {L : Array Bool} {w w' : World} {i : Nat}
theorem G14.keep (hb : Below w.heap.size w w') (hi : i < L.size) : ∀ j v, G14 xb Z a2 n p k aH cH vF np lk lf L w j v → G14 xb Z a2 n p k aH cH vF np lk lf (L.setIfInBounds i true) w' j v
  | 0, _, h => fun e => by
    obtain ⟨g0, h1, h2⟩ := h (setT_back e hi)
    exact ⟨g0, h1, h2.keep hb⟩
  | 1, _, h => h
  | 2, _, h => h
  | 3, _, h => h
  | 4, _, h => h
  | 5, _, h => fun e => (h (setT_back e hi)).keep hb
  | 6, _, h => h
  | 7, _, h => fun e => by
    obtain ⟨g, h1, h2, h3⟩ := h (setT_back e hi)
    exact ⟨g, h1, Nat.lt_of_lt_of_le h2 hb.size, (hb.block g h2).trans h3⟩
  | 8, _, h => fun e => (h (setT_back e hi)).keep hb
  | 9, _, h => h
  | 10, _, h => OQ.keep h hb
  | 11, _, h => h
  | _ + 12, _, h => h
theorem G14.at8 (h5 : L.getD 5 false = true) (hz : L.size = 13) : ∀ j v, j ≠ 8 → j ≠ 10 → G14 xb Z a2 n p k aH cH vF np lk lf L w j v → G14 xb Z a2 n p k aH cH vF np lk lf (L.setIfInBounds 8 true) w' j v
  | 0, _, _, _, h => fun e => by rw [setT_ne (by decide), h5] at e; cases e
  | 1, _, _, _, h => h
  | 2, _, _, _, h => h
  | 3, _, _, _, h => h
  | 4, _, _, _, h => h
  | 5, _, _, _, h => fun e => by rw [setT_same (by omega)] at e; cases e
  | 6, _, _, _, h => h
  | 7, _, _, _, h => fun e => by rw [setT_same (by omega)] at e; cases e
  | 8, _, h8, _, h => (h8 rfl).elim
  | 9, _, _, _, h => h
  | 10, _, _, h10, h => (h10 rfl).elim
  | 11, _, _, _, h => h
  | _ + 12, _, _, _, h => h
theorem G14.at10 (h5 : L.getD 5 false = true) (h8 : L.getD 8 false = true) (hz : L.size = 13) : ∀ j v, j ≠ 10 → G14 xb Z a2 n p k aH cH vF np lk lf L w j v → G14 xb Z a2 n p k aH cH vF np lk lf (L.setIfInBounds 10 true) w' j v
  | 0, _, _, h => fun e => by rw [setT_ne (by decide), h5] at e; cases e
  | 1, _, _, h => h
  | 2, _, _, h => h
  | 3, _, _, h => h
  | 4, _, _, h => h
  | 5, _, _, h => fun e => by rw [setT_ne (by decide), h8] at e; cases e
  | 6, _, _, h => h
  | 7, _, _, h => fun e => by rw [setT_ne (by decide), h8] at e; cases e
  | 8, _, _, h => fun e => by rw [setT_same (by omega)] at e; cases e
  | 9, _, _, h => h
  | 10, _, h10, h => (h10 rfl).elim
  | 11, _, _, h => h
  | _ + 12, _, _, h => h
end
end Go.Proofs.YtefiiobdlfdbjaaGreatDoor
