import Derived.Test.YtgakmkhbnjofhaaGreatDoorJ61
/- The program reads a parcel. -/
namespace Go.Proofs.YtgakmkhbnjofhaaGreatDoor
open Go.RowKit
set_option linter.unusedVariables false

def slR : Nat → Nat
  | 0 => 23
  | 1 => 24
  | 2 => 25
  | 3 => 26
  | 4 => 27
  | 5 => 28
  | 6 => 29
  | 7 => 30
  | 8 => 31
  | 9 => 32
  | _ => 0
theorem slR_inj {i : Nat} (hi : i < 10) : ∀ j, j < 10 → slR j = slR i → j = i := by
  have h : ∀ a : Fin 10, ∀ b : Fin 10, slR b.val = slR a.val → b.val = a.val := by decide
  intro j hj e
  exact h ⟨i, hi⟩ ⟨j, hj⟩ e
theorem slR_far (j : Nat) (h2 : j < 23 ∨ 23 + 10 ≤ j) : ∀ i, i < 10 → slR i ≠ j := by
  have h : ∀ a : Fin 10, 23 ≤ slR a.val ∧ slR a.val < 23 + 10 := by decide
  intro i hi e
  have h3 := h ⟨i, hi⟩
  simp only [e] at h3
  omega
theorem slR_out (k : Nat) (h : (List.range 10).all (fun i => slR i != k) = true) : ∀ i, i < 10 → slR i ≠ k := fun i hi e => by
  have h1 := List.all_eq_true.1 h i (List.mem_range.2 hi)
  rw [e] at h1
  simp at h1
def shR (i : Nat) : Bool := i == 4 || i == 5
/-- What stands in the slots of the region. -/
def GR (Wb w0 : World) (bp : Nat) (V : Value) (L : List UInt8) (x : ByteArray) (w : World) : Nat → Value → Prop
  | 0, v => v = .pointer (some ⟨bp, 3, none⟩)
  | 1, v => v = V
  | 2, v => v = .string x
  | 3, v => v = .agg #[.string x]
  | 4, v => ∃ bs, v = .pointer (some ⟨bs, 0, none⟩) ∧ At Wb bs L 0 w ∧ w0.heap.size ≤ bs
  | 5, v => ∃ bs, v = .iface 97 (.pointer (some ⟨bs, 0, none⟩)) ∧ At Wb bs L 0 w ∧ w0.heap.size ≤ bs
  | 6, v => v = .agg (wcells (wantI L))
  | 7, v => ∃ g, v = .slice (some ⟨g, 0, none⟩) 1 1 ∧ g < w.heap.size ∧ ∀ j u, (wantI L).cells[j]? = some u → w.cell? ⟨g, j, none⟩ = some u
  | 9, v => v = .pointer (some ⟨bp, 3, none⟩)
  | _, _ => True
theorem GR.keep {Wb w0 : World} {bp : Nat} {V : Value} {L : List UInt8} {x : ByteArray} {w w' : World} (hb : Below w.heap.size w w') : ∀ i v, GR Wb w0 bp V L x w i v → GR Wb w0 bp V L x w' i v
  | 0, _, h => h
  | 1, _, h => h
  | 2, _, h => h
  | 3, _, h => h
  | 4, _, ⟨bs, h1, h2, h3⟩ => ⟨bs, h1, h2.keep hb, h3⟩
  | 5, _, ⟨bs, h1, h2, h3⟩ => ⟨bs, h1, h2.keep hb, h3⟩
  | 6, _, h => h
  | 7, _, ⟨g, h1, h2, h3⟩ => ⟨g, h1, Nat.lt_of_lt_of_le h2 hb.size, fun j u hj => (hb.cell (p := ⟨g, j, none⟩) h2).trans (h3 j u hj)⟩
  | 8, _, _ => trivial
  | 9, _, h => h
  | _ + 10, _, _ => trivial
/-- Nothing of these is of a world. -/
theorem GR.free {Wb w0 : World} {bp : Nat} {V : Value} {L : List UInt8} {x : ByteArray} {w w' : World} : ∀ i v, i ≠ 4 → i ≠ 5 → i ≠ 7 → GR Wb w0 bp V L x w i v → GR Wb w0 bp V L x w' i v
  | 0, _, _, _, _, h => h
  | 1, _, _, _, _, h => h
  | 2, _, _, _, _, h => h
  | 3, _, _, _, _, h => h
  | 4, _, h4, _, _, _ => absurd rfl h4
  | 5, _, _, h5, _, _ => absurd rfl h5
  | 6, _, _, _, _, h => h
  | 7, _, _, _, h7, _ => absurd rfl h7
  | 8, _, _, _, _, _ => trivial
  | 9, _, _, _, _, h => h
  | _ + 10, _, _, _, _, _ => trivial
/-- The parcel, the text and the wants so far. -/
structure PS (Y : World) (be bp : Nat) (O : Value → Array Value) (r : List UInt8) (ws : List W.WantD) (V : Value) (y : World) : Prop where
  p : Pl Y be bp (O V) y
  s : Sp be r y
  r : Rw bp ws V y
theorem PS.below {Y : World} {be bp : Nat} {O : Value → Array Value} {r : List UInt8} {ws : List W.WantD} {V : Value} {y y' : World} (h : PS Y be bp O r ws V y) (hb : Below y.heap.size y y') : PS Y be bp O r ws V y' := ⟨h.p.below hb, h.s.keep hb, h.r.below hb⟩
theorem Sp.grow {b : Nat} {r : List UInt8} {w w' : World} {row : Option Nat} (h : Sp b r w) (hg : w.grownBy w' row) (hn : some b ≠ row) : Sp b r w' :=
  ⟨(World.cell?_of_block (w := w) (a := ⟨b, 0, none⟩) (hg.block b h.z hn)).trans h.c, (World.frozen?_of_block (w := w) (a := ⟨b, 0, none⟩) (hg.block b h.z hn)).trans h.f, Nat.lt_of_lt_of_le h.z hg.size, h.l⟩
/-- Behind the append the row is a new one; the parcel has it not yet. -/
def PA (Y : World) (be bp : Nat) (O : Value → Array Value) (r : List UInt8) (ws : List W.WantD) (V : Value) (y : World) (v : Value) : Prop := Pl Y be bp (O V) y ∧ Sp be r y ∧ Rw bp ws v y
theorem wantApp {o : Oper} {a : Act} {y : World} {K : Act → World → Prop} {Q : Exit → Act → World → Prop} (bp : Nat) (s x : Operand) (ho : o.op = .call { callee := .builtin .append, args := #[s, x], argTypes := #[23, 23] })
    (ws : List W.WantD) (r : W.WantD) (V : Value) (g : Nat) (hs : a.eval s = V) (hown : Rw bp ws V y) (hB : bp + 1 ≤ y.heap.size) (hx : a.eval x = .slice (some ⟨g, 0, none⟩) 1 1) (hn : ∀ j u, r.cells[j]? = some u → y.cell? ⟨g, j, none⟩ = some u) (hl : ws.length ≤ 1000)
    (h : ∀ v' w', Rw bp (ws ++ [r]) v' w' → y.grownBy w' V.ownBlock → K (a.put o.dst v') w') : o.wp Tryz.prog a y K Q := by
  obtain ⟨i0, hi, hz0, hz1, hz2⟩ := info_parts W.infoR
  refine wp_append_own y s x 23 ho (bp + 1) 46 i0 _ 7 72 Tryz.underlying23 hi hz0 hz1 hz2 rfl (by decide) V ws.length _ hs hown ⟨g, 0, none⟩ 1 1 r.cells hx rfl (fun j u hj => by rw [Addr.add_mid, Nat.zero_add]; exact hn j u hj) (W.cellsR_one _) (by unfold maxLen; omega) (by omega) hB ?_
  intro v' w' ho' hg' _
  refine h v' w' ?_ hg'
  show World.ownsRow _ _ _ _ _ (ws ++ [r]).length _
  rw [List.length_append, W.flatR_snoc]
  exact ho'
def OP (k0 : Int) (b0 : ByteArray) (se0 : Int) (h0 c0 : ByteArray) (t0 : Int) (v : Value) : Array Value := #[.int .i64 k0, .string b0, .int .i64 se0, v, .string h0, .string c0, .int .i64 t0]
theorem Sl_low {w : World} {v : Value} {l : List W.WantD} {B B' : Nat} (h : W.Sl w v l B) (hB : B' ≤ B) : W.Sl w v l B' := by
  rcases h with h | ⟨g, cap, h1, h2, h3⟩
  · exact Or.inl h
  · exact Or.inr ⟨g, cap, h1, Nat.le_trans hB h2, h3⟩
theorem Pl.fin {Y : World} {be bp : Nat} {O : Array Value} {y : World} (h : Pl Y be bp O y) (cs : Array Value) :
    Hid (∀ j, (y.setRow Y.heap.size cs).cell? ⟨Y.heap.size, j, none⟩ = cs[j]?) ∧ Hid (Ex be Y (y.setRow Y.heap.size cs)) ∧ Hid (y.grownBy (y.setRow Y.heap.size cs) (some Y.heap.size)) := by
  have h1 := setRow_heap y Y.heap.size Z7 cs _ _ h.r
  have hg : y.grownBy (y.setRow Y.heap.size cs) (some Y.heap.size) := ⟨rfl, rfl, rfl, by simp, fun k _ hk => setRow_other y Y.heap.size k _ (fun e => hk (by simp [e]))⟩
  refine ⟨fun j => ?_, ⟨h.x.os, h.x.tape, h.x.output, by have := h.x.size; simpa using this, fun k hk hne => ?_⟩, hg⟩
  · show _ = _
    rw [cell_of_row _ _ j cs _ (0, 0) h1]
  · rw [setRow_other y Y.heap.size k cs (by omega)]
    exact h.x.block k hk hne
theorem Sp.ex {b kr : Nat} {r : List UInt8} {w w' : World} (h : Sp b r w) (hx : Ex kr w w') (hn : b ≠ kr) : Sp b r w' :=
  ⟨(hx.cell (p := ⟨b, 0, none⟩) h.z hn).trans h.c, (hx.frozen (p := ⟨b, 0, none⟩) h.z hn).trans h.f, Nat.lt_of_lt_of_le h.z hx.size, h.l⟩
theorem at_new {Wb y : World} {L : List UInt8} {x : ByteArray} {t : TypeId} (hx : x = wd L) (hl : L.length ≤ 1048576) (hb : Below Wb.heap.size Wb y) (hz : Wb.heap.size ≤ y.heap.size) : At Wb y.heap.size L 0 (y.alloc (.cells #[.string x] t)) :=
  ⟨⟨by rw [World.cell?_alloc_new, hx]; rfl, by simp [go_sem], by simp, hl⟩, bl_alloc hb _, hz⟩
theorem bldW1 (r : W.WantD) (w : World) : Sem.run Tryz.prog (Instr.buildSlice 23 1 #[(0, .agg (wcells r))]) w = .ok (.slice (some ⟨w.heap.size, 0, none⟩) 1 1) (w.alloc (.cells (wcells r) 46)) := by
  obtain ⟨c, h, v, p, s, d, g⟩ := r
  kernel_rfl
theorem wp_bldW {o : Oper} {a : Act} {w : World} {K : Act → World → Prop} {Q : Exit → Act → World → Prop} (s : Operand) (ho : o.op = .buildSlice 23 1 #[(0, s)]) (r : W.WantD) (hs : a.eval s = .agg (wcells r))
    (h : K (a.put o.dst (.slice (some ⟨w.heap.size, 0, none⟩) 1 1)) (w.alloc (.cells (wcells r) 46))) : o.wp Tryz.prog a w K Q := by
  have hb := bldW1 r w
  unfold Oper.wp execOp
  simp only [ho, hs, List.map_toArray, List.map_cons, List.map_nil, Sem.run_bind, Sem.run_pure, hb, Result.andThen_ok]
  exact h
theorem wcells_at {r : W.WantD} {j : Nat} {u : Value} (h : r.cells[j]? = some u) : (wcells r)[j]? = some u := by
  have e : wcells r = r.cells.toArray := rfl
  rw [e]
  simpa using h
theorem GR7_new (Wb w0 : World) (bp : Nat) (V : Value) (L : List UInt8) (x : ByteArray) (y : World) : GR Wb w0 bp V L x (y.alloc (.cells (wcells (wantI L)) 46)) 7 (.slice (some ⟨y.heap.size, 0, none⟩) 1 1) := by
  generalize hr : wantI L = r
  refine ⟨y.heap.size, rfl, ?_, ?_⟩
  · show y.heap.size < (y.alloc _).heap.size
    simp
  · intro j u hj
    rw [hr] at hj
    rw [World.cell?_alloc_new]
    exact wcells_at hj
theorem wantsI_step {n : Nat} {r : List UInt8} (h : (nxE r).1 ≠ []) : wantsI (n + 1) r = wantI (nxE r).1 :: wantsI n (nxE r).2 := by rw [wantsI, if_neg h]
theorem wantsI_stop {n : Nat} {r : List UInt8} (h : (nxE r).1 = []) : wantsI n r = [] := by
  cases n with
  | zero => rfl
  | succ n => rw [wantsI, if_pos h]
theorem wd_empty {l : List UInt8} (h : (wd l).toList.isEmpty = true) : l = [] := by
  have := empty_of h
  exact wd_inj this
theorem wd_nonempty {l : List UInt8} (h : (wd l).toList.isEmpty = false) : l ≠ [] := by
  intro e
  subst e
  have : (wd []).toList.isEmpty = true := by rw [ByteArray.toList_eq]; rfl
  rw [this] at h
  cases h
theorem cnt_of {bp n c : Nat} {a : Option Addr} {w : World} (h : w.cell? ⟨bp, 3, none⟩ = some (.slice a n c)) : cntW bp w = n := by
  unfold cntW
  rw [h]
end Go.Proofs.YtgakmkhbnjofhaaGreatDoor
