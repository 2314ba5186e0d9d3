import Derived.Test.YtgakmkhbnjofhaaGreatDoorJ01
import Derived.Lib.ItoaNum
import Derived.Test.YtgakmkhbnjofhaaGreatDoorJ06
/- A region by an invariant, where each operation has a slot. -/
namespace Go.Proofs.YtgakmkhbnjofhaaGreatDoor
open Go.RowKit
set_option linter.unusedVariables false

def waits (md : Region.Mode) (ops : Array Oper) (i j : Nat) : Bool := match ops[i]? with
  | some o => o.after.toList.any (fun e => Region.binds md e && e.on == j)
  | none => false
theorem waits_of {md : Region.Mode} {ops : Array Oper} {listed : Array Bool} {i j : Nat} (hi : i ∈ Region.ready md ops listed) (hd : waits md ops i j = true) : listed.getD j false = true := by
  unfold waits at hd
  split at hd
  · rename_i o ho; exact dep_listed hi ho hd
  · cases hd
structure Ip (sl : Nat → Nat) (n : Nat) (a0 : Act) (G : World → Nat → Value → Prop) (D : World → Prop) (listed : Array Bool) (a : Act) (w : World) : Prop where
  df : a.defers = a0.defers
  sz : a.tmps.size = a0.tmps.size
  out : ∀ k, (∀ i, i < n → sl i ≠ k) → a.tmps.getD k undef = a0.tmps.getD k undef
  lz : listed.size = n
  good : ∀ i, i < n → listed.getD i false = true → G w i (a.tmps.getD (sl i) undef)
  d : D w
section
variable {sl : Nat → Nat} {n : Nat} {md : Region.Mode} {ops : Array Oper} {a0 : Act} {G : World → Nat → Value → Prop} {D : World → Prop} {listed : Array Bool} {a : Act} {w w' : World} {i : Nat} {v : Value}
theorem Ip.put (h : Ip sl n a0 G D listed a w) (hi : i < n) (hlt : sl i < a0.tmps.size) (hinj : ∀ j, j < n → sl j = sl i → j = i) (hg : G w' i v)
    (hk : ∀ j u, j < n → G w j u → G w' j u) (hd : D w') : Ip sl n a0 G D (listed.setIfInBounds i true) (a.put (some (sl i)) v) w' := by
  have hsz := h.sz
  have hlz := h.lz
  refine ⟨h.df, by simpa [Act.put] using hsz, ?_, by simpa using hlz, ?_, hd⟩
  · intro k hko
    rw [← h.out k hko]
    simp only [Act.put, Array.getD_eq_getD_getElem?]
    rw [Array.getElem?_setIfInBounds_ne (hko i hi)]
  · intro j hj hl
    by_cases e : j = i
    · subst e
      simp only [Act.put, Array.getD_eq_getD_getElem?]
      rw [Array.getElem?_setIfInBounds_self_of_lt (by omega)]
      exact hg
    · have hl' : listed.getD j false = true := by
        simp only [Array.getD_eq_getD_getElem?] at hl ⊢
        rwa [Array.getElem?_setIfInBounds_ne (fun x => e x.symm)] at hl
      have h1 := hk j _ hj (h.good j hj hl')
      simp only [Act.put, Array.getD_eq_getD_getElem?] at h1 ⊢
      rw [Array.getElem?_setIfInBounds_ne (fun e' => e (hinj j hj e'.symm))]
      exact h1
end
theorem reg_invP {P : Program} {ops : Array Oper} {Q : Exit → Act → World → Prop} {a0 : Act} {w0 : World} (sl : Nat → Nat) (n : Nat) (G : World → Nat → Value → Prop) (D : World → Prop)
    (hd : depsOk ops = true) (hops : ops.size = n) (hD : D w0)
    (done : ∀ a y, Ip sl n a0 G D (Array.replicate n true) a y → Q .normal a y)
    (step : ∀ listed x y i, Ip sl n a0 G D listed x y → i ∈ Region.ready .any ops listed → i < n → wpOp P ops Q i (Ip sl n a0 G D (listed.setIfInBounds i true)) x y) :
    wpAny P .any ops Q ops.size (Array.replicate ops.size false) a0 w0 := by
  refine wpAny_inv (Ip sl n a0 G D) (fun listed x y i hI hi => step listed x y i hI hi (by have := List.mem_range.1 (List.mem_filter.1 hi).1; omega)) ?_ _ _ _ _ ?_ ?_
  · intro listed x y hI hr
    have hall := all_listed hd hr (by rw [hI.lz, hops])
    exact done x y ⟨hI.df, hI.sz, hI.out, by simp, fun i hi _ => hI.good i hi (hall i (by omega)), hI.d⟩
  · unfold openOf
    exact Nat.le_trans List.countP_le_length (by simp)
  · refine ⟨rfl, rfl, fun _ _ => rfl, by simp [hops], ?_, hD⟩
    intro i _ h
    simp only [Array.getD_eq_getD_getElem?, Array.getElem?_replicate] at h
    split at h <;> cases h
theorem Ip.all {sl : Nat → Nat} {n : Nat} {a0 : Act} {G : World → Nat → Value → Prop} {D : World → Prop} {a : Act} {w : World} (h : Ip sl n a0 G D (Array.replicate n true) a w) (i : Nat) (hi : i < n) : G w i (a.tmps.getD (sl i) undef) :=
  h.good i hi (by simp only [Array.getD_eq_getD_getElem?, Array.getElem?_replicate, if_pos hi, Option.getD_some])
theorem wp_cover {P : Program} {o : Oper} {a : Act} {w : World} {I : Act → World → Prop} {Q : Exit → Act → World → Prop} (h : ∀ K : Act → World → Prop, Hid (∀ a w, I a w → K a w) → o.wp P a w K Q) : o.wp P a w I Q := h I (fun _ _ h => h)
theorem frameP_of {a a0 : Act} {lo n : Nat} (df : a.defers = a0.defers) (sz : a.tmps.size = a0.tmps.size) (out : ∀ k, k < lo ∨ lo + n ≤ k → a.tmps.getD k undef = a0.tmps.getD k undef) (hn : lo + n ≤ a0.tmps.size) :
    ∃ l : List Value, l.length = n ∧ a = ⟨(a0.tmps.toList.take lo ++ (l ++ a0.tmps.toList.drop (lo + n))).toArray, a0.defers⟩ := by
  obtain ⟨⟨t⟩, d⟩ := a
  obtain ⟨⟨t0⟩, d0⟩ := a0
  simp only at df
  subst df
  have sz : t.length = t0.length := sz
  have hn : lo + n ≤ t0.length := hn
  refine ⟨(t.drop lo).take n, by simp; omega, ?_⟩
  have e : t = t0.take lo ++ ((t.drop lo).take n ++ t0.drop (lo + n)) := by
    apply List.ext_getElem?
    intro k
    rcases Nat.lt_or_ge k lo with h1 | h1
    · have h2 := out k (Or.inl h1)
      rw [List.getElem?_append_left (by simp; omega), List.getElem?_take_of_lt h1]
      simp only [Array.getD_eq_getD_getElem?, List.getElem?_toArray] at h2
      rw [List.getElem?_eq_getElem (by omega), List.getElem?_eq_getElem (by omega)] at h2 ⊢
      simpa using h2
    · rw [List.getElem?_append_right (by simp; omega)]
      have hl : (t0.take lo).length = lo := by simp; omega
      rw [hl]
      rcases Nat.lt_or_ge k (lo + n) with h3 | h3
      · rw [List.getElem?_append_left (by simp; omega), List.getElem?_take_of_lt (by omega), List.getElem?_drop]
        congr 1; omega
      · rw [List.getElem?_append_right (by simp; omega)]
        have hl2 : ((t.drop lo).take n).length = n := by simp; omega
        rw [hl2, List.getElem?_drop]
        have e2 : lo + n + (k - lo - n) = k := by omega
        rw [e2]
        have h2 := out k (Or.inr h3)
        simp only [Array.getD_eq_getD_getElem?, List.getElem?_toArray] at h2
        rcases Nat.lt_or_ge k t.length with h4 | h4
        · rw [List.getElem?_eq_getElem (by omega), List.getElem?_eq_getElem (by omega)] at h2 ⊢
          simpa using h2
        · rw [List.getElem?_eq_none h4, List.getElem?_eq_none (by omega)]
  show Act.mk ⟨t⟩ d = Act.mk ⟨_⟩ d
  exact congrArg (fun l => Act.mk ⟨l⟩ d) e
theorem lenP_succ {l : List Value} {k : Nat} (h : l.length = k + 1) : ∃ x t, l = x :: t ∧ t.length = k := by
  cases l with
  | nil => cases h
  | cons x t => exact ⟨x, t, rfl, by simpa using h⟩
theorem lenP_zero {l : List Value} (h : l.length = 0) : l = [] := List.eq_nil_of_length_eq_zero h
theorem frameP_two {a a0 : Act} {lo n se : Nat} (df : a.defers = a0.defers) (sz : a.tmps.size = a0.tmps.size) (hse : se < a0.tmps.size) (hn : lo + n ≤ a0.tmps.size) (out : ∀ k, k ≠ se → k < lo ∨ lo + n ≤ k → a.tmps.getD k undef = a0.tmps.getD k undef) :
    ∃ l : List Value, l.length = n ∧ a = ⟨((a0.tmps.setIfInBounds se (a.tmps.getD se undef)).toList.take lo ++ (l ++ (a0.tmps.setIfInBounds se (a.tmps.getD se undef)).toList.drop (lo + n))).toArray, a0.defers⟩ := by
  refine frameP_of (a := a) (a0 := ⟨a0.tmps.setIfInBounds se (a.tmps.getD se undef), a0.defers⟩) df (by simpa using sz) ?_ (by simpa using hn)
  intro k hk
  by_cases e : k = se
  · subst e
    simp only [Array.getD_eq_getD_getElem?]
    rw [Array.getElem?_setIfInBounds_self_of_lt hse, Option.getD_some]
  · rw [out k e hk]
    simp only [Array.getD_eq_getD_getElem?]
    rw [Array.getElem?_setIfInBounds_ne (fun e' => e e'.symm)]
end Go.Proofs.YtgakmkhbnjofhaaGreatDoor
/- Decimal numerals: what the specification writes. -/
namespace Go.Proofs.YtgakmkhbnjofhaaGreatDoor
open Go.RowKit
set_option linter.unusedVariables false

/-- A number's decimal numeral. -/
def decT (n : Int) : ByteArray := ⟨(Lib.itoa n).toArray⟩
theorem decT_one {n : Nat} (h : n < 10) : decT n = ⟨#[UInt8.ofNat (48 + n)]⟩ := by
  have h0 : ¬ ((n : Int) < 0) := by omega
  unfold decT Lib.itoa
  rw [if_neg h0, Int.toNat_natCast, Lib.decDigits_one h]
theorem decT_more {n : Nat} (h : ¬ n < 10) : decT n = decT (n / 10 : Nat) ++ ⟨#[UInt8.ofNat (48 + n % 10)]⟩ := by
  have h0 : ¬ ((n : Int) < 0) := by omega
  have h1 : ¬ (((n / 10 : Nat) : Int) < 0) := by omega
  unfold decT Lib.itoa
  rw [if_neg h0, if_neg h1, Int.toNat_natCast, Int.toNat_natCast, Lib.decDigits, dif_neg h]
  apply ByteArray.ext
  simp
theorem decT_size (n : Nat) : (decT n).size ≤ n + 1 := by
  induction n using Nat.strongRecOn with
  | ind n ih =>
    by_cases h : n < 10
    · rw [decT_one h]; show 1 ≤ n + 1; omega
    · rw [decT_more h, ByteArray.size_append]
      have := ih (n / 10) (by omega)
      have h2 : (⟨#[UInt8.ofNat (48 + n % 10)]⟩ : ByteArray).size = 1 := rfl
      omega
theorem decT_div (n : Nat) (hn : n < 1000000000) : ¬ (9223372036854775807 < (decT ((n : Int) / 10)).size + 1) := by
  have h1 := decT_size (n / 10)
  have e : ((n / 10 : Nat) : Int) = (n : Int) / 10 := by omega
  rw [e] at h1
  omega
theorem eqi {a b : Int} (h : a = b) : Value.int .i64 a = Value.int .i64 b := by rw [h]
theorem equ {a b : Int} (h : a = b) (h1 : 0 ≤ b ∧ b < 256) : Value.int .u8 (IntKind.u8.wrap a) = Value.int .u8 b := by
  subst h
  have h2 : IntKind.u8.wrap a = a := by simp [IntKind.wrap, IntKind.signed, IntKind.bits]; omega
  rw [h2]
/-- One byte in a block. -/
def Byte1 (b : Int) (w : World) (v : Value) : Prop := ∃ g, v = .slice (some ⟨g, 0, none⟩) 1 1 ∧ g < w.heap.size ∧ w.cell? ⟨g, 0, none⟩ = some (.int .u8 b)
theorem Byte1.keep {b : Int} {w w' : World} {v : Value} (h : Byte1 b w v) (hb : Below w.heap.size w w') : Byte1 b w' v := by
  obtain ⟨g, h1, h2, h3⟩ := h
  exact ⟨g, h1, Nat.lt_of_lt_of_le h2 hb.size, (hb.cell (p := ⟨g, 0, none⟩) h2).trans h3⟩
theorem conv_byte_at (g : Nat) (n : Int) (w : World) (h : w.cell? ⟨g, 0, none⟩ = some (.int .u8 n)) : Sem.run Tryz.prog (convert 22 9 (.slice (some ⟨g, 0, none⟩) 1 1)) w = .ok (.string ⟨#[UInt8.ofNat n.toNat]⟩) w := by
  rw [run_convert_bytes_string _ _ _ 5 _ _ _ Tryz.underlying22 Tryz.underlying5 Tryz.underlying9]
  rw [run_bytesToString _ _ _ _ [n] (by simp [loadCells, go_sem, h])]
  rfl
def slDec : Nat → Nat
  | 0 => 10
  | 1 => 11
  | 2 => 12
  | 3 => 13
  | 4 => 14
  | 5 => 15
  | 6 => 16
  | 7 => 17
  | 8 => 18
  | 9 => 19
  | 10 => 2
  | _ => 0
theorem slDec_inj {i : Nat} (hi : i < 11) : ∀ j, j < 11 → slDec j = slDec i → j = i := by
  have h : ∀ a : Fin 11, ∀ b : Fin 11, slDec b.val = slDec a.val → b.val = a.val := by decide
  intro j hj e
  exact h ⟨i, hi⟩ ⟨j, hj⟩ e
theorem slDec_out (k : Nat) (h : (List.range 11).all (fun i => slDec i != k) = true) : ∀ i, i < 11 → slDec i ≠ k := fun i hi e => by
  have h1 := List.all_eq_true.1 h i (List.mem_range.2 hi)
  rw [e] at h1
  simp at h1
def GDec (n : Nat) (w : World) : Nat → Value → Prop
  | 0, v => v = .int .i64 (n : Int)
  | 1, v => v = .int .i64 ((n / 10 : Nat) : Int)
  | 2, v => v = .string (decT ((n / 10 : Nat) : Int))
  | 3, v => v = .int .i64 (n : Int)
  | 4, v => v = .int .i64 ((n % 10 : Nat) : Int)
  | 5, v => v = .int .i64 (48 + ((n % 10 : Nat) : Int))
  | 6, v => v = .int .u8 (48 + ((n % 10 : Nat) : Int))
  | 7, v => Byte1 (48 + ((n % 10 : Nat) : Int)) w v
  | 8, v => v = .string ⟨#[UInt8.ofNat (48 + n % 10)]⟩
  | 9, v => v = .string (decT (n : Int))
  | 10, v => v = .string (decT (n : Int))
  | _, _ => True
theorem GDec.keep {n : Nat} {w w' : World} (hb : Below w.heap.size w w') : ∀ i v, GDec n w i v → GDec n w' i v
  | 0, _, h => h
  | 1, _, h => h
  | 2, _, h => h
  | 3, _, h => h
  | 4, _, h => h
  | 5, _, h => h
  | 6, _, h => h
  | 7, _, h => Byte1.keep h hb
  | 8, _, h => h
  | 9, _, h => h
  | 10, _, h => h
  | _ + 11, _, h => h

set_option maxRecDepth 4000 in
set_option maxHeartbeats 2000000 in
theorem specDec : ∀ (n : Nat) (w : World), n < 1000000000 →
    Calls Tryz.prog 28 #[.int .i64 (n : Int)] w fun e w' => e = .returned (.string (decT n)) ∧ Below w.heap.size w w' := by
  intro n
  induction n using Nat.strongRecOn with
  | ind n ih =>
    intro w hn
    by_cases h : n < 10
    · have hd := decT_one h
      have hb := build_byte
      have hc := conv_byte
      clear ih
      have h1 : (n : Int) < 10 := by omega
      go_enter Tryz.func28, Tryz.ntmps28
      go_wp2
      go_ret
      exact ⟨by rw [hd]; rfl, bl_alloc (Below.refl _ _) _⟩
    · have ih1 := ih (n / 10) (by omega)
      clear ih
      have h1 : ¬ ((n : Int) < 10) := by omega
      go_enter Tryz.func28, Tryz.ntmps28
      go_wp2_with fail
      refine wp_region_any (by kernel_rfl) ?_
      refine reg_invP slDec 11 (GDec n) (fun y => Below w.heap.size w y) (by decide) rfl (bl_drew (Below.refl _ _)) ?doned ?stepd
      case doned =>
        intro a y hI
        have r2 : a.tmps[2]?.getD undef = .string (decT (n : Int)) := ev_tmp (hI.all 10 (by omega))
        have df := hI.df
        go_wp2
        exact bodyPost_ret (v := .string (decT (n : Int))) (by simp [results, Tryz.results28, go_sem, r2]) df ⟨rfl, hI.d⟩
      case stepd =>
        intro listed x y i hI hi hlt
        obtain rfl | rfl | rfl | rfl | rfl | rfl | rfl | rfl | rfl | rfl | rfl : i = 0 ∨ i = 1 ∨ i = 2 ∨ i = 3 ∨ i = 4 ∨ i = 5 ∨ i = 6 ∨ i = 7 ∨ i = 8 ∨ i = 9 ∨ i = 10 := by omega
        · clear hi
          refine wpOp_plain rfl rfl ?_
          refine wp_cover (fun K hK => ?_)
          have i0 : x.tmps[0]?.getD undef = _ := ev_tmp (hI.out 0 (slDec_out 0 (by decide)))
          have HJ : Hid (Ip _ _ _ _ _ _ _ _) := hI
          clear hI
          go_simp
          exact hK.out _ _ (HJ.out.put (by omega) (Nat.le_of_ble_eq_true rfl) (slDec_inj (by omega)) (rfl) (fun j u _ h => h) HJ.out.d)
        · have gd0 := hI.good 0 (by omega) (waits_of hi (j := 0) (by rfl))
          clear hi
          refine wpOp_plain rfl rfl ?_
          refine wp_cover (fun K hK => ?_)
          have ed0 : x.tmps[10]?.getD undef = _ := ev_tmp gd0
          have HJ : Hid (Ip _ _ _ _ _ _ _ _) := hI
          clear hI gd0
          go_simp
          exact hK.out _ _ (HJ.out.put (by omega) (Nat.le_of_ble_eq_true rfl) (slDec_inj (by omega)) (eqi (by rw [IntKind.wrap_i64]; omega)) (fun j u _ h => h) HJ.out.d)
        · have gd1 := hI.good 1 (by omega) (waits_of hi (j := 1) (by rfl))
          clear hi
          refine wpOp_plain rfl rfl ?_
          refine wp_cover (fun K hK => ?_)
          have ed1 : x.tmps[11]?.getD undef = _ := ev_tmp gd1
          have HJ : Hid (Ip _ _ _ _ _ _ _ _) := hI
          clear hI gd1
          go_simp
          refine (ih1 _ (by omega)).mono ?_
          rintro e y' ⟨rfl, hb⟩
          exact hK.out _ _ (HJ.out.put (by omega) (Nat.le_of_ble_eq_true rfl) (slDec_inj (by omega)) (rfl) (fun j u _ h => GDec.keep hb j u h) (bl_trans HJ.out.d hb))
        · clear hi
          refine wpOp_plain rfl rfl ?_
          refine wp_cover (fun K hK => ?_)
          have i0 : x.tmps[0]?.getD undef = _ := ev_tmp (hI.out 0 (slDec_out 0 (by decide)))
          have HJ : Hid (Ip _ _ _ _ _ _ _ _) := hI
          clear hI
          go_simp
          exact hK.out _ _ (HJ.out.put (by omega) (Nat.le_of_ble_eq_true rfl) (slDec_inj (by omega)) (rfl) (fun j u _ h => h) HJ.out.d)
        · have gd3 := hI.good 3 (by omega) (waits_of hi (j := 3) (by rfl))
          clear hi
          refine wpOp_plain rfl rfl ?_
          refine wp_cover (fun K hK => ?_)
          have ed3 : x.tmps[13]?.getD undef = _ := ev_tmp gd3
          have HJ : Hid (Ip _ _ _ _ _ _ _ _) := hI
          clear hI gd3
          go_simp
          exact hK.out _ _ (HJ.out.put (by omega) (Nat.le_of_ble_eq_true rfl) (slDec_inj (by omega)) (eqi (by rw [Int.tmod_eq_emod_of_nonneg (by omega)]; omega)) (fun j u _ h => h) HJ.out.d)
        · have gd4 := hI.good 4 (by omega) (waits_of hi (j := 4) (by rfl))
          clear hi
          refine wpOp_plain rfl rfl ?_
          refine wp_cover (fun K hK => ?_)
          have ed4 : x.tmps[14]?.getD undef = _ := ev_tmp gd4
          have HJ : Hid (Ip _ _ _ _ _ _ _ _) := hI
          clear hI gd4
          go_simp
          exact hK.out _ _ (HJ.out.put (by omega) (Nat.le_of_ble_eq_true rfl) (slDec_inj (by omega)) (eqi (by rw [IntKind.wrap_i64]; omega)) (fun j u _ h => h) HJ.out.d)
        · have gd5 := hI.good 5 (by omega) (waits_of hi (j := 5) (by rfl))
          clear hi
          refine wpOp_plain rfl rfl ?_
          refine wp_cover (fun K hK => ?_)
          have ed5 : x.tmps[15]?.getD undef = _ := ev_tmp gd5
          have HJ : Hid (Ip _ _ _ _ _ _ _ _) := hI
          clear hI gd5
          go_simp
          exact hK.out _ _ (HJ.out.put (by omega) (Nat.le_of_ble_eq_true rfl) (slDec_inj (by omega)) (equ (by omega) (by omega)) (fun j u _ h => h) HJ.out.d)
        · have gd6 := hI.good 6 (by omega) (waits_of hi (j := 6) (by rfl))
          clear hi
          refine wpOp_plain rfl rfl ?_
          refine wp_cover (fun K hK => ?_)
          have ed6 : x.tmps[16]?.getD undef = _ := ev_tmp gd6
          have hbb := build_byte
          have HJ : Hid (Ip _ _ _ _ _ _ _ _) := hI
          clear hI gd6
          go_simp
          have hb : Below y.heap.size y (y.alloc (.cells #[.int .u8 (48 + ((n % 10 : Nat) : Int))] 5)) := bl_alloc (Below.refl _ _) _
          exact hK.out _ _ (HJ.out.put (by omega) (Nat.le_of_ble_eq_true rfl) (slDec_inj (by omega)) (⟨y.heap.size, rfl, by simp, by simp [go_sem]⟩) (fun j u _ h => GDec.keep hb j u h) (bl_trans HJ.out.d hb))
        · have gd7 := hI.good 7 (by omega) (waits_of hi (j := 7) (by rfl))
          clear hi
          refine wpOp_plain rfl rfl ?_
          refine wp_cover (fun K hK => ?_)
          obtain ⟨g, g1, g2, g3⟩ := gd7
          have ed7 : x.tmps[17]?.getD undef = _ := ev_tmp g1
          have hc := conv_byte_at g (48 + ((n % 10 : Nat) : Int)) y g3
          clear g1
          have HJ : Hid (Ip _ _ _ _ _ _ _ _) := hI
          clear hI
          go_simp
          exact hK.out _ _ (HJ.out.put (by omega) (Nat.le_of_ble_eq_true rfl) (slDec_inj (by omega)) (by rfl) (fun j u _ h => h) HJ.out.d)
        · have gd2 := hI.good 2 (by omega) (waits_of hi (j := 2) (by rfl))
          have gd8 := hI.good 8 (by omega) (waits_of hi (j := 8) (by rfl))
          clear hi
          refine wpOp_plain rfl rfl ?_
          refine wp_cover (fun K hK => ?_)
          have ed2 : x.tmps[12]?.getD undef = _ := ev_tmp gd2
          have ed8 : x.tmps[18]?.getD undef = _ := ev_tmp gd8
          have hs9 := decT_div n hn
          have HJ : Hid (Ip _ _ _ _ _ _ _ _) := hI
          clear hI gd2 gd8
          go_simp
          exact hK.out _ _ (HJ.out.put (by omega) (Nat.le_of_ble_eq_true rfl) (slDec_inj (by omega)) (by show Value.string _ = Value.string _; rw [decT_more h]; simp) (fun j u _ h => h) HJ.out.d)
        · have gd9 := hI.good 9 (by omega) (waits_of hi (j := 9) (by rfl))
          clear hi
          refine wpOp_plain rfl rfl ?_
          refine wp_cover (fun K hK => ?_)
          have ed9 : x.tmps[19]?.getD undef = _ := ev_tmp gd9
          have HJ : Hid (Ip _ _ _ _ _ _ _ _) := hI
          clear hI gd9
          go_simp
          exact hK.out _ _ (HJ.out.put (by omega) (Nat.le_of_ble_eq_true rfl) (slDec_inj (by omega)) (rfl) (fun j u _ h => h) HJ.out.d)
end Go.Proofs.YtgakmkhbnjofhaaGreatDoor
