import Derived.Test.YtkebokkckmgloaaJ27
import Derived.Test.YtkebokkckmgloaaJ21
import Derived.Test.YtkebokkckmgloaaJ16
import Derived.Test.YtkebokkckmgloaaJ17
/- What a fall leaves of runs: the program's side. -/
namespace Go.Proofs.Ytkebokkckmgloaa
open Go.RowKit
set_option linter.unusedVariables false

set_option maxRecDepth 4000 in
set_option maxHeartbeats 1000000 in
theorem filterHolds (a : Option Addr) (cap : Nat) (rs : List RunD) (w : World) (hG : Gv w a rs) (hl : rs.length ≤ 1048576) :
    Calls Try.prog 123 #[.slice a rs.length cap, .func (.func 125) #[] #[]] w fun e w' => (∃ v, e = .returned v ∧ Sl w' v (rs.filter (fun r => !r.h.toList.isEmpty)) w.heap.size) ∧ Below w.heap.size w w' := by
  obtain ⟨i0, hi, hz0, hz1, hz2⟩ := info_parts infoR
  go_enter Try.func123, Try.ntmps123
  go_wp2
  go_loopw [5, 10] (fun v i wx => ∃ (k : Nat), k ≤ rs.length ∧ i = .int .i64 k ∧ wx.ownsRow w.heap.size 38 11 v ((rs.take k).filter (fun r => !r.h.toList.isEmpty)).length (flatR ((rs.take k).filter (fun r => !r.h.toList.isEmpty))) ∧ Below w.heap.size w wx) (fun _ i _ => rs.length - (intOf i).toNat)
  case atStart => exact ⟨0, Nat.zero_le _, rfl, World.ownsRow_nil _ _ _ _, Below.refl _ _⟩
  case round =>
    obtain ⟨k, hk, rfl, hown, hB⟩ := hrel
    by_cases hlt : k < rs.length
    · obtain ⟨b, rfl, l1, hR⟩ := hG.resolve_left (fun h => by rw [h] at hlt; simp at hlt)
      obtain ⟨r, hr⟩ : ∃ r, rs[k]? = some r := ⟨rs[k], List.getElem?_eq_getElem hlt⟩
      have Hr : Hid _ := hr
      obtain ⟨c0, c1, c2, c3, c4, c5, c6, c7, c8, c9, c10⟩ := (hR.keep l1 hB).at hr
      simp only [Nat.zero_add] at c0 c1 c2 c3 c4 c5 c6 c7 c8 c9 c10
      obtain ⟨n, hn⟩ : ∃ n, n = ((rs.take k).filter (fun r => !r.h.toList.isEmpty)).length := ⟨_, rfl⟩
      obtain ⟨xs, hxs⟩ : ∃ xs, xs = flatR ((rs.take k).filter (fun r => !r.h.toList.isEmpty)) := ⟨_, rfl⟩
      have hnk : n ≤ 1048576 := by rw [hn]; exact Nat.le_trans (List.length_filter_le _ _) (by rw [List.length_take]; omega)
      rw [← hn, ← hxs] at hown
      have Ho : Hid _ := hown
      have Hn : Hid _ := hn
      have Hx : Hid _ := hxs
      clear hr hown hn hxs hG
      go_wp2_with fail
      refine (holds_any r _).mono ?_
      rintro e w1 ⟨rfl, hb⟩
      have hB1 := bl_trans (bl_alloc hB _) hb
      have hb2 : Below wr.heap.size wr w1 := bl_trans (bl_alloc (Below.refl _ _) _) hb
      have Ho1 : Hid (w1.ownsRow w.heap.size 38 11 u5 n xs) := owns_below Ho.out hb2
      have kb := box_keep hb
      have kz : wr.heap.size < w1.heap.size := by have := hb.size; simp at this; omega
      have Hb1 : Hid (Below w.heap.size w w1) := hB1
      clear c0 c1 c2 c3 c4 c5 c6 c7 c8 c9 c10 hb hb2 hB1 Ho
      cases hP : !r.h.toList.isEmpty
      · go_wp2
        refine ⟨⟨k + 1, by omega, by go_num, ?_, Hb1.out⟩, by simp [intOf]; omega⟩
        have hr := Hr.out
        rw [filt_no hr (by simp [hP]), ← Hn.out, ← Hx.out]
        exact Ho1.out
      · go_wp2_with (at_builtin; refine wpList_append_own _ rfl _ _ 24 rfl w.heap.size 38 i0 _ 11 104 Try.underlying24 hi hz0 hz1 hz2 rfl (by decide) _ n _ rfl (by exact owns_below Ho1.out (bl_alloc (Below.refl _ _) _)) ⟨_, 0, none⟩ 1 1 r.cells rfl rfl (new_cells _ _ (by simp) _ _ _ rfl) (cellsR_one _) (by unfold maxLen; omega) (by omega) (by have := Hb1.out.size; simp; omega) ?_; intro v' w2 ho2 hg2 hn2)
        refine ⟨⟨k + 1, by omega, by go_num, ?_, Below.grown (bl_alloc Hb1.out _) hg2 (by have := Hb1.out.size; simp; omega) (owns_ge Ho1.out)⟩, by simp [intOf]; omega⟩
        have hr := Hr.out
        rw [filt_yes hr (by simp [hP]), List.length_append, flatR_append, ← Hn.out, ← Hx.out]
        simpa [flatR] using ho2
    · go_wp2
      go_ret
      have hk' : k = rs.length := by omega
      subst hk'
      rw [List.take_of_length_le (Nat.le_refl _)] at hown
      exact ⟨⟨_, rfl, Sl.of_owns hown⟩, hB⟩
end Go.Proofs.Ytkebokkckmgloaa
/- What a fall leaves of runs: the program's side. -/
namespace Go.Proofs.Ytkebokkckmgloaa
open Go.RowKit
set_option linter.unusedVariables false

/-- A run that is no more alive. -/
def killD (r : RunD) : RunD := { r with a := 2, b := 0 }
theorem killD_cells (r : RunD) : (killD r).cells = [.string r.c, .int .i64 r.v, .string r.h, .int .i64 r.p, .int .i64 r.s, .int .i64 r.d, .int .i64 r.g, .int .i64 2, .int .i64 0, .int .i64 r.i, .int .i64 r.u] := rfl

set_option maxRecDepth 4000 in
set_option maxHeartbeats 1000000 in
theorem killed_any (a : Option Addr) (cap : Nat) (rs : List RunD) (w : World) (hG : Gv w a rs) (hl : rs.length ≤ 1048576) :
    Calls Try.prog 124 #[.slice a rs.length cap] w fun e w' => (∃ v, e = .returned v ∧ Sl w' v (rs.map killD) w.heap.size) ∧ Below w.heap.size w w' := by
  obtain ⟨C, hC, hmk⟩ := make_runs rs.length hl
  have hinfo : (Try.prog.info? 38).map (·.size) = some 11 := by kernel_rfl
  go_enter Try.func124, Try.ntmps124
  go_wp2
  go_loopw [11] (fun i wx => ∃ (k : Nat), k ≤ rs.length ∧ i = .int .i64 k ∧ RowsAt wx w.heap.size 0 ((rs.map killD).take k) ∧ wx.there w.heap.size 0 (rs.length * 11) ∧ w.heap.size < wx.heap.size ∧ Below w.heap.size w wx) (fun i _ => rs.length - (intOf i).toNat)
  case atStart => exact ⟨0, Nat.zero_le _, rfl, fun k r h => by simp at h, there_new hC, by simp, bl_alloc (Below.refl _ _) _⟩
  case round =>
    obtain ⟨k, hk, rfl, hrows, hth, hgz, hB⟩ := hrel
    clear hmk
    by_cases hlt : k < rs.length
    · obtain ⟨b, rfl, l1, hR⟩ := hG.resolve_left (fun h => by rw [h] at hlt; simp at hlt)
      obtain ⟨r, hr⟩ : ∃ r, rs[k]? = some r := ⟨rs[k], List.getElem?_eq_getElem hlt⟩
      obtain ⟨c0, c1, c2, c3, c4, c5, c6, c7, c8, c9, c10⟩ := (hR.keep l1 hB).at hr
      simp only [Nat.zero_add] at c0 c1 c2 c3 c4 c5 c6 c7 c8 c9 c10
      have Hr : Hid ((rs.map killD)[k]? = some (killD r)) := by show _ = _; rw [List.getElem?_map, hr]; rfl
      clear hr hG
      go_wp2_with (first | (go_at_call 80; refine (runOf_any r.c r.h r.v r.p r.s r.d r.g r.a r.b r.i r.u _).mono ?_; rintro e w' ⟨rfl, rfl⟩) | (go_at_call 149; refine (waiting_any r.c r.h r.v r.p r.s r.d r.g r.a r.b r.i r.u _).mono ?_; rintro e w' ⟨rfl, rfl⟩))
      refine (told_any r.c r.h r.v r.p r.s r.d r.g 2 0 r.i r.u _).mono ?_
      rintro e w1 ⟨rfl, hw1⟩
      have hb2 : Below wr.heap.size wr w1 := by rw [hw1]; repeat (first | exact Below.refl _ _ | refine bl_alloc ?_ _)
      clear hw1 c0 c1 c2 c3 c4 c5 c6 c7 c8 c9 c10
      have hth1 := there_keep hth hgz hb2
      have hrows1 := hrows.keep hgz hb2
      have hB1 := bl_trans hB hb2
      have hgz1 : w.heap.size < w1.heap.size := Nat.lt_of_lt_of_le hgz hb2.size
      clear hth hrows hB hb2
      go_wp2_with (refine wpList_store_mid (by rfl) 38 _ _ (by rfl) w.heap.size (k * 11) #[.string r.c, .int .i64 r.v, .string r.h, .int .i64 r.p, .int .i64 r.s, .int .i64 r.d, .int .i64 r.g, .int .i64 2, .int .i64 0, .int .i64 r.i, .int .i64 r.u] (by rfl) (by rfl) (by exact there_part hth1 hlt) hinfo (by simp [Value.oneCell']) ?_)
      have hrs := rows_step Hr.out hrows1 (there_part hth1 hlt)
      rw [killD_cells] at hrs
      exact ⟨⟨k + 1, by omega, by go_num, hrs, World.there_setCells hth1 _ _ _, by rw [size_cells]; exact hgz1, bl_cells (Nat.le_refl _) _ _ _ hB1⟩, by simp [intOf]; omega⟩
    · go_wp2
      go_ret
      have e : (rs.map killD).take k = rs.map killD := List.take_of_length_le (by rw [List.length_map]; omega)
      rw [e] at hrows
      exact ⟨⟨.slice (some ⟨w.heap.size, 0, none⟩) rs.length rs.length, rfl, Or.inr ⟨w.heap.size, rs.length, by rw [List.length_map], Nat.le_refl _, hgz, hrows, by rw [List.length_map]; exact hth⟩⟩, hB⟩
end Go.Proofs.Ytkebokkckmgloaa
/- MateRise: what it answers. -/
namespace Go.Proofs.Ytkebokkckmgloaa
open Go.RowKit
set_option linter.unusedVariables false

/-- What a mate is that rose. -/
def Rises (m r : MateD) : Prop := (Valid m ∧ r = { m with up := m.up || decide (m.ck < 1000000) }) ∨ (¬ Valid m ∧ r = zeroD)
theorem Rises.one {m r r' : MateD} (h : Rises m r) (h' : Rises m r') : r = r' := by
  rcases h with ⟨h1, rfl⟩ | ⟨h1, rfl⟩ <;> rcases h' with ⟨h2, rfl⟩ | ⟨h2, rfl⟩
  · rfl
  · exact (h2 h1).elim
  · exact (h1 h2).elim
  · rfl
theorem SlM.rise {w : World} {m : MateD} {s1 s2 s3 s4 : Value} {B : Nat} {u : Bool} (h : SlM w m s1 s2 s3 s4 B) : SlM w { m with up := u } s1 s2 s3 s4 B :=
  ⟨h.a1, h.a2, h.a3, h.a4, h.d12, h.d13, h.d14, h.d23, h.d24, h.d34⟩
theorem rises_up {m : MateD} (hv : Valid m) (hc : m.ck < 1000000) : Rises m { m with up := true } := Or.inl ⟨hv, by simp [hc]⟩
theorem rises_stay {m : MateD} (hv : Valid m) (hc : ¬ m.ck < 1000000) : Rises m { m with up := m.up } := Or.inl ⟨hv, by simp [hc]⟩

end Go.Proofs.Ytkebokkckmgloaa
/- MateFall: the program's side. -/
namespace Go.Proofs.Ytkebokkckmgloaa
open Go.RowKit
set_option linter.unusedVariables false

/-- What a fall leaves of runs. -/
def fallR (mach : Bool) (rs : List RunD) : List RunD := if mach = true then ((rs.filter (fun r => aliveB r.a)).filter (fun r => !r.h.toList.isEmpty)).map killD else rs.filter (fun r => aliveB r.a)
theorem fallR_len (mach : Bool) (rs : List RunD) : (fallR mach rs).length ≤ rs.length := by
  unfold fallR
  split
  · rw [List.length_map]; exact Nat.le_trans (List.length_filter_le _ _) (List.length_filter_le _ _)
  · exact List.length_filter_le _ _
def fellD (mach : Bool) (m : MateD) : MateD := ⟨m.nm, false, m.ck, false, 0, [], fallR mach m.rs, [], []⟩
def Falls (mach : Bool) (m r : MateD) : Prop := (Valid m ∧ r = fellD mach m) ∨ (¬ Valid m ∧ r = zeroD)
theorem Falls.one {mach : Bool} {m r r' : MateD} (h : Falls mach m r) (h' : Falls mach m r') : r = r' := by
  rcases h with ⟨h1, rfl⟩ | ⟨h1, rfl⟩ <;> rcases h' with ⟨h2, rfl⟩ | ⟨h2, rfl⟩
  · rfl
  · exact (h2 h1).elim
  · exact (h1 h2).elim
  · rfl
theorem fell_one (m : MateD) (a : Option Addr) (n p : Nat) : ∀ u ∈ ([.string m.nm, .bool false, .int .i64 m.ck, .bool false, .int .i64 0, .slice none 0 0, .slice a n p, .slice none 0 0, .slice none 0 0] : List Value), u.oneCell' = true := by
  intro u hu
  simp only [List.mem_cons, List.not_mem_nil, or_false] at hu
  rcases hu with rfl | rfl | rfl | rfl | rfl | rfl | rfl | rfl | rfl <;> rfl
theorem dif_none (a : Value) : Dif a (.slice none 0 0) := by
  cases h : a.ownBlock with
  | none => exact Or.inl h
  | some g => exact Or.inr (by rw [h]; simp [Value.ownBlock])
theorem slm_fell {w : World} {mach : Bool} {m : MateD} {s : Value} {B : Nat} (h : Sl w s (fallR mach m.rs) B) : SlM w (fellD mach m) (.slice none 0 0) s (.slice none 0 0) (.slice none 0 0) B :=
  ⟨Or.inl ⟨rfl, rfl⟩, h, Or.inl ⟨rfl, rfl⟩, Or.inl ⟨rfl, rfl⟩, Or.inl rfl, Or.inl rfl, Or.inl rfl, dif_none _, dif_none _, Or.inl rfl⟩
theorem Sl.exb {w w' : World} {v : Value} {l : List RunD} {B k : Nat} (h : Sl w v l B) (he : Ex k w w') (hk : k < B) : Sl w' v l B :=
  h.grown (ex_grown he) (ob_ne (N := k) (fun g hg => Nat.lt_of_lt_of_le hk (h.lt g hg).1) (Nat.le_refl _))

end Go.Proofs.Ytkebokkckmgloaa
/- MateFall: the specification's side. -/
namespace Go.Proofs.Ytkebokkckmgloaa
open Go.RowKit
set_option linter.unusedVariables false

theorem Sc.off {P : Nat → Prop} {w x y : World} {O : Array Value} (h : Sc w O x) (ho : Off P x y) (hP : ∀ j, P j → w.heap.size + 1 < j) : Sc w O y := by
  have hf := h.f
  have h0 : ¬ P w.heap.size := fun hp => by have := hP _ hp; omega
  have h1 : ¬ P (w.heap.size + 1) := fun hp => by have := hP _ hp; omega
  have hb0 := ho.block w.heap.size (by omega) h0
  have hb1 := ho.block (w.heap.size + 1) hf h1
  refine ⟨fun k => (World.cell?_of_block (w := x) (a := ⟨w.heap.size, k, none⟩) hb0).trans (h.b k), fun k => (World.frozen?_of_block (w := x) (a := ⟨w.heap.size, k, none⟩) hb0).trans (h.c k), fun j hj => ⟨by rw [World.cell?_of_block (w := x) (a := ⟨w.heap.size + 1, 0 + j, none⟩) hb1]; exact (h.d j hj).1, by rw [World.frozen?_of_block (w := x) (a := ⟨w.heap.size + 1, 0 + j, none⟩) hb1]; exact (h.d j hj).2⟩, h.e.trans (ho.below (fun j hj => by have := hP j hj; omega) h.e.size), Nat.lt_of_lt_of_le hf ho.size⟩
/-- While the runs are gone through: the mate that is built lies in block bx. -/
structure Fs (w : World) (O : Array Value) (m : MateD) (bx : Nat) (v : Value) (x : World) : Prop where
  s : Sc w O x
  b : ∀ k, x.cell? ⟨bx, k, none⟩ = (#[.string m.nm, .bool false, .int .i64 m.ck, .bool false, .int .i64 0, .slice none 0 0, v, .slice none 0 0, .slice none 0 0] : Array Value)[k]?
  c : ∀ k, x.frozen? ⟨bx, k, none⟩ = false
  l : bx < x.heap.size
  lw : w.heap.size + 1 < bx
theorem Fs.off {P : Nat → Prop} {w x y : World} {O : Array Value} {m : MateD} {bx : Nat} {v : Value} (h : Fs w O m bx v x) (ho : Off P x y) (hP : ∀ j, P j → bx < j) : Fs w O m bx v y := by
  have hlw := h.lw
  have hb := ho.block bx h.l (fun hp => by have := hP _ hp; omega)
  exact ⟨h.s.off ho (fun j hj => by have := hP j hj; omega), fun k => (World.cell?_of_block (w := x) (a := ⟨bx, k, none⟩) hb).trans (h.b k), fun k => (World.frozen?_of_block (w := x) (a := ⟨bx, k, none⟩) hb).trans (h.c k), Nat.lt_of_lt_of_le h.l ho.size, hlw⟩
theorem Fs.below {w x y : World} {O : Array Value} {m : MateD} {bx : Nat} {v : Value} (h : Fs w O m bx v x) (hb : Below x.heap.size x y) : Fs w O m bx v y :=
  h.off (P := fun _ => False) (Off.of_below hb) (fun j hj => hj.elim)
theorem Fs.set {w x : World} {O : Array Value} {m : MateD} {bx : Nat} {v v' : Value} (h : Fs w O m bx v x) : Fs w O m bx v' (x.setCell ⟨bx, 6, none⟩ v') := by
  have he : Ex bx x (x.setCell ⟨bx, 6, none⟩ v') := (Ex.refl _ _).set 6 v'
  have hlw := h.lw
  have ho : Off (fun j => j = bx) x (x.setCell ⟨bx, 6, none⟩ v') := ⟨he.os, he.tape, he.output, he.size, fun i hi hn => he.block i hi hn⟩
  refine ⟨h.s.off ho (fun j hj => by subst hj; exact hlw), fun k => ?_, fun k => by rw [World.frozen?_setCell]; exact h.c k, Nat.lt_of_lt_of_le h.l he.size, hlw⟩
  by_cases e : k = 6
  · subst e
    exact World.cell?_setCell_same _ _ _ (h.b 6)
  · rw [World.cell?_setCell_other _ _ _ _ (fun h' => e (by have := congrArg Addr.off h'; exact this.symm)), h.b k]
    match k, e with
    | 0, _ => rfl
    | 1, _ => rfl
    | 2, _ => rfl
    | 3, _ => rfl
    | 4, _ => rfl
    | 5, _ => rfl
    | 7, _ => rfl
    | 8, _ => rfl
    | (n + 9), _ => rfl
theorem fs_new {w x : World} {O : Array Value} {m : MateD} (h : Sc w O x) : Fs w O m x.heap.size (.slice none 0 0) (x.alloc (.cells #[.string m.nm, .bool false, .int .i64 m.ck, .bool false, .int .i64 0, .slice none 0 0, .slice none 0 0, .slice none 0 0, .slice none 0 0] 27)) :=
  ⟨h.below (bl_alloc (Below.refl _ _) _), fun k => by simp [go_sem], fun k => by simp [go_sem], by simp, h.f⟩
theorem fell_four (m : MateD) (a1 a6 a3 a4 : Option Addr) (n p1 p6 p3 p4 : Nat) : ∀ u ∈ ([.string m.nm, .bool false, .int .i64 m.ck, .bool false, .int .i64 0, .slice a1 0 p1, .slice a6 n p6, .slice a3 0 p3, .slice a4 0 p4] : List Value), u.oneCell' = true := by
  intro u hu
  simp only [List.mem_cons, List.not_mem_nil, or_false] at hu
  rcases hu with rfl | rfl | rfl | rfl | rfl | rfl | rfl | rfl | rfl <;> rfl
theorem owns_shape {x : World} {base : Nat} {e : TypeId} {size : Nat} {v : Value} {n : Nat} {xs : List Value} (h : x.ownsRow base e size v n xs) : ∃ a p, v = .slice a n p := by
  rcases h.2 with ⟨h1, h2⟩ | ⟨g, cap, cur, h1, -⟩
  · subst h2; exact ⟨none, 0, h1⟩
  · exact ⟨_, _, h1⟩
theorem owns_ex {x y : World} {base k : Nat} {e : TypeId} {size : Nat} {v : Value} {n : Nat} {xs : List Value} (h : x.ownsRow base e size v n xs) (he : Ex k x y) (hk : k < base) : y.ownsRow base e size v n xs :=
  ⟨h.1, h.2.imp id (fun ⟨g, cap, cur, h1, h2, h3, h4⟩ => ⟨g, cap, cur, h1, h2, by
    have hg : g < x.heap.size := by
      rcases Nat.lt_or_ge g x.heap.size with h' | h'
      · exact h'
      · rw [Array.getElem?_eq_none h'] at h3; cases h3
    rw [he.block g hg (by omega)]; exact h3, h4⟩)⟩
theorem fallR_step {mach : Bool} {rs : List RunD} {k : Nat} {r : RunD} (hr : rs[k]? = some r) : fallR mach (rs.take (k + 1)) = fallR mach (rs.take k) ++ fallR mach [r] := by
  have hlt : k < rs.length := (List.getElem?_eq_some_iff.1 hr).1
  have he : rs[k] = r := by rw [List.getElem?_eq_getElem hlt] at hr; exact Option.some.inj hr
  rw [List.take_succ_eq_append_getElem hlt, he]
  unfold fallR
  split <;> simp only [List.filter_append, List.map_append]
theorem fallR_none {mach : Bool} {rs : List RunD} {k : Nat} {r : RunD} (hr : rs[k]? = some r) (h : fallR mach [r] = []) : fallR mach (rs.take (k + 1)) = fallR mach (rs.take k) := by rw [fallR_step hr, h, List.append_nil]

end Go.Proofs.Ytkebokkckmgloaa
