import Derived.Test.YtefiiobdlfdbjaaGreatDoorJ32
import Derived.Test.YtefiiobdlfdbjaaGreatDoorJ24
import Derived.Test.YtefiiobdlfdbjaaGreatDoorJ19
import Derived.Test.YtefiiobdlfdbjaaGreatDoorJ09
/- The specification's put: stretches of a row of places; where a place goes. -/
namespace Go.Proofs.YtefiiobdlfdbjaaGreatDoor
open Go.RowKit Go.Maps Go.WideMaps
set_option linter.unusedVariables false

theorem addr_add (g o n : Nat) : (⟨g, o, none⟩ : Addr).add n = ⟨g, o + n, none⟩ := by
  unfold Addr.add
  split
  · subst_vars; rfl
  · rfl
/-- A stretch of a row of places. -/
def Rst (w : World) (v : Value) (l : List Pr.PlRaw) : Prop := ∃ a c, v = .slice a l.length c ∧ ((a = none ∧ c = 0 ∧ l = []) ∨ ∃ g o : Nat, a = some ⟨g, o, none⟩ ∧ g < w.heap.size ∧ ∀ j u, (Pr.flatR l)[j]? = some u → w.cell? ⟨g, o + j, none⟩ = some u)
theorem Rst.keep {w w' : World} {v : Value} {l : List Pr.PlRaw} (h : Rst w v l) (hb : Below w.heap.size w w') : Rst w' v l := by
  obtain ⟨a, c, h1, h⟩ := h
  refine ⟨a, c, h1, ?_⟩
  rcases h with h | ⟨g, o, h2, h3, h4⟩
  · exact Or.inl h
  · exact Or.inr ⟨g, o, h2, Nat.lt_of_lt_of_le h3 hb.size, fun j u hj => (hb.cell (p := ⟨g, o + j, none⟩) h3).trans (h4 j u hj)⟩
theorem flat_cellsP {w : World} {g : Nat} {l : List Pr.PlRaw} (h : Pr.RowsAt w g 0 l) : ∀ j u, (Pr.flatR l)[j]? = some u → w.cell? ⟨g, j, none⟩ = some u := by
  intro j u hj
  have hlt : j < l.length * 3 := by
    rw [← Pr.flatR_len]
    exact (List.getElem?_eq_some_iff.1 hj).1
  have hk : j / 3 < l.length := by omega
  have h1 := Pr.flatR_at l (j / 3) l[j / 3] (List.getElem?_eq_getElem hk) (j % 3) (by omega)
  rw [show j / 3 * 3 + j % 3 = j from by omega, hj] at h1
  have h2 := h (j / 3) l[j / 3] (List.getElem?_eq_getElem hk) (j % 3) u h1.symm
  rw [show 0 + j / 3 * 3 + j % 3 = j from by omega] at h2
  exact h2
theorem flat_drop (l : List Pr.PlRaw) (k j : Nat) : (Pr.flatR (l.drop k))[j]? = (Pr.flatR l)[k * 3 + j]? := by
  induction l generalizing k with
  | nil => simp [Pr.flatR]
  | cons r l ih =>
    cases k with
    | zero => simp
    | succ k =>
      rw [List.drop_succ_cons, ih k]
      show _ = (r.cells ++ Pr.flatR l)[_]?
      rw [List.getElem?_append_right (by show 3 ≤ _; omega)]
      show _ = (Pr.flatR l)[(k + 1) * 3 + j - 3]?
      rw [show (k + 1) * 3 + j - 3 = k * 3 + j from by omega]
theorem flat_app (l m : List Pr.PlRaw) : Pr.flatR (l ++ m) = Pr.flatR l ++ Pr.flatR m := by simp [Pr.flatR]
theorem flat_take (l : List Pr.PlRaw) (k j : Nat) (u : Value) (h : (Pr.flatR (l.take k))[j]? = some u) : (Pr.flatR l)[j]? = some u := by
  have e : Pr.flatR l = Pr.flatR (l.take k) ++ Pr.flatR (l.drop k) := by
    rw [← flat_app, List.take_append_drop]
  rw [e, List.getElem?_append_left (List.getElem?_eq_some_iff.1 h).1]
  exact h
theorem rst_from {w : World} {a : Option Addr} {n p B k : Nat} {l : List Pr.PlRaw} (h : Pr.Sl w (.slice a n p) l B) (hn : l.length = n) (hp : n ≤ p) (hk : k ≤ n) : Rst w (sliced a k n p 3) (l.drop k) := by
  rcases h with ⟨h1, rfl⟩ | ⟨g, cap, h1, h2, h3, h4, h5⟩
  · injection h1 with e1 e2 e3
    subst e1 e2 e3
    refine ⟨none, 0, ?_, Or.inl ⟨rfl, rfl, by simp⟩⟩
    unfold sliced
    simp
  · injection h1 with e1 e2 e3
    subst e1 e3
    unfold sliced
    by_cases e : p = k
    · have e0 : l.drop k = [] := List.drop_of_length_le (by omega)
      rw [if_pos e, e0]
      exact ⟨_, p - k, by rw [show n - k = 0 from by omega]; rfl, Or.inr ⟨g, 0, rfl, h3, fun j u hj => by simp [Pr.flatR] at hj⟩⟩
    · rw [if_neg e, Option.map_some, addr_add]
      refine ⟨_, p - k, by rw [List.length_drop, hn], Or.inr ⟨g, 0 + k * 3, rfl, h3, fun j u hj => ?_⟩⟩
      rw [flat_drop] at hj
      have := flat_cellsP h4 _ u hj
      rw [Nat.zero_add]
      exact this
theorem rst_to {w : World} {a : Option Addr} {n p B k : Nat} {l : List Pr.PlRaw} (h : Pr.Sl w (.slice a n p) l B) (hn : l.length = n) (hp : n ≤ p) (hk : k ≤ n) : Rst w (sliced a 0 k p 3) (l.take k) := by
  rcases h with ⟨h1, rfl⟩ | ⟨g, cap, h1, h2, h3, h4, h5⟩
  · injection h1 with e1 e2 e3
    subst e1 e2 e3
    have : k = 0 := by simpa using hk
    subst this
    exact ⟨none, 0, rfl, Or.inl ⟨rfl, rfl, rfl⟩⟩
  · injection h1 with e1 e2 e3
    subst e1 e3
    have ea : (if p = 0 then some (⟨g, 0, none⟩ : Addr) else Option.map (·.add (0 * 3)) (some (⟨g, 0, none⟩ : Addr))) = some (⟨g, 0, none⟩ : Addr) := by
      split <;> rfl
    unfold sliced
    rw [ea]
    exact ⟨_, p - 0, by rw [List.length_take, hn, Nat.min_eq_left hk]; rfl, Or.inr ⟨g, 0, rfl, h3, fun j u hj => by rw [Nat.zero_add]; exact flat_cellsP h4 j u (flat_take l k j u hj)⟩⟩
theorem rst_tail {w : World} {a : Option Addr} {n p B k : Nat} {l : List Pr.PlRaw} (h : Pr.Sl w (.slice a n p) l B) (hn : l.length = n) (hp : n ≤ p) (hk : k < n) {g : Nat} (ha : a = some ⟨g, 0, none⟩) : Rst w (sliced (some ⟨g, k * 3, none⟩) 1 (n - k) (p - k) 3) (l.drop (k + 1)) := by
  subst ha
  rcases h with ⟨h1, rfl⟩ | ⟨g', cap, h1, h2, h3, h4, h5⟩
  · simp at hn; omega
  · injection h1 with e1 e2 e3
    have eg : g = g' := by simpa using e1
    subst eg
    unfold sliced
    by_cases e : p - k = 1
    · have e0 : l.drop (k + 1) = [] := List.drop_of_length_le (by omega)
      rw [if_pos e, e0]
      exact ⟨_, p - k - 1, by rw [show n - k - 1 = 0 from by omega]; rfl, Or.inr ⟨g, k * 3, rfl, h3, fun j u hj => by simp [Pr.flatR] at hj⟩⟩
    · rw [if_neg e, Option.map_some, addr_add]
      refine ⟨_, p - k - 1, by rw [List.length_drop, hn]; rfl, Or.inr ⟨g, k * 3 + 1 * 3, rfl, h3, fun j u hj => ?_⟩⟩
      rw [flat_drop] at hj
      have := flat_cellsP h4 _ u hj
      rw [show k * 3 + 1 * 3 + j = (k + 1) * 3 + j from by omega]
      exact this
theorem run_from (a : Option Addr) (n p k : Nat) (hk : k ≤ n) (wx : World) : Sem.run Tryz.prog (Instr.slice 30 (.slice a n p) (some (.int .i64 (k : Int))) none none) wx = .ok (sliced a k n p 3) wx := by
  have hu : Tryz.prog.underlying 30 = some (.slice (Tryz.prog.elem 30)) := by kernel_rfl
  have hz : (sizeOf (Tryz.prog.elem 30)).run Tryz.prog wx = .ok 3 wx := by kernel_rfl
  rw [run_slice_l wx 30 a n p hu .i64 (k : Int) (by omega) (by omega), hz]
  rfl
theorem run_to (a : Option Addr) (n p k : Nat) (hk : k ≤ p) (wx : World) : Sem.run Tryz.prog (Instr.slice 30 (.slice a n p) none (some (.int .i64 (k : Int))) none) wx = .ok (sliced a 0 k p 3) wx := by
  have hu : Tryz.prog.underlying 30 = some (.slice (Tryz.prog.elem 30)) := by kernel_rfl
  have hz : (sizeOf (Tryz.prog.elem 30)).run Tryz.prog wx = .ok 3 wx := by kernel_rfl
  rw [run_slice_h wx 30 a n p hu .i64 (k : Int) (by omega) (by omega), hz]
  rfl
/-- Where the place goes; what is left of the places behind it; its version. -/
def CutAt (b : ByteArray) (qs : List P.PlaceD) (k k' : Nat) (sv : Int) : Prop :=
  k ≤ qs.length ∧ (∀ (j : Nat) q, j < k → qs[j]? = some q → Op.bytesLess q.b.toList b.toList = true) ∧
    ((k' = k ∧ sv = 1 ∧ ∀ q, qs[k]? = some q → Op.bytesLess q.b.toList b.toList = false ∧ (q.b.toList == b.toList) = false) ∨ ∃ q, qs[k]? = some q ∧ Op.bytesLess q.b.toList b.toList = false ∧ (q.b.toList == b.toList) = true ∧ k' = k + 1 ∧ sv = q.s + 1)
theorem cut_put {b : ByteArray} {qs : List P.PlaceD} {k k' : Nat} {sv : Int} (hs : Ord.Srt keyP qs) (h : CutAt b qs k k' sv) (av : Option Addr) (cv : Nat) (ws : List W.WantD) :
    qs.take k ++ ⟨b, sv, av, cv, ws⟩ :: qs.drop k' = putP b av cv ws qs := by
  obtain ⟨hk, hlt, h⟩ := h
  have hL : ∀ q : P.PlaceD, Op.bytesLess q.b.toList b.toList = bytesBefore (keyP q) b.data.toList := fun q => by
    rw [Ord.less_before, ByteArray.toList_eq, ByteArray.toList_eq]; rfl
  have hE : ∀ q : P.PlaceD, (q.b.toList == b.toList) = true ↔ q.b = b := fun q => by
    rw [ByteArray.toList_eq, ByteArray.toList_eq, beq_iff_eq]
    constructor
    · intro e
      have : q.b.data = b.data := by
        rw [← Array.toList_inj]; exact e
      cases hq : q.b; cases hb : b; rw [hq, hb] at this; simp at this; rw [this]
    · intro e; rw [e]
  have sev : sv = seenOf b qs + 1 := by
    rcases h with ⟨rfl, rfl, hn⟩ | ⟨q, hq, -, he, rfl, rfl⟩
    · rw [seen_none]
      · rfl
      · intro p hp e
        obtain ⟨j, hj⟩ := List.getElem?_of_mem hp
        rcases Nat.lt_trichotomy j k' with h1 | h1 | h1
        · have := hlt j p h1 hj
          rw [hL] at this
          exact Ord.before_ne this (by unfold keyP; rw [e])
        · subst h1
          have := (hn p hj).2
          rw [(hE p).2 e] at this
          cases this
        · have hjl := (List.getElem?_eq_some_iff.1 hj).1
          obtain ⟨q, hq⟩ : ∃ q, qs[k']? = some q := ⟨qs[k']'(by omega), List.getElem?_eq_getElem _⟩
          obtain ⟨h2, h3⟩ := hn q hq
          rw [hL] at h2
          have h4 : bytesBefore (keyP q) (keyP p) = true := by
            obtain ⟨a1, rfl⟩ := List.getElem?_eq_some_iff.1 hq
            obtain ⟨a2, rfl⟩ := List.getElem?_eq_some_iff.1 hj
            exact List.pairwise_iff_getElem.1 hs k' j a1 a2 h1
          have e2 : keyP p = b.data.toList := by unfold keyP; rw [e]
          rw [e2] at h4
          rw [h4] at h2
          cases h2
    · rw [seen_of_mem hs (List.mem_of_getElem? hq) ((hE q).1 he)]
  unfold putP
  rw [Ord.insS_cut keyP _ qs k hk (fun j y hj hy => by have := hlt j y hj hy; rw [hL] at this; exact this) (fun y hy => by
    rcases h with ⟨-, -, hn⟩ | ⟨q, hq, hl, -⟩
    · have := (hn y hy).1; rw [hL] at this; exact this
    · rw [hq] at hy; cases hy; rw [hL] at hl; exact hl), ← sev]
  congr 1
  congr 1
  rcases h with ⟨rfl, -, hn⟩ | ⟨q, hq, -, he, rfl, -⟩
  · cases hq : qs[k']? with
    | none => simp only; rw [List.drop_of_length_le (List.getElem?_eq_none_iff.1 hq)]
    | some q =>
      simp only
      rw [if_neg]
      intro e
      have h1 : bytesBefore (keyP q) b.data.toList = bytesBefore (keyP q) b.data.toList := rfl
      have := (hn q hq).2
      rw [(hE q).2 (by
        have e' : q.b.data.toList = b.data.toList := e
        have : q.b.data = b.data := by rw [← Array.toList_inj]; exact e'
        cases hq : q.b; cases hb : b; rw [hq, hb] at this; simp at this; rw [this])] at this
      cases this
  · rw [hq]
    simp only
    rw [if_pos]
    show keyP q = b.data.toList
    unfold keyP
    rw [(hE q).1 he]
/-- The book with the place in it. -/
theorem ldo_cut {x y z : World} {B Z : Nat} {gs : List G.GrantD} {qs : List P.PlaceD} {s1 s2 sv : Value} {k k' : Nat} {np : P.PlaceD} (h : LdO x B gs qs s1 s2) (hb : Below x.heap.size x y) (hv : W.Sl y (.slice np.a np.ws.length np.c) np.ws x.heap.size) (hyz : Below y.heap.size y z) (hZ : y.heap.size ≤ Z) (hk : k ≤ k') (hkl : k ≤ qs.length) (hBx : B ≤ x.heap.size)
    (ho : OQ Z ((qs.take k ++ np :: qs.drop k').map Pr.raw) z sv) : LdO z B gs (qs.take k ++ np :: qs.drop k') s1 sv := by
  have H := h.keep (bl_trans hb hyz)
  have hbs := hb.size
  have hso := oq_sl ho
  have hsv : ∀ g, sv.ownBlock = some g → Z ≤ g := fun g hg => (hso.lt g hg).1
  have hnew : ∀ g, (Value.slice np.a np.ws.length np.c).ownBlock = some g → x.heap.size ≤ g ∧ g < y.heap.size := hv.lt
  have hold : ∀ {j : Nat} {r : P.PlaceD} {g : Nat}, qs[j]? = some r → (Value.slice r.a r.ws.length r.c).ownBlock = some g → B ≤ g ∧ g < x.heap.size := fun hr hg => (h.p.k _ _ hr).lt _ hg
  have cs : ∀ {j : Nat} {r : P.PlaceD}, (qs.take k ++ np :: qs.drop k')[j]? = some r → (j < k ∧ qs[j]? = some r) ∨ (j = k ∧ r = np) ∨ (k < j ∧ qs[k' + (j - k - 1)]? = some r) := by
    intro j r hr
    have hlt : (qs.take k).length = k := by rw [List.length_take]; omega
    rcases Nat.lt_trichotomy j k with hj | hj | hj
    · rw [List.getElem?_append_left (by omega), List.getElem?_take_of_lt hj] at hr; exact Or.inl ⟨hj, hr⟩
    · subst hj
      rw [List.getElem?_append_right (by omega), hlt, Nat.sub_self, List.getElem?_cons_zero] at hr
      exact Or.inr (Or.inl ⟨rfl, (Option.some.inj hr).symm⟩)
    · rw [List.getElem?_append_right (by omega), hlt, show j - k = (j - k - 1) + 1 from by omega, List.getElem?_cons_succ, List.getElem?_drop] at hr
      exact Or.inr (Or.inr ⟨hj, hr⟩)
  refine ⟨H.g, ⟨hso.low (by omega), fun j r hr => ?_, fun j r g hr hg e => ?_, fun i j r s g hij hr hs hg e => ?_⟩, ?_⟩
  · rcases cs hr with ⟨-, hr⟩ | ⟨-, rfl⟩ | ⟨-, hr⟩
    · exact H.p.k _ r hr
    · exact sl_lowW (hv.keep hyz) hBx
    · exact H.p.k _ r hr
  · have h1 := hsv g e
    rcases cs hr with ⟨-, hr⟩ | ⟨-, rfl⟩ | ⟨-, hr⟩
    · have := hold hr hg; omega
    · have := hnew g hg; omega
    · have := hold hr hg; omega
  · rcases cs hr with ⟨i1, hr1⟩ | ⟨i1, er⟩ | ⟨i1, hr1⟩ <;> rcases cs hs with ⟨j1, hs1⟩ | ⟨j1, es⟩ | ⟨j1, hs1⟩
    · exact h.p.dif i j r s g hij hr1 hs1 hg e
    · rw [es] at e; have := hold hr1 hg; have := hnew g e; omega
    · exact h.p.dif i _ r s g (by omega) hr1 hs1 hg e
    · omega
    · omega
    · rw [er] at hg; have := hnew g hg; have := hold hs1 e; omega
    · omega
    · omega
    · exact h.p.dif _ _ r s g (by omega) hr1 hs1 hg e
  · rintro g hg (e | ⟨j, r, hr, e⟩)
    · have h1 := hsv g e
      have h2 := h.g.lt g hg
      omega
    · rcases cs hr with ⟨-, hr⟩ | ⟨-, rfl⟩ | ⟨-, hr⟩
      · exact h.gp g hg (Or.inr ⟨_, r, hr, e⟩)
      · have h1 := hnew g e
        have h2 := h.g.lt g hg
        omega
      · exact h.gp g hg (Or.inr ⟨_, r, hr, e⟩)
theorem bs_cut {x y z : World} {B Z : Nat} {gs : List G.GrantD} {qs : List P.PlaceD} {s1 s2 sv : Value} {k k' : Nat} {np : P.PlaceD} (hv : W.Sl y (.slice np.a np.ws.length np.c) np.ws x.heap.size) (hxy : x.heap.size ≤ y.heap.size) (hZ : y.heap.size ≤ Z)
    (ho : OQ Z ((qs.take k ++ np :: qs.drop k').map Pr.raw) z sv) : ∀ g, LdO.bs (qs.take k ++ np :: qs.drop k') s1 sv g → LdO.bs qs s1 s2 g ∨ x.heap.size ≤ g := by
  rintro g (hg | hg | ⟨j, r, hr, hg⟩)
  · exact Or.inl (Or.inl hg)
  · have := ((oq_sl ho).lt g hg).1
    exact Or.inr (by omega)
  · have hm := List.mem_of_getElem? hr
    rcases List.mem_append.1 hm with h | h
    · obtain ⟨i, hi⟩ := List.getElem?_of_mem (List.mem_of_mem_take h)
      exact Or.inl (Or.inr (Or.inr ⟨i, r, hi, hg⟩))
    · rcases List.mem_cons.1 h with rfl | h
      · exact Or.inr (hv.lt g hg).1
      · obtain ⟨i, hi⟩ := List.getElem?_of_mem (List.mem_of_mem_drop h)
        exact Or.inl (Or.inr (Or.inr ⟨i, r, hi, hg⟩))
theorem ldo_landx {w : World} {B : Nat} {gs : List G.GrantD} {qs : List P.PlaceD} {a1 a2 : Option Addr} {c1 c2 n1 n2 : Nat} (hL : LdO w B gs qs (.slice a1 n1 c1) (.slice a2 n2 c2)) : P.LandX w gs qs a1 a2 := by
  refine ⟨?_, ?_, fun r hr => ?_⟩
  · rcases hL.g with ⟨h1, h2⟩ | ⟨g, cap, h1, h2, h3, h4, h5⟩
    · exact Or.inl h2
    · injection h1 with e1 e2 e3
      exact Or.inr ⟨g, e1, h3, h4⟩
  · rcases hL.p.o with ⟨h1, h2⟩ | ⟨g, cap, h1, h2, h3, h4, h5⟩
    · exact Or.inl (List.map_eq_nil_iff.1 h2)
    · injection h1 with e1 e2 e3
      refine Or.inr ⟨g, e1, h3, fun k r hr => ?_⟩
      exact h4 k (Pr.raw r) (by rw [List.getElem?_map, hr]; rfl)
  · obtain ⟨j, hj⟩ := List.getElem?_of_mem hr
    exact (hL.p.k j r hj).src
theorem fit_put2 {gs : List G.GrantD} {qs ps : List P.PlaceD} {b : ByteArray} {ws : List W.WantD} (a : Option Addr) (c : Nat) (h : P.Fit gs ps) (hk : P.Like qs ps) (hb : b.size ≤ maxLen) (hwf : ∀ r ∈ ws, r.fits) (hwl : ws.length ≤ 1048576) (h4 : ps.length ≤ 4) : P.Fit gs (putP b a c ws qs) := by
  have hq := h.like hk
  have hm : ∀ q ∈ putP b a c ws qs, q = ⟨b, seenOf b qs + 1, a, c, ws⟩ ∨ q ∈ qs := fun q hq => Ord.insS_mem keyP _ _ q hq
  have hl := Ord.insS_len keyP ⟨b, seenOf b qs + 1, a, c, ws⟩ qs
  have hlen := hk.len
  refine ⟨h.g, fun p hp => ?_, h.gl, ?_, fun p hp => ?_⟩
  · rcases hm p hp with rfl | hp
    · exact ⟨hb, hwf⟩
    · exact hq.p p hp
  · show (Ord.insS _ _ _).length ≤ _
    omega
  · rcases hm p hp with rfl | hp
    · exact hwl
    · exact hq.ln p hp
theorem set_box {y : World} {b i : Nat} {O : Array Value} (v : Value) (h : ∀ j, y.cell? ⟨b, j, none⟩ = O[j]?) (hi : i < O.size) : ∀ j, (y.setCell ⟨b, i, none⟩ v).cell? ⟨b, j, none⟩ = (O.set i v hi)[j]? := by
  intro j
  by_cases e : j = i
  · subst e
    rw [World.cell?_setCell_same _ _ _ ((h j).trans (Array.getElem?_eq_getElem hi)), Array.getElem?_set_self]
  · rw [World.cell?_setCell_other _ _ _ _ (fun h' => e (by have := congrArg Addr.off h'; exact this.symm)), h j, Array.getElem?_set_ne _ (fun e' => e e'.symm)]
end Go.Proofs.YtefiiobdlfdbjaaGreatDoor
/- A region by an invariant: what is known of a slot may hang on what is listed. -/
namespace Go.Proofs.YtefiiobdlfdbjaaGreatDoor
open Go.RowKit
set_option linter.unusedVariables false

/-- What is not listed behind a step was not ahead of it. -/
theorem setT_back {l : Array Bool} {i j : Nat} (h : (l.setIfInBounds i true).getD j false = false) (hi : i < l.size) : l.getD j false = false := by
  by_cases e : j = i
  · subst e; rw [setT_same hi] at h; cases h
  · rw [setT_ne e] at h; exact h
structure Il (sl : Nat → Nat) (n se : Nat) (ops : Array Oper) (a0 : Act) (G : Array Bool → World → Nat → Value → Prop) (D : World → Prop) (E : Value → World → Prop) (listed : Array Bool) (a : Act) (w : World) : Prop where
  df : a.defers = a0.defers
  sz : a.tmps.size = a0.tmps.size
  out : ∀ k, (∀ i, i < n → sl i ≠ k) → a.tmps.getD k undef = a0.tmps.getD k undef
  lz : listed.size = n + 1
  tr : ∀ i j, waits .any ops i j = true → listed.getD i false = true → listed.getD j false = true
  good : ∀ i, i < n → listed.getD i false = true → listed.getD n false = false → G listed w i (a.tmps.getD (sl i) undef)
  d : listed.getD n false = false → D w
  e : listed.getD n false = true → E (a.tmps.getD se undef) w
section
variable {sl : Nat → Nat} {n se : Nat} {ops : Array Oper} {a0 : Act} {G : Array Bool → World → Nat → Value → Prop} {D : World → Prop} {E : Value → World → Prop} {listed : Array Bool} {a : Act} {w w' : World} {i : Nat} {v : Value}
theorem Il.put (h : Il sl n se ops a0 G D E listed a w) (hr : i ∈ Region.ready .any ops listed) (hi : i < n) (hn : listed.getD n false = false) (hlt : sl i < a0.tmps.size) (hinj : ∀ j, j < n → sl j = sl i → j = i) (hg : G (listed.setIfInBounds i true) w' i v)
    (hk : ∀ j u, j < n → j ≠ i → listed.getD j false = true → G listed w j u → G (listed.setIfInBounds i true) w' j u) (hd : D w') : Il sl n se ops a0 G D E (listed.setIfInBounds i true) (a.put (some (sl i)) v) w' := by
  have hsz := h.sz
  have hlz := h.lz
  have hnn : (listed.setIfInBounds i true).getD n false = false := by rw [setT_ne (by omega)]; exact hn
  refine ⟨h.df, by simpa [Act.put] using hsz, ?_, by simpa using hlz, trT hr (by omega) h.tr, ?_, fun _ => hd, fun e => by rw [hnn] at e; cases e⟩
  · intro k hko
    rw [← h.out k hko]
    simp only [Act.put, Array.getD_eq_getD_getElem?]
    rw [Array.getElem?_setIfInBounds_ne (hko i hi)]
  · intro j hj hl _
    by_cases e : j = i
    · subst e
      simp only [Act.put, Array.getD_eq_getD_getElem?]
      rw [Array.getElem?_setIfInBounds_self_of_lt (by omega)]
      exact hg
    · rw [setT_ne e] at hl
      have h1 := hk j _ hj e hl (h.good j hj hl hn)
      simp only [Act.put, Array.getD_eq_getD_getElem?] at h1 ⊢
      rw [Array.getElem?_setIfInBounds_ne (fun e' => e (hinj j hj e'.symm))]
      exact h1
theorem Il.same (h : Il sl n se ops a0 G D E listed a w) (hr : i ∈ Region.ready .any ops listed) (hi : i < n) (hn : listed.getD n false = false) (hlt : sl i < a0.tmps.size) (hinj : ∀ j, j < n → sl j = sl i → j = i) (hg : G (listed.setIfInBounds i true) w i v) (hk : ∀ j u, j < n → j ≠ i → listed.getD j false = true → G listed w j u → G (listed.setIfInBounds i true) w j u) : Il sl n se ops a0 G D E (listed.setIfInBounds i true) (a.put (some (sl i)) v) w :=
  h.put hr hi hn hlt hinj hg hk (h.d hn)
theorem Il.last (h : Il sl n se ops a0 G D E listed a w) (hr : n ∈ Region.ready .any ops listed) {u : Value} (he : E (a.tmps.getD se undef) w') : Il sl n se ops a0 G D E (listed.setIfInBounds n true) (a.put none u) w' := by
  have hlz := h.lz
  have hnn : (listed.setIfInBounds n true).getD n false = true := setT_same (by omega)
  exact ⟨h.df, h.sz, h.out, by simpa using hlz, trT hr (by omega) h.tr, (fun j hj hl hc => by rw [hnn] at hc; cases hc), (fun e => by rw [hnn] at e; cases e), fun _ => he⟩
end
theorem reg_invL {P : Program} {ops : Array Oper} {Q : Exit → Act → World → Prop} {a0 : Act} {w0 : World} (sl : Nat → Nat) (n se : Nat) (G : Array Bool → World → Nat → Value → Prop) (D : World → Prop) (E : Value → World → Prop)
    (hd : depsOk ops = true) (hops : ops.size = n + 1) (hD : D w0)
    (done : ∀ a y, a.defers = a0.defers → a.tmps.size = a0.tmps.size → (∀ k, (∀ i, i < n → sl i ≠ k) → a.tmps.getD k undef = a0.tmps.getD k undef) → E (a.tmps.getD se undef) y → Q .normal a y)
    (step : ∀ listed x y i, Il sl n se ops a0 G D E listed x y → i ∈ Region.ready .any ops listed → i < n + 1 → wpOp P ops Q i (Il sl n se ops a0 G D E (listed.setIfInBounds i true)) x y) :
    wpAny P .any ops Q ops.size (Array.replicate ops.size false) a0 w0 := by
  have hrep : openOf (Array.replicate ops.size false) ≤ ops.size := by
    unfold openOf
    exact Nat.le_trans List.countP_le_length (by simp)
  have hno : ∀ k j, (Array.replicate k false).getD j false = false := fun k j => by
    simp only [Array.getD_eq_getD_getElem?, Array.getElem?_replicate]
    split <;> rfl
  refine wpAny_inv (Il sl n se ops a0 G D E) (fun listed x y i hI hi => step listed x y i hI hi (by have := List.mem_range.1 (List.mem_filter.1 hi).1; omega)) ?_ _ _ _ _ hrep ?_
  · intro listed x y hI hr
    have hall := all_listed hd hr (by rw [hI.lz, hops])
    exact done x y hI.df hI.sz hI.out (hI.e (hall n (by omega)))
  · exact ⟨rfl, rfl, fun _ _ => rfl, by simp [hops], (fun i j _ h => by rw [hno] at h; cases h), (fun i _ h => by rw [hno] at h; cases h), (fun _ => hD), (fun h => by rw [hno] at h; cases h)⟩
end Go.Proofs.YtefiiobdlfdbjaaGreatDoor
