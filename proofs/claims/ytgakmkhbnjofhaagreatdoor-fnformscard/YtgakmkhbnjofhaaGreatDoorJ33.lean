import Derived.Test.YtgakmkhbnjofhaaGreatDoorJ16
import Derived.Test.YtgakmkhbnjofhaaGreatDoorJ28
import Derived.Test.YtgakmkhbnjofhaaGreatDoorJ29
import Derived.Test.YtgakmkhbnjofhaaGreatDoorJ32
import Derived.Test.YtgakmkhbnjofhaaGreatDoorJ11
import Derived.Laws.Rows
import Derived.Test.YtgakmkhbnjofhaaGreatDoorJ09
import Derived.Test.YtgakmkhbnjofhaaGreatDoorJ06
import Derived.Test.YtgakmkhbnjofhaaGreatDoorJ07
namespace Go.Proofs.YtgakmkhbnjofhaaGreatDoor
open Go.RowKit
set_option linter.unusedVariables false
theorem decT_dig : ∀ (k n : Nat), n < 10 ^ (k + 1) → (decT n).size ≤ k + 1
 | 0, n, h => by rw [decT_one (by simpa using h)]; exact Nat.le_refl _
 | k + 1, n, h => by
  by_cases h1 : n < 10
  ·
   rw [decT_one h1]; show 1 ≤ _; omega
  ·
   rw [decT_more h1, ByteArray.size_append]
   have h3 : n / 10 < 10 ^ (k + 1) := by
    rw [Nat.pow_succ] at h
    exact Nat.div_lt_of_lt_mul (by omega)
   have := decT_dig k (n / 10) h3
   have h2 : (⟨#[UInt8.ofNat (48 + n % 10)]⟩ : ByteArray).size = 1 := rfl
   omega
theorem decT_20 (n : Int) (h0 : 0 ≤ n) (h1 : n < 1000000000) : (decT n).size ≤ 20 := by
 obtain ⟨m, rfl⟩ := Int.eq_ofNat_of_zero_le h0
 have := decT_dig 8 m (by omega)
 omega
theorem in_ofF {n a b : Int} (h : inB n a b = true) : a ≤ n ∧ n ≤ b := by
 unfold inB at h
 simpa using h
theorem empty_size {s : ByteArray} (h : s.toList.isEmpty = true) : s.size = 0 := by
 rw [ByteArray.toList_eq] at h
 show s.data.size = 0
 rw [← Array.length_toList, List.isEmpty_iff.1 h]; rfl
theorem holdB_20 {s : ByteArray} (h : holdB s = true) : s.size ≤ 20 := by
 unfold holdB at h
 simp only [Bool.and_eq_true] at h
 exact nameB_size h.1
theorem wantT_20 {r : W.WantD} (hr : r.ok = true) : (wantT r).size ≤ 300 := by
 have hw := writes_of hr
 have h := hr
 unfold W.WantD.ok wantB at h
 simp only [Bool.and_eq_true, Bool.or_eq_true] at h
 have hc : r.c.size ≤ 20 := nameB_size h.1
 have hh : (holdT r.h).size ≤ 20 := by
  unfold holdT
  split
  ·
   exact lb rfl
  ·
   rcases h.2.2.1 with h3 | h3
   ·
    have := empty_size h3; omega
   ·
    exact holdB_20 h3
 have h1 := decT_20 r.v hw.v.1 hw.v.2
 have h2 := decT_20 r.p hw.p.1 hw.p.2
 have h3 := decT_20 r.s hw.s.1 hw.s.2
 have h4 := decT_20 r.d hw.d.1 hw.d.2
 have h5 := decT_20 r.g hw.g.1 hw.g.2
 have e : wantT r = catL [{ data := #[119, 97, 110, 116, 32] }, r.c, { data := #[32] }, decT r.v, { data := #[32] }, holdT r.h, { data := #[32] }, decT r.p, { data := #[32] }, decT r.s, { data := #[32] }, decT r.d, { data := #[32] }, decT r.g, { data := #[10] }] := rfl
 have h8 : ∀ p ∈ [{ data := #[119, 97, 110, 116, 32] }, r.c, { data := #[32] }, decT r.v, { data := #[32] }, holdT r.h, { data := #[32] }, decT r.p, { data := #[32] }, decT r.s, { data := #[32] }, decT r.d, { data := #[32] }, decT r.g, { data := #[10] }], p.size ≤ 20 := by
  intro p hp
  simp only [List.mem_cons, List.not_mem_nil, or_false] at hp
  rcases hp with rfl | rfl | rfl | rfl | rfl | rfl | rfl | rfl | rfl | rfl | rfl | rfl | rfl | rfl | rfl
  all_goals first | assumption | decide
 rw [e]
 exact catL_n 20 15 _ h8 rfl
theorem tail_20 : ∀ (ws : List W.WantD) (x : ByteArray), (∀ r ∈ ws, r.ok = true) → (tailT ws x).size ≤ x.size + ws.length * 300
 | [], x, _ => by simp [tailT]
 | r :: ws, x, h => by
  have h1 := tail_20 ws (x ++ wantT r) (fun q hq => h q (List.mem_cons_of_mem _ hq))
  have h2 := wantT_20 (h r (List.mem_cons_self ..))
  rw [ByteArray.size_append] at h1
  have e : tailT (r :: ws) x = tailT ws (x ++ wantT r) := rfl
  rw [e, List.length_cons, Nat.succ_mul]
  omega
theorem allW_ok {ws : List W.WantD} (h : W.AllW ws ws.length) : ∀ r ∈ ws, r.ok = true := by
 intro r hr
 obtain ⟨j, hj⟩ := List.getElem?_of_mem hr
 exact h.1 j r (List.getElem?_eq_some_iff.1 hj).1 hj
theorem formT_size (P : ParD) : (formT P).size ≤ 4000 := by
 have z0 : ({ data := #[] } : ByteArray).size ≤ 4000 := Nat.zero_le _
 unfold formT
 by_cases hb : nameB P.b = false
 ·
  rw [if_pos hb]; exact z0
 rw [if_neg hb]
 have hb' : P.b.size ≤ 20 := nameB_size (by simpa using hb)
 split
 ·
  exact z0
 split
 ·
  split
  ·
   rename_i h
   obtain ⟨h1, h2, -⟩ := h
   have h1 : P.ws.length ≤ 10 ∧ W.AllW P.ws P.ws.length := by simpa [wantsB] using h1
   have hse := in_ofF h2
   have hd := decT_20 P.se (by omega) (by omega)
   have h9 := tail_20 P.ws (catL [{ data := #[116, 111, 108, 100, 32] }, P.b, { data := #[32] }, decT P.se, { data := #[10] }]) (allW_ok h1.2)
   have h8 : ∀ p ∈ [{ data := #[116, 111, 108, 100, 32] }, P.b, { data := #[32] }, decT P.se, { data := #[10] }], p.size ≤ 20 := by
    intro p hp
    simp only [List.mem_cons, List.not_mem_nil, or_false] at hp
    rcases hp with rfl | rfl | rfl | rfl | rfl
    all_goals first | assumption | decide
   have h7 := catL_n 20 5 _ h8 rfl
   have := h1.1
   omega
  ·
   exact z0
 split
 ·
  split
  ·
   rename_i h
   obtain ⟨h1, h2, h3⟩ := h
   have hse := in_ofF h2
   have hd := decT_20 P.t (by omega) (by omega)
   have hh := holdB_20 h1
   have hc := nameB_size h3
   have hw : (wordT P.k).size ≤ 20 := by
    unfold wordT
    split
    ·
     decide
    ·
     split <;> decide
   have h8 : ∀ p ∈ [wordT P.k, P.b, { data := #[32] }, P.h, { data := #[32] }, P.c, { data := #[32] }, decT P.t, { data := #[10] }], p.size ≤ 20 := by
    intro p hp
    simp only [List.mem_cons, List.not_mem_nil, or_false] at hp
    rcases hp with rfl | rfl | rfl | rfl | rfl | rfl | rfl | rfl | rfl
    all_goals first | assumption | decide
   exact Nat.le_trans (catL_n 20 9 _ h8 rfl) (by decide)
  ·
   exact z0
 split
 ·
  split
  ·
   rename_i h
   obtain ⟨h1, h2, h3⟩ := h
   have hse := in_ofF h2
   have hd := decT_20 P.t (by omega) (by omega)
   have hh := holdB_20 h1
   have h8 : ∀ p ∈ [{ data := #[103, 111, 116, 98, 97, 99, 107, 32] }, P.b, { data := #[32] }, P.h, { data := #[32] }, decT P.t, { data := #[10] }], p.size ≤ 20 := by
    intro p hp
    simp only [List.mem_cons, List.not_mem_nil, or_false] at hp
    rcases hp with rfl | rfl | rfl | rfl | rfl | rfl | rfl
    all_goals first | assumption | decide
   exact Nat.le_trans (catL_n 20 7 _ h8 rfl) (by decide)
  ·
   exact z0
 split
 ·
  split
  ·
   rename_i h
   obtain ⟨h2, -⟩ := h
   have hse := in_ofF h2
   have hd := decT_20 P.se (by omega) (by omega)
   have h8 : ∀ p ∈ [{ data := #[104, 101, 114, 101, 32] }, P.b, { data := #[32] }, decT P.se, { data := #[10] }], p.size ≤ 20 := by
    intro p hp
    simp only [List.mem_cons, List.not_mem_nil, or_false] at hp
    rcases hp with rfl | rfl | rfl | rfl | rfl
    all_goals first | assumption | decide
   exact Nat.le_trans (catL_n 20 5 _ h8 rfl) (by decide)
  ·
   exact z0
 ·
  exact z0
set_option maxRecDepth 4000 in
set_option maxHeartbeats 4000000 in
theorem drawRead (sl : Option Addr) (n cap : Nat) (zs : List Int) (w : World) (hz : CodeIn w sl n zs) (hn : n ≤ 1048576) (hcap : n ≤ cap) :
  Calls Tryz.prog 9 #[.slice sl n cap] w fun e w' => ∃ u : ByteArray, e = .returned (.string u) ∧ u.size ≤ 300000 ∧ Below w.heap.size w w' := by
 have HZ : Hid (CodeIn w sl n zs) := hz
 clear hz
 go_enter Tryz.func9, Tryz.ntmps9
 go_wp2_with fail
 refine (openQ sl n cap zs _ HZ.out hn hcap).mono ?_
 rintro e w1 ⟨rfl, r1, b1⟩
 have B1 : Hid (Below w.heap.size w w1) := b1
 have R1 : Hid (Rq w1 w.heap.size 0) := r1
 clear r1 b1 HZ
 go_wp2_with fail
 refine (parcelQ w.heap.size 0 _ R1.out (by omega)).mono ?_
 rintro e w2 ⟨P, sa, sn, rfl, o2, p2, l2, r2, e2⟩
 have B2 : Hid (Below w.heap.size w w2) := Ex.mono B1.out e2 (Nat.le_refl _)
 have R2 : Hid (Rq w2 w.heap.size 200) := r2.up (by omega)
 have W2 : Hid (WsIn w2 (.slice sa P.ws.length sn) P.ws) := o2.ws
 have HF : Hid (Pq P) := p2
 obtain ⟨TX, hTX⟩ : ∃ TX, formT P = TX := ⟨_, rfl⟩
 have hT : TX.size ≤ 4000 := by rw [← hTX]; exact formT_size P
 have HS : Hid (∀ y, WsIn y (.slice sa P.ws.length sn) P.ws → Calls Tryz.prog 7 #[.agg #[.int .i64 P.k, .string P.b, .int .i64 P.se, .slice sa P.ws.length sn, .string P.h, .string P.c, .int .i64 P.t]] y fun e y' => e = .returned (.string TX) ∧ Below y.heap.size y y') := fun y hy => by
  have h := specFormG P.k P.b P.se P.ws P.h P.c P.t _ y HF.out.sz HF.out.f hy
  rw [show formT ⟨P.k, P.b, P.se, P.ws, P.h, P.c, P.t⟩ = TX from hTX] at h
  exact h
 clear o2 p2 l2 r2 e2 hTX R1 B1
 go_wp2_with fail
 refine (HS.out w2 W2.out).mono ?_
 rintro e w3 ⟨rfl, b3⟩
 have B3 : Hid (Below w.heap.size w w3) := bl_trans B2.out b3
 have R3 : Hid (Rq w3 w.heap.size 200) := R2.out.below b3
 clear b3 B2 R2 W2 HS HF
 generalize (Value.agg #[.int .i64 P.k, .string P.b, .int .i64 P.se, .slice sa P.ws.length sn, .string P.h, .string P.c, .int .i64 P.t]) = V8
 go_wp2_with fail
 refine (pickQ w.heap.size _ 2 _ R3.out (by omega) (by omega) (by omega)).mono ?_
 rintro e w4 ⟨m, rfl, m0, m1, r4, e4⟩
 have B4 : Hid (Below w.heap.size w w4) := Ex.mono B3.out e4 (Nat.le_refl _)
 have R4 : Hid (Rq w4 w.heap.size 201) := r4.up (by omega)
 clear r4 e4 B3 R3
 by_cases hm : m = 0
 ·
  subst hm
  go_wp2_with fail
  refine (bendQ w.heap.size _ TX _ R4.out (by omega) (by omega)).mono ?_
  rintro e w5 ⟨u, rfl, hu, r5, e5⟩
  have B5 : Hid (Below w.heap.size w w5) := Ex.mono B4.out e5 (Nat.le_refl _)
  clear r5 e5
  go_wp2_with fail
  go_ret
  exact ⟨u, rfl, hu, B5.out⟩
 ·
  go_wp2_with fail
  go_ret
  exact ⟨TX, rfl, by omega, B4.out⟩
theorem heap_putQ {w : World} {b i : Nat} {cur : Array Value} {e : TypeId} (h : w.heap[b]? = some (.cells cur e (0, 0))) (v : Value) : (w.setCell ⟨b, i, none⟩ v).heap[b]? = some (.cells (cur.setIfInBounds i v) e (0, 0)) := heap_setCell_same w b i cur e v h
theorem owns_setQ {x : World} {B size g n c : Nat} {e : TypeId} {xs : List Value} (h : x.ownsRow B e size (.slice (some ⟨g, 0, none⟩) n c) n xs) (p : Nat) (hp : p < xs.length) (v : Value) : (x.setCell ⟨g, p, none⟩ v).ownsRow B e size (.slice (some ⟨g, 0, none⟩) n c) n (xs.set p v) := by
 obtain ⟨hl, ⟨h1, -⟩ | ⟨g', cap, cur, h1, h2, h3, h4, h5, h6, h7⟩⟩ := h
 ·
  cases h1
 ·
  cases h1
  refine ⟨by simpa using hl, Or.inr ⟨g, c, cur.setIfInBounds p v, rfl, h2, heap_putQ h3 v, h4, h5, by simpa using h6, ?_⟩⟩
  rw [Array.toList_setIfInBounds, List.take_set, h7]
theorem owns_cellsQ {B size g n c : Nat} {e : TypeId} : ∀ (vs : List Value) (p : Nat) (x : World) (xs : List Value), x.ownsRow B e size (.slice (some ⟨g, 0, none⟩) n c) n xs → p + vs.length ≤ xs.length → (x.setCells g p vs).ownsRow B e size (.slice (some ⟨g, 0, none⟩) n c) n (xs.take p ++ (vs ++ xs.drop (p + vs.length)))
 | [], p, x, xs, h, hl => by simpa [World.setCells] using h
 | v :: r, p, x, xs, h, hl => by
  simp only [List.length_cons] at hl
  have h1 := owns_cellsQ r (p + 1) _ _ (owns_setQ h p (by omega) v) (by simp; omega)
  have e1 : (xs.set p v).take (p + 1) ++ (r ++ (xs.set p v).drop (p + 1 + r.length)) = xs.take p ++ (v :: r ++ xs.drop (p + (v :: r).length)) := by
   rw [List.drop_set_of_lt (by omega), List.take_add_one, List.getElem?_set_self (by omega)]
   rw [List.take_set_of_le (Nat.le_refl _)]
   simp only [Option.toList_some, List.append_assoc, List.cons_append, List.nil_append, List.length_cons]
   have e2 : p + 1 + r.length = p + (r.length + 1) := by omega
   rw [e2]
  rw [e1] at h1
  exact h1
theorem flatR_consQ (r : RunD) (rs : List RunD) : flatR (r :: rs) = r.cells ++ flatR rs := by simp [flatR]
theorem flatR_putQ : ∀ (rs : List RunD) (i : Nat) (r : RunD), i < rs.length → flatR (rs.set i r) = (flatR rs).take (i * 11) ++ (r.cells ++ (flatR rs).drop (i * 11 + r.cells.length))
 | [], i, r, h => by simp at h
 | q :: rs, 0, r, h => by
  rw [List.set_cons_zero, flatR_consQ, flatR_consQ, Nat.zero_mul, List.take_zero, List.nil_append, Nat.zero_add]
  have e : (q.cells ++ flatR rs).drop r.cells.length = flatR rs := List.drop_left' (show q.cells.length = r.cells.length from rfl)
  rw [e]
 | q :: rs, i + 1, r, h => by
  have ih := flatR_putQ rs i r (by simpa using h)
  have hq : q.cells.length = 11 := rfl
  have e1 : (i + 1) * 11 = q.cells.length + i * 11 := by rw [hq]; omega
  have e2 : (i + 1) * 11 + r.cells.length = q.cells.length + (i * 11 + r.cells.length) := by rw [hq]; omega
  rw [List.set_cons_succ, flatR_consQ, flatR_consQ, ih, e2, e1, List.take_length_add_append, List.drop_length_add_append, List.append_assoc]
theorem Ow.putQ {x : World} {g n c B i : Nat} {rs : List RunD} (r : RunD) (h : Ow x (.slice (some ⟨g, 0, none⟩) n c) rs B) (hi : i < rs.length) : Ow (x.setCells g (i * 11) r.cells) (.slice (some ⟨g, 0, none⟩) n c) (rs.set i r) B := by
 have hn : n = rs.length := by
  obtain ⟨a, p, e⟩ := h.shape
  cases e; rfl
 subst hn
 have h1 := owns_cellsQ r.cells (i * 11) x _ h (by rw [flatR_len]; show i * 11 + 11 ≤ _; omega)
 rw [← flatR_putQ rs i r hi] at h1
 show World.ownsRow _ _ _ _ _ (rs.set i r).length _
 rw [List.length_set]
 exact h1
theorem flatW_consQ (r : W.WantD) (rs : List W.WantD) : W.flatR (r :: rs) = r.cells ++ W.flatR rs := by simp [W.flatR]
theorem flatW_putQ : ∀ (rs : List W.WantD) (i : Nat) (r : W.WantD), i < rs.length → W.flatR (rs.set i r) = (W.flatR rs).take (i * 7) ++ (r.cells ++ (W.flatR rs).drop (i * 7 + r.cells.length))
 | [], i, r, h => by simp at h
 | q :: rs, 0, r, h => by
  rw [List.set_cons_zero, flatW_consQ, flatW_consQ, Nat.zero_mul, List.take_zero, List.nil_append, Nat.zero_add]
  have e : (q.cells ++ W.flatR rs).drop r.cells.length = W.flatR rs := List.drop_left' (show q.cells.length = r.cells.length from rfl)
  rw [e]
 | q :: rs, i + 1, r, h => by
  have ih := flatW_putQ rs i r (by simpa using h)
  have hq : q.cells.length = 7 := rfl
  have e1 : (i + 1) * 7 = q.cells.length + i * 7 := by rw [hq]; omega
  have e2 : (i + 1) * 7 + r.cells.length = q.cells.length + (i * 7 + r.cells.length) := by rw [hq]; omega
  rw [List.set_cons_succ, flatW_consQ, flatW_consQ, ih, e2, e1, List.take_length_add_append, List.drop_length_add_append, List.append_assoc]
theorem W.Ow.putQ {x : World} {g n c B i : Nat} {rs : List W.WantD} (r : W.WantD) (h : W.Ow x (.slice (some ⟨g, 0, none⟩) n c) rs B) (hi : i < rs.length) : W.Ow (x.setCells g (i * 7) r.cells) (.slice (some ⟨g, 0, none⟩) n c) (rs.set i r) B := by
 have hn : n = rs.length := by
  obtain ⟨a, p, e⟩ := h.shape
  cases e; rfl
 subst hn
 have h1 := owns_cellsQ r.cells (i * 7) x _ h (by rw [W.flatR_len]; show i * 7 + 7 ≤ _; omega)
 rw [← flatW_putQ rs i r hi] at h1
 show World.ownsRow _ _ _ _ _ (rs.set i r).length _
 rw [List.length_set]
 exact h1
theorem flatR_append (xs ys : List RunD) : flatR (xs ++ ys) = flatR xs ++ flatR ys := by simp [flatR]
theorem bl_set2 {w w' : World} (h : Below w.heap.size w w') (b o : Nat) (u : Value) (hp : w.heap.size ≤ b) : Below w.heap.size w (w'.setCell ⟨b, o, none⟩ u) := bl_set h hp u
def Small (r : RunD) : Prop := r.c.size ≤ maxLen ∧ r.h.size ≤ maxLen ∧ (0 ≤ r.b ∧ r.b ≤ 1000) ∧ (0 ≤ r.i ∧ r.i ≤ 1000) ∧ (-1000000 ≤ r.u ∧ r.u ≤ 1000000)
theorem small_mk {c h : ByteArray} {v p s d g a b i u : Int} (hc : c.size ≤ maxLen) (hh : h.size ≤ maxLen) (hb : 0 ≤ b ∧ b ≤ 1000) (hi : 0 ≤ i ∧ i ≤ 1000) (hu : -1000000 ≤ u ∧ u ≤ 1000000) : Small ⟨c, h, v, p, s, d, g, a, b, i, u⟩ := ⟨hc, hh, hb, hi, hu⟩
theorem small_snoc {rs : List RunD} {r : RunD} (h : ∀ x ∈ rs, Small x) (hr : Small r) : ∀ x ∈ rs ++ [r], Small x := by
 intro x hx
 rcases List.mem_append.1 hx with h1 | h1
 ·
  exact h x h1
 ·
  rw [List.mem_singleton.1 h1]; exact hr
theorem ownsE2 {x y : World} {base k : Nat} {e : TypeId} {size : Nat} {v : Value} {n : Nat} {xs : List Value} (h : x.ownsRow base e size v n xs) (he : Ex k x y) (hk : k < base) : y.ownsRow base e size v n xs :=
 ⟨h.1, h.2.imp id (fun ⟨g, cap, cur, h1, h2, h3, h4⟩ => ⟨g, cap, cur, h1, h2, by
  have hg : g < x.heap.size := by
   rcases Nat.lt_or_ge g x.heap.size with h' | h'
   ·
    exact h'
   ·
    rw [Array.getElem?_eq_none h'] at h3; cases h3
  rw [he.block g hg (by omega)]; exact h3, h4⟩)⟩
theorem own_made0 (w : World) (t : TypeId) (size : Nat) : (w.alloc (.cells #[] t)).ownsRow w.heap.size t size (.slice (some ⟨w.heap.size, 0, none⟩) 0 0) 0 [] := World.ownsRow_made w #[] 0 (Nat.le_refl _) (Nat.zero_le _) (by simp)
set_option maxRecDepth 4000 in
set_option maxHeartbeats 4000000 in
theorem runsT (kr : Nat) (q clock : Int) (w : World) (hr : Rq w kr q) (hq : q < 600000) (k0 : 0 ≤ clock) (k1 : clock ≤ 100000) :
  Calls Tryz.prog 37 #[.pointer (some ⟨kr, 0, none⟩), .int .i64 clock, .bool true] w fun e w' => ∃ rs v, e = .returned v ∧ w'.ownsRow w.heap.size 73 11 v rs.length (flatR rs) ∧ rs.length ≤ 4 ∧ (∀ x ∈ rs, Small x) ∧ (rs = [] → ∃ b c, v = .slice (some ⟨b, 0, none⟩) 0 c) ∧ Rq w' kr (q + 500) ∧ Ex kr w w' := by
 obtain ⟨i0, hi, hz0, hz1, hz2⟩ := info_parts infoR
 have hkr := hr.lt
 have nbr := build0r
 have HR : Hid (Rq w kr q) := hr
 clear hr
 go_enter Tryz.func37, Tryz.ntmps37
 go_wp2_with fail
 go_loopw [7, 8] (fun v i wx => ∃ (k : Nat) (rs : List RunD), k ≤ 4 ∧ i = .int .i64 k ∧ rs.length ≤ k ∧ Hid (∀ x ∈ rs, Small x) ∧ Hid (rs = [] → ∃ b c, v = .slice (some ⟨b, 0, none⟩) 0 c) ∧ Hid (wx.ownsRow w.heap.size 73 11 v rs.length (flatR rs)) ∧ Hid (Rq wx kr (q + 101 * k)) ∧ Hid (Ex kr w wx)) (fun _ i _ => 4 - (intOf i).toNat)
 case atStart => exact ⟨0, [], by omega, rfl, Nat.le_refl _, (fun x hx => by cases hx), (fun _ => ⟨_, _, rfl⟩), own_made0 _ _ _, (HR.out.below (bl_alloc (Below.refl _ _) (.cells #[] 73))).up (by omega), Ex.of_below (bl_alloc (Below.refl _ _) _)⟩
 case round =>
  obtain ⟨k, rs, hk, rfl, hws, HF, HN, HO, HQ, HE⟩ := hrel
  by_cases hlt : k < 4
  ·
   go_wp2_with fail
   refine (pickQ kr _ 2 _ HQ.out (by omega) (by omega) (by omega)).mono ?_
   rintro e w1 ⟨m, rfl, m0, m1, r1, e1⟩
   have O1 : Hid (w1.ownsRow w.heap.size 73 11 u7 rs.length (flatR rs)) := ownsE2 HO.out e1 hkr
   have E1 : Hid (Ex kr w w1) := HE.out.trans e1
   have R1 : Hid (Rq w1 kr (q + 101 * k + 1)) := r1
   clear HO HE HQ r1 e1
   by_cases hm : m = 0
   ·
    subst hm
    go_wp2_with fail
    refine (dec_small k (by omega) (by omega) _).mono ?_
    rintro e w2 ⟨x, rfl, hx, b2⟩
    have R2 : Hid (Rq w2 kr (q + 101 * k + 1)) := R1.out.below b2
    have E2 : Hid (Ex kr w w2) := E1.out.then_below b2
    have O2 : Hid (w2.ownsRow w.heap.size 73 11 u7 rs.length (flatR rs)) := owns_below O1.out b2
    clear b2 R1 E1 O1
    go_wp2_with fail
    refine (drawRunQ kr _ clock _ _ R2.out (by omega) k0 k1).mono ?_
    rintro e w3 ⟨h, v1, p1, s, d, g, st, lf, fl, un, rfl, ⟨lf0, lf1⟩, ⟨fl0, fl1⟩, hh, ⟨un0, un1⟩, r3, e3⟩
    have O3 : Hid (w3.ownsRow w.heap.size 73 11 u7 rs.length (flatR rs)) := ownsE2 O2.out e3 hkr
    have E3 : Hid (Ex kr w w3) := E2.out.trans e3
    have R3 : Hid (Rq w3 kr (q + 101 * k + 1 + 100)) := r3
    have hxs : ({ data := #[99] } ++ x).size ≤ maxLen := by rw [size_front, hx]; unfold maxLen; omega
    have hhs : h.size ≤ maxLen := by unfold maxLen; omega
    have hz3 : w.heap.size ≤ w3.heap.size := E3.out.size
    clear r3 e3 O2 E2 R2
    go_wp2_with fail
    refine (specRunOk_any _ h v1 p1 s d g st lf fl un clock _ hxs hhs).mono ?_
    rintro e w4 ⟨rfl, b4⟩
    have kb := box_keep b4
    have kf : ∀ j, w4.frozen? ⟨w3.heap.size, j, none⟩ = false := fun j => by rw [b4.frozen (p := ⟨w3.heap.size, j, none⟩) (by simp)]; simp [go_sem]
    have Bz : Hid (Below w3.heap.size w3 w4) := bl_trans (bl_alloc (Below.refl _ _) _) b4
    have hz4 : w3.heap.size < w4.heap.size := Nat.lt_of_lt_of_le (by simp) b4.size
    clear b4
    cases hB : runB ({ data := #[99] } ++ x) h v1 p1 s d g st lf fl un clock
    ·
     go_wp2_with (at_builtin; refine wpList_append_own _ rfl _ _ 33 rfl w.heap.size 73 i0 _ 11 104 Tryz.underlying33 hi hz0 hz1 hz2 rfl (by decide) u7 rs.length _ rfl (by exact owns_below O3.out (bl_alloc (bl_set2 (bl_set2 Bz.out w3.heap.size 7 (.int .i64 2) (Nat.le_refl _)) w3.heap.size 8 (.int .i64 0) (Nat.le_refl _)) _)) ⟨_, 0, none⟩ 1 1 (⟨{ data := #[99] } ++ x, h, v1, p1, s, d, g, 2, 0, fl, un⟩ : RunD).cells rfl rfl (new_cells _ _ (by simp) _ _ _ rfl) (cellsR_one (⟨{ data := #[99] } ++ x, h, v1, p1, s, d, g, 2, 0, fl, un⟩ : RunD)) (by unfold maxLen; omega) (by omega) (by have := (bl_alloc (bl_set2 (bl_set2 Bz.out w3.heap.size 7 (.int .i64 2) (Nat.le_refl _)) w3.heap.size 8 (.int .i64 0) (Nat.le_refl _)) (.cells #[] 73)).size; simp at this ⊢; omega) ?_; intro v' w5 ho hg hn)
     refine ⟨⟨k + 1, rs ++ [(⟨{ data := #[99] } ++ x, h, v1, p1, s, d, g, 2, 0, fl, un⟩ : RunD)], by omega, by go_num, by simp; omega, small_snoc HF.out (small_mk hxs hhs ⟨by omega, by omega⟩ ⟨by omega, by omega⟩ ⟨by omega, by omega⟩), (fun e => absurd e (by simp)), ?_, ((R3.out.below (bl_alloc (bl_set2 (bl_set2 Bz.out w3.heap.size 7 (.int .i64 2) (Nat.le_refl _)) w3.heap.size 8 (.int .i64 0) (Nat.le_refl _)) _)).grown hg (fun j hj => Nat.lt_of_lt_of_le hkr (owns_ge O3.out j hj))).up (by omega), (E3.out.then_below (bl_alloc (bl_set2 (bl_set2 Bz.out w3.heap.size 7 (.int .i64 2) (Nat.le_refl _)) w3.heap.size 8 (.int .i64 0) (Nat.le_refl _)) _)).grown hg (fun j hj => owns_ge O3.out j hj)⟩, by simp [intOf]; omega⟩
     show w5.ownsRow _ _ _ _ (rs ++ [(⟨{ data := #[99] } ++ x, h, v1, p1, s, d, g, 2, 0, fl, un⟩ : RunD)]).length _
     rw [List.length_append, flatR_append]
     simpa [flatR] using ho
    ·
     go_wp2_with (at_builtin; refine wpList_append_own _ rfl _ _ 33 rfl w.heap.size 73 i0 _ 11 104 Tryz.underlying33 hi hz0 hz1 hz2 rfl (by decide) u7 rs.length _ rfl (by exact owns_below O3.out (bl_alloc Bz.out _)) ⟨_, 0, none⟩ 1 1 (⟨{ data := #[99] } ++ x, h, v1, p1, s, d, g, st, lf, fl, un⟩ : RunD).cells rfl rfl (new_cells _ _ (by simp) _ _ _ rfl) (cellsR_one (⟨{ data := #[99] } ++ x, h, v1, p1, s, d, g, st, lf, fl, un⟩ : RunD)) (by unfold maxLen; omega) (by omega) (by have := (bl_alloc Bz.out (.cells #[] 73)).size; simp at this ⊢; omega) ?_; intro v' w5 ho hg hn)
     refine ⟨⟨k + 1, rs ++ [(⟨{ data := #[99] } ++ x, h, v1, p1, s, d, g, st, lf, fl, un⟩ : RunD)], by omega, by go_num, by simp; omega, small_snoc HF.out (small_mk hxs hhs ⟨by omega, by omega⟩ ⟨by omega, by omega⟩ ⟨by omega, by omega⟩), (fun e => absurd e (by simp)), ?_, ((R3.out.below (bl_alloc Bz.out _)).grown hg (fun j hj => Nat.lt_of_lt_of_le hkr (owns_ge O3.out j hj))).up (by omega), (E3.out.then_below (bl_alloc Bz.out _)).grown hg (fun j hj => owns_ge O3.out j hj)⟩, by simp [intOf]; omega⟩
     show w5.ownsRow _ _ _ _ (rs ++ [(⟨{ data := #[99] } ++ x, h, v1, p1, s, d, g, st, lf, fl, un⟩ : RunD)]).length _
     rw [List.length_append, flatR_append]
     simpa [flatR] using ho
   ·
    go_wp2
    exact ⟨⟨k + 1, rs, by omega, by go_num, by omega, HF.out, HN.out, O1.out, R1.out.up (by omega), E1.out⟩, by simp [intOf]; omega⟩
  ·
   go_wp2
   go_ret
   have hk4 : k = 4 := by omega
   subst hk4
   exact ⟨rs, _, rfl, HO.out, by omega, HF.out, HN.out, HQ.out.up (by omega), HE.out⟩
set_option maxRecDepth 4000 in
set_option maxHeartbeats 4000000 in
theorem runsF (kr : Nat) (q clock : Int) (w : World) (hr : Rq w kr q) (hq : q < 600000) (k0 : 0 ≤ clock) (k1 : clock ≤ 100000) :
  Calls Tryz.prog 37 #[.pointer (some ⟨kr, 0, none⟩), .int .i64 clock, .bool false] w fun e w' => ∃ rs v, e = .returned v ∧ w'.ownsRow w.heap.size 73 11 v rs.length (flatR rs) ∧ rs.length ≤ 4 ∧ (∀ x ∈ rs, Small x) ∧ (rs = [] → ∃ b c, v = .slice (some ⟨b, 0, none⟩) 0 c) ∧ Rq w' kr (q + 500) ∧ Ex kr w w' := by
 obtain ⟨i0, hi, hz0, hz1, hz2⟩ := info_parts infoR
 have hkr := hr.lt
 have nbr := build0r
 have HR : Hid (Rq w kr q) := hr
 clear hr
 go_enter Tryz.func37, Tryz.ntmps37
 go_wp2_with fail
 go_loopw [7, 8] (fun v i wx => ∃ (k : Nat) (rs : List RunD), k ≤ 4 ∧ i = .int .i64 k ∧ rs.length ≤ k ∧ Hid (∀ x ∈ rs, Small x) ∧ Hid (rs = [] → ∃ b c, v = .slice (some ⟨b, 0, none⟩) 0 c) ∧ Hid (wx.ownsRow w.heap.size 73 11 v rs.length (flatR rs)) ∧ Hid (Rq wx kr (q + 101 * k)) ∧ Hid (Ex kr w wx)) (fun _ i _ => 4 - (intOf i).toNat)
 case atStart => exact ⟨0, [], by omega, rfl, Nat.le_refl _, (fun x hx => by cases hx), (fun _ => ⟨_, _, rfl⟩), own_made0 _ _ _, (HR.out.below (bl_alloc (Below.refl _ _) (.cells #[] 73))).up (by omega), Ex.of_below (bl_alloc (Below.refl _ _) _)⟩
 case round =>
  obtain ⟨k, rs, hk, rfl, hws, HF, HN, HO, HQ, HE⟩ := hrel
  by_cases hlt : k < 4
  ·
   go_wp2_with fail
   refine (pickQ kr _ 2 _ HQ.out (by omega) (by omega) (by omega)).mono ?_
   rintro e w1 ⟨m, rfl, m0, m1, r1, e1⟩
   have O1 : Hid (w1.ownsRow w.heap.size 73 11 u7 rs.length (flatR rs)) := ownsE2 HO.out e1 hkr
   have E1 : Hid (Ex kr w w1) := HE.out.trans e1
   have R1 : Hid (Rq w1 kr (q + 101 * k + 1)) := r1
   clear HO HE HQ r1 e1
   by_cases hm : m = 0
   ·
    subst hm
    go_wp2_with fail
    refine (dec_small k (by omega) (by omega) _).mono ?_
    rintro e w2 ⟨x, rfl, hx, b2⟩
    have R2 : Hid (Rq w2 kr (q + 101 * k + 1)) := R1.out.below b2
    have E2 : Hid (Ex kr w w2) := E1.out.then_below b2
    have O2 : Hid (w2.ownsRow w.heap.size 73 11 u7 rs.length (flatR rs)) := owns_below O1.out b2
    clear b2 R1 E1 O1
    go_wp2_with fail
    refine (drawRunQ kr _ clock _ _ R2.out (by omega) k0 k1).mono ?_
    rintro e w3 ⟨h, v1, p1, s, d, g, st, lf, fl, un, rfl, ⟨lf0, lf1⟩, ⟨fl0, fl1⟩, hh, ⟨un0, un1⟩, r3, e3⟩
    have O3 : Hid (w3.ownsRow w.heap.size 73 11 u7 rs.length (flatR rs)) := ownsE2 O2.out e3 hkr
    have E3 : Hid (Ex kr w w3) := E2.out.trans e3
    have R3 : Hid (Rq w3 kr (q + 101 * k + 1 + 100)) := r3
    have hxs : ({ data := #[99] } ++ x).size ≤ maxLen := by rw [size_front, hx]; unfold maxLen; omega
    have hhs : h.size ≤ maxLen := by unfold maxLen; omega
    have hz3 : w.heap.size ≤ w3.heap.size := E3.out.size
    clear r3 e3 O2 E2 R2
    have Bz : Hid (Below w3.heap.size w3 (w3.alloc (.cells #[.string ({ data := #[99] } ++ x), .int .i64 v1, .string h, .int .i64 p1, .int .i64 s, .int .i64 d, .int .i64 g, .int .i64 st, .int .i64 lf, .int .i64 fl, .int .i64 un] 73))) := bl_alloc (Below.refl _ _) _
    go_wp2_with (at_builtin; refine wpList_append_own _ rfl _ _ 33 rfl w.heap.size 73 i0 _ 11 104 Tryz.underlying33 hi hz0 hz1 hz2 rfl (by decide) u7 rs.length _ rfl (by exact owns_below O3.out (bl_alloc Bz.out _)) ⟨_, 0, none⟩ 1 1 (⟨{ data := #[99] } ++ x, h, v1, p1, s, d, g, st, lf, fl, un⟩ : RunD).cells rfl rfl (new_cells _ _ (by simp) _ _ _ rfl) (cellsR_one (⟨{ data := #[99] } ++ x, h, v1, p1, s, d, g, st, lf, fl, un⟩ : RunD)) (by unfold maxLen; omega) (by omega) (by have := (bl_alloc Bz.out (.cells #[] 73)).size; simp at this ⊢; omega) ?_; intro v' w5 ho hg hn)
    refine ⟨⟨k + 1, rs ++ [(⟨{ data := #[99] } ++ x, h, v1, p1, s, d, g, st, lf, fl, un⟩ : RunD)], by omega, by go_num, by simp; omega, small_snoc HF.out (small_mk hxs hhs ⟨by omega, by omega⟩ ⟨by omega, by omega⟩ ⟨by omega, by omega⟩), (fun e => absurd e (by simp)), ?_, ((R3.out.below (bl_alloc Bz.out _)).grown hg (fun j hj => Nat.lt_of_lt_of_le hkr (owns_ge O3.out j hj))).up (by omega), (E3.out.then_below (bl_alloc Bz.out _)).grown hg (fun j hj => owns_ge O3.out j hj)⟩, by simp [intOf]; omega⟩
    show w5.ownsRow _ _ _ _ (rs ++ [(⟨{ data := #[99] } ++ x, h, v1, p1, s, d, g, st, lf, fl, un⟩ : RunD)]).length _
    rw [List.length_append, flatR_append]
    simpa [flatR] using ho
   ·
    go_wp2
    exact ⟨⟨k + 1, rs, by omega, by go_num, by omega, HF.out, HN.out, O1.out, R1.out.up (by omega), E1.out⟩, by simp [intOf]; omega⟩
  ·
   go_wp2
   go_ret
   have hk4 : k = 4 := by omega
   subst hk4
   exact ⟨rs, _, rfl, HO.out, by omega, HF.out, HN.out, HQ.out.up (by omega), HE.out⟩
end Go.Proofs.YtgakmkhbnjofhaaGreatDoor
