import Derived.Test.YtkebokkckmgloaaJ14
import Derived.Test.YtkebokkckmgloaaJ16
import Derived.Test.YtkebokkckmgloaaJ17
import Derived.Deep.RegionLaw
import Derived.Deep.DeepCutAuto
import Derived.Test.YtkebokkckmgloaaJ09
/- Wants are drawn. -/
namespace Go.Proofs.Ytkebokkckmgloaa
open Go.RowKit
set_option linter.unusedVariables false

theorem wanted_if {c : Bool} {p q : Prop} (h : c = true) (hp : p) : if c = true then p else q := by rw [if_pos h]; exact hp
theorem heap_new {y : World} {o : Obj} {z : Nat} (hz : z = y.heap.size) : (y.alloc o).heap[z]? = some o := by
  subst hz
  show (y.heap.push o)[y.heap.size]? = some o
  simp
theorem heap_old {y : World} {o o' : Obj} {z : Nat} (h : y.heap[z]? = some o) : (y.alloc o').heap[z]? = some o := by
  have hz : z < y.heap.size := by
    rcases Nat.lt_or_ge z y.heap.size with h' | h'
    · exact h'
    · rw [Array.getElem?_eq_none h'] at h; cases h
  show (y.heap.push o')[z]? = some o
  rw [Array.getElem?_push_lt hz, ← h, Array.getElem?_eq_getElem hz]
theorem heap_drew {y : World} {o : Obj} {z : Nat} (h : y.heap[z]? = some o) : (y.drew).heap[z]? = some o := h
theorem grown_heap {x y : World} {z : Nat} (hg : x.grownBy y (some z)) : ∀ j o, x.heap[j]? = some o → j ≠ z → y.heap[j]? = some o := by
  intro j o h hne
  have hz : j < x.heap.size := by
    rcases Nat.lt_or_ge j x.heap.size with h' | h'
    · exact h'
    · rw [Array.getElem?_eq_none h'] at h; cases h
  rw [hg.block j hz (fun e => hne (Option.some.inj e))]; exact h
theorem own_empty {y : World} {z size : Nat} {t : TypeId} (h : y.heap[z]? = some (.cells #[] t)) : y.ownsRow z t size (.slice (some ⟨z, 0, none⟩) 0 0) 0 [] :=
  ⟨by simp, Or.inr ⟨z, 0, #[], rfl, Nat.le_refl _, h, Nat.le_refl _, Nat.zero_le _, by simp, by simp⟩⟩
theorem cells_blk {y : World} {u : Nat} {C : Array Value} {t : TypeId} (h : y.heap[u]? = some (.cells C t)) : ∀ j v, C.toList[j]? = some v → y.cell? ((⟨u, 0, none⟩ : Addr).add j) = some v := by
  intro j v hj
  rw [Addr.add_mid]
  rw [cell_of_row y u _ C _ (0, 0) h, Nat.zero_add]
  simpa using hj
theorem ownsE {x y : World} {base k : Nat} {e : TypeId} {size : Nat} {v : Value} {n : Nat} {xs : List Value} (h : x.ownsRow base e size v n xs) (he : Ex k x y) (hk : k < base) : y.ownsRow base e size v n xs :=
  ⟨h.1, h.2.imp id (fun ⟨g, cap, cur, h1, h2, h3, h4⟩ => ⟨g, cap, cur, h1, h2, by
    have hg : g < x.heap.size := by
      rcases Nat.lt_or_ge g x.heap.size with h' | h'
      · exact h'
      · rw [Array.getElem?_eq_none h'] at h3; cases h3
    rw [he.block g hg (by omega)]; exact h3, h4⟩)⟩
theorem ownsShape {x : World} {base : Nat} {e : TypeId} {size : Nat} {v : Value} {n : Nat} {xs : List Value} (h : x.ownsRow base e size v n xs) : ∃ a p, v = .slice a n p := by
  rcases h.2 with ⟨h1, h2⟩ | ⟨g, cap, cur, h1, -⟩
  · subst h2; exact ⟨none, 0, h1⟩
  · exact ⟨_, _, h1⟩
theorem W.one_cells (r : W.WantD) : ∀ u ∈ r.cells, u.oneCell' = true := by
  intro u hu
  exact W.flatR_one [r] u (by simpa [W.flatR] using hu)
theorem W.step1 {o : Oper} {a : Act} {Y : World} {K : Act → World → Prop} {Q : Exit → Act → World → Prop} (z : Nat) (s x : Operand)
    (ho : o.op = .call { callee := .builtin .append, args := #[s, x], argTypes := #[23, 23] }) (l : List W.WantD) (ad : Option Addr) (c : Nat)
    (hs : a.eval s = .slice (some ⟨z, 0, none⟩) 0 0) (hz : Y.heap[z]? = some (.cells #[] 36)) (hx : a.eval x = .slice ad l.length c) (hsrc : W.Src Y ad c l) (hl : l.length ≤ 1048576)
    (h : ∀ s' w', w'.ownsRow z 36 7 s' l.length (W.flatR l) → Y.grownBy w' (some z) → K (a.put o.dst s') w') : o.wp Try.prog a Y K Q := by
  obtain ⟨i0, hi, hz0, hz1, hz2⟩ := info_parts W.infoR
  have hown : Y.ownsRow z 36 7 (.slice (some ⟨z, 0, none⟩) 0 0) 0 [] := own_empty hz
  have hzl : z < Y.heap.size := by
    rcases Nat.lt_or_ge z Y.heap.size with h' | h'
    · exact h'
    · rw [Array.getElem?_eq_none h'] at hz; cases hz
  rcases hsrc with ⟨rfl, rfl, rfl⟩ | ⟨g, rfl, hg, hr⟩
  · have hrun := run_append_owned_none (P := Try.prog) (w := Y) z 23 o.type 36 i0 7 Try.underlying23 hi _ 0 [] hown
    unfold Oper.wp
    simp [execOp, ho, resolve, invoke, builtin, hs, hx, hrun, Result.andThen]
    exact h _ _ hown ⟨rfl, rfl, rfl, Nat.le_refl _, fun _ _ _ => rfl⟩
  · refine wp_append_own _ s x 23 ho z 36 i0 _ 7 72 Try.underlying23 hi hz0 hz1 hz2 rfl (by decide) _ 0 [] hs hown ⟨g, 0, none⟩ l.length c (W.flatR l) hx (W.flatR_len _) (W.flat_cells hr) (W.flatR_one _) (by unfold maxLen; omega) (by omega) (by omega) ?_
    intro s' w' ho' hg' hn'
    exact h s' w' (by simpa using ho') hg'
theorem W.step2 {o : Oper} {a : Act} {Y : World} {K : Act → World → Prop} {Q : Exit → Act → World → Prop} (B z : Nat) (s x : Operand)
    (ho : o.op = .call { callee := .builtin .append, args := #[s, x], argTypes := #[23, 23] }) (l : List W.WantD) (r : W.WantD) (v : Value)
    (hs : a.eval s = v) (hown : Y.ownsRow B 36 7 v l.length (W.flatR l)) (hB : B ≤ Y.heap.size) (hx : a.eval x = .slice (some ⟨z, 0, none⟩) 1 1) (hz : Y.heap[z]? = some (.cells r.cells.toArray 36)) (hl : l.length ≤ 1048576)
    (h : ∀ s' w', w'.ownsRow B 36 7 s' (l.length + 1) (W.flatR (l ++ [r])) → Y.grownBy w' v.ownBlock → K (a.put o.dst s') w') : o.wp Try.prog a Y K Q := by
  obtain ⟨i0, hi, hz0, hz1, hz2⟩ := info_parts W.infoR
  refine wp_append_own _ s x 23 ho B 36 i0 _ 7 72 Try.underlying23 hi hz0 hz1 hz2 rfl (by decide) v l.length _ hs hown ⟨z, 0, none⟩ 1 1 r.cells hx rfl (fun j u hj => cells_blk hz j u (by simpa using hj)) (W.one_cells r) (by unfold maxLen; omega) (by omega) hB ?_
  intro s' w' ho' hg' hn'
  refine h s' w' ?_ hg'
  have e : W.flatR (l ++ [r]) = W.flatR l ++ r.cells := by simp [W.flatR]
  rw [e]; exact ho'
theorem W.wantsOk_snoc (ws : List W.WantD) (r : W.WantD) (a : Option Addr) (p B : Nat) (y : World) (h : y.ownsRow B 36 7 (.slice a (ws.length + 1) p) (ws.length + 1) (W.flatR (ws ++ [r]))) (hf : ∀ x ∈ ws, x.fits) (hr : r.fits) (hl : ws.length ≤ 1000) :
    Calls Try.prog 29 #[.slice a (ws.length + 1) p] y fun e y' => (∃ q, e = .returned (.bool q)) ∧ Below y.heap.size y y' := by
  have e : ws.length + 1 = (ws ++ [r]).length := by simp
  rw [e] at h ⊢
  refine (W.specWantsOk_gv a p (ws ++ [r]) y (W.Sl.of_owns h).gv (fun x hx => ?_) (by simp; omega)).mono ?_
  · rcases List.mem_append.1 hx with h1 | h1
    · exact hf x h1
    · rw [List.mem_singleton.1 h1]; exact hr
  · rintro e y' ⟨⟨q, rfl, -⟩, hb⟩
    exact ⟨⟨q, rfl⟩, hb⟩
theorem fits_snoc {rs : List W.WantD} {r : W.WantD} (h : ∀ x ∈ rs, x.fits) (hr : r.fits) : ∀ x ∈ rs ++ [r], x.fits := by
  intro x hx
  rcases List.mem_append.1 hx with h1 | h1
  · exact h x h1
  · rw [List.mem_singleton.1 h1]; exact hr

theorem box7 {w3 y : World} {C : Array Value} (hb : Below (w3.alloc (.cells C 36)).heap.size (w3.alloc (.cells C 36)) y) : ∀ j, y.cell? ⟨w3.heap.size, j, none⟩ = C[j]? := by
  intro j
  rw [hb.cell (p := ⟨w3.heap.size, j, none⟩) (by simp)]
  simp [go_sem]

set_option maxRecDepth 4000 in
set_option maxHeartbeats 4000000 in
theorem wantsQ (kr : Nat) (q : Int) (w : World) (hr : Rq w kr q) (hq : q < 700000) :
    Calls Try.prog 169 #[.pointer (some ⟨kr, 0, none⟩)] w fun e w' => ∃ ws v, e = .returned v ∧ w'.ownsRow w.heap.size 36 7 v ws.length (W.flatR ws) ∧ ws.length ≤ 4 ∧ (∀ x ∈ ws, x.fits) ∧ Rq w' kr (q + 100) ∧ Ex kr w w' := by
  obtain ⟨i0, hi, hz0, hz1, hz2⟩ := info_parts W.infoR
  have hkr := hr.lt
  have nbw := build0w
  have HR : Hid (Rq w kr q) := hr
  clear hr
  go_enter Try.func169, Try.ntmps169
  go_wp2_with fail
  go_loopw [3, 4] (fun v i wx => ∃ (k : Nat) (ws : List W.WantD), k ≤ 4 ∧ i = .int .i64 k ∧ ws.length ≤ k ∧ Hid (∀ x ∈ ws, x.fits) ∧ Hid (wx.ownsRow w.heap.size 36 7 v ws.length (W.flatR ws)) ∧ Hid (Rq wx kr (q + 23 * k)) ∧ Hid (Ex kr w wx)) (fun _ i _ => 4 - (intOf i).toNat)
  case atStart => exact ⟨0, [], by omega, rfl, Nat.le_refl _, (fun x hx => by cases hx), own_empty (heap_new rfl), (HR.out.below (bl_alloc (Below.refl _ _) (.cells #[] 36))).up (by omega), Ex.of_below (bl_alloc (Below.refl _ _) _)⟩
  case round =>
    obtain ⟨k, ws, hk, rfl, hws, HF, HO, HQ, HE⟩ := hrel
    by_cases hlt : k < 4
    · go_wp2_with fail
      refine (pickQ kr _ 2 _ HQ.out (by omega) (by omega) (by omega)).mono ?_
      rintro e w1 ⟨m, rfl, m0, m1, r1, e1⟩
      have O1 : Hid (w1.ownsRow w.heap.size 36 7 u3 ws.length (W.flatR ws)) := ownsE HO.out e1 hkr
      have E1 : Hid (Ex kr w w1) := HE.out.trans e1
      have R1 : Hid (Rq w1 kr (q + 23 * k + 1)) := r1
      clear HO HE HQ r1 e1
      by_cases hm : m = 0
      · subst hm
        go_wp2_with fail
        refine (dec_small k (by omega) (by omega) _).mono ?_
        rintro e w2 ⟨x, rfl, hx, b2⟩
        have R2 : Hid (Rq w2 kr (q + 23 * k + 1)) := R1.out.below b2
        have E2 : Hid (Ex kr w w2) := E1.out.then_below b2
        have O2 : Hid (w2.ownsRow w.heap.size 36 7 u3 ws.length (W.flatR ws)) := owns_below O1.out b2
        clear b2 R1 E1 O1
        go_wp2_with fail
        refine (drawWantQ kr _ _ _ R2.out (by omega)).mono ?_
        rintro e w3 ⟨h, v1, p1, s, d, g, rfl, hh, r3, e3⟩
        have O3 : Hid (w3.ownsRow w.heap.size 36 7 u3 ws.length (W.flatR ws)) := ownsE O2.out e3 hkr
        have E3 : Hid (Ex kr w w3) := E2.out.trans e3
        have R3 : Hid (Rq w3 kr (q + 23 * k + 1 + 22)) := r3
        have hxs : ({ data := #[99] } ++ x).size ≤ maxLen := by rw [size_front, hx]; unfold maxLen; omega
        have hz3 : w.heap.size ≤ w3.heap.size := E3.out.size
        clear r3 e3 O2 E2 R2
        go_wp2_with fail
        obtain ⟨a3, p3, hs3⟩ := ownsShape O3.out
        subst hs3
        have HS : Hid (W.Src w3 a3 p3 ws) := (W.Sl.of_owns O3.out).src
        have HW : Hid ((⟨{ data := #[99] } ++ x, h, v1, p1, s, d, g⟩ : W.WantD).fits) := ⟨hxs, by show h.size ≤ maxLen; unfold maxLen; omega⟩
        have kx := box7 (C := #[.string ({ data := #[99] } ++ x), .int .i64 v1, .string h, .int .i64 p1, .int .i64 s, .int .i64 d, .int .i64 g]) (Below.refl (w3.alloc (.cells #[.string ({ data := #[99] } ++ x), .int .i64 v1, .string h, .int .i64 p1, .int .i64 s, .int .i64 d, .int .i64 g] 36)).heap.size (w3.alloc (.cells #[.string ({ data := #[99] } ++ x), .int .i64 v1, .string h, .int .i64 p1, .int .i64 s, .int .i64 d, .int .i64 g] 36)))
        go_cut [25] (fun v wx => (∃ b, v = .bool b) ∧ Below (w3.alloc (.cells #[.string ({ data := #[99] } ++ x), .int .i64 v1, .string h, .int .i64 p1, .int .i64 s, .int .i64 d, .int .i64 g] 36)).heap.size (w3.alloc (.cells #[.string ({ data := #[99] } ++ x), .int .i64 v1, .string h, .int .i64 p1, .int .i64 s, .int .i64 d, .int .i64 g] 36)) wx)
        case first =>
          have cB : Below (w3.alloc (.cells #[.string ({ data := #[99] } ++ x), .int .i64 v1, .string h, .int .i64 p1, .int .i64 s, .int .i64 d, .int .i64 g] 36)).heap.size (w3.alloc (.cells #[.string ({ data := #[99] } ++ x), .int .i64 v1, .string h, .int .i64 p1, .int .i64 s, .int .i64 d, .int .i64 g] 36)) (w3.alloc (.cells #[.string ({ data := #[99] } ++ x), .int .i64 v1, .string h, .int .i64 p1, .int .i64 s, .int .i64 d, .int .i64 g] 36)) := Below.refl _ _
          go_region_law (first
            | (refine wanted_if (by rfl) ?_; refine W.step1 _ (.tmp 19) (.tmp 20) rfl ws a3 p3 rfl (by first | exact heap_drew (heap_new (by simp)) | exact heap_drew (heap_old (heap_new (by simp))) | exact heap_new (by simp) | exact heap_old (heap_new (by simp))) rfl (HS.out.keep (bl_trans (bl_alloc (Below.refl _ _) _) (by repeat (first | exact cB | refine bl_alloc ?_ _ | refine bl_drew ?_)))) (by omega) ?_; intro s1 y1 ho1 hg1; have hp1 := grown_heap hg1; have hs1 := hg1.size; have cB1 : Below (w3.alloc (.cells #[.string ({ data := #[99] } ++ x), .int .i64 v1, .string h, .int .i64 p1, .int .i64 s, .int .i64 d, .int .i64 g] 36)).heap.size (w3.alloc (.cells #[.string ({ data := #[99] } ++ x), .int .i64 v1, .string h, .int .i64 p1, .int .i64 s, .int .i64 d, .int .i64 g] 36)) y1 := Below.grown (by repeat (first | exact cB | refine bl_alloc ?_ _ | refine bl_drew ?_)) hg1 (by have h9 := cB.size; first | omega | (simp at h9 ⊢; done) | (simp at h9 ⊢; omega)) (fun j hj => by cases hj; first | (simp; done) | (simp; omega)); clear cB hg1; have cB := cB1; clear cB1; have kx := box7 cB)
            | (refine wanted_if (by rfl) ?_; refine W.step2 _ _ (.tmp 21) (.tmp 23) rfl ws (⟨{ data := #[99] } ++ x, h, v1, p1, s, d, g⟩ : W.WantD) _ rfl (by first | exact ho1 | exact owns_below ho1 (bl_alloc (Below.refl _ _) _)) (by have h9 := hs1; first | (simp at h9 ⊢; done) | (simp at h9 ⊢; omega)) rfl (by first | exact hp1 _ _ (by first | exact heap_drew (heap_new (by simp)) | exact heap_drew (heap_old (heap_new (by simp))) | exact heap_new (by simp) | exact heap_old (heap_new (by simp))) (by simp) | first | exact heap_drew (heap_new (by simp)) | exact heap_drew (heap_old (heap_new (by simp))) | exact heap_new (by simp) | exact heap_old (heap_new (by simp))) (by omega) ?_; intro s2 y2 ho2 hg2; have cB2 : Below (w3.alloc (.cells #[.string ({ data := #[99] } ++ x), .int .i64 v1, .string h, .int .i64 p1, .int .i64 s, .int .i64 d, .int .i64 g] 36)).heap.size (w3.alloc (.cells #[.string ({ data := #[99] } ++ x), .int .i64 v1, .string h, .int .i64 p1, .int .i64 s, .int .i64 d, .int .i64 g] 36)) y2 := Below.grown (by repeat (first | exact cB | refine bl_alloc ?_ _ | refine bl_drew ?_)) hg2 (by have h9 := cB.size; first | omega | (simp at h9 ⊢; done) | (simp at h9 ⊢; omega)) (fun j hj => by have h1 := owns_ge ho1 j hj; first | (simp at h1 ⊢; done) | (simp at h1 ⊢; omega)); clear cB hg2; have cB := cB2; clear cB2; obtain ⟨a9, p9, hs9⟩ := ownsShape ho2; subst hs9)
            | (go_simp; go_at_call 29; refine (W.wantsOk_snoc ws (⟨{ data := #[99] } ++ x, h, v1, p1, s, d, g⟩ : W.WantD) a9 p9 _ _ ho2 HF.out HW.out (by omega)).mono ?_; rintro e y3 ⟨⟨qq, rfl⟩, hb3⟩; have cB3 := bl_trans cB hb3; clear cB hb3; have cB := cB3; clear cB3; go_wp2_with fail))
          all_goals (go_wp2_with fail; go_meet; exact ⟨⟨_, rfl⟩, cB⟩)
        case rest =>
          obtain ⟨⟨b, rfl⟩, c4⟩ := hcut
          have Bz : Hid (Below w3.heap.size w3 wc) := bl_trans (bl_alloc (Below.refl _ _) _) c4
          clear kx
          have kx := box7 c4
          have hz4 : w3.heap.size < wc.heap.size := Nat.lt_of_lt_of_le (by simp) c4.size
          clear c4
          cases b
          · go_wp2
            exact ⟨⟨k + 1, ws, by omega, by go_num, by omega, HF.out, owns_below O3.out Bz.out, (R3.out.below Bz.out).up (by omega), E3.out.then_below Bz.out⟩, by simp [intOf]; omega⟩
          · go_wp2_with (at_builtin; refine wpList_append_own _ rfl _ _ 23 rfl w.heap.size 36 i0 _ 7 72 Try.underlying23 hi hz0 hz1 hz2 rfl (by decide) (.slice a3 ws.length p3) ws.length _ rfl (by exact owns_below O3.out (bl_alloc Bz.out _)) ⟨_, 0, none⟩ 1 1 (⟨{ data := #[99] } ++ x, h, v1, p1, s, d, g⟩ : W.WantD).cells rfl rfl (new_cells _ _ (by simp) _ _ _ rfl) (W.one_cells _) (by unfold maxLen; omega) (by omega) (by have := (bl_alloc Bz.out (.cells #[] 36)).size; simp at this ⊢; omega) ?_; intro v' w5 ho hg hn)
            refine ⟨⟨k + 1, ws ++ [(⟨{ data := #[99] } ++ x, h, v1, p1, s, d, g⟩ : W.WantD)], by omega, by go_num, by simp; omega, fits_snoc HF.out HW.out, ?_, ((R3.out.below (bl_alloc Bz.out _)).grown hg (fun j hj => Nat.lt_of_lt_of_le hkr (owns_ge O3.out j hj))).up (by omega), (E3.out.then_below (bl_alloc Bz.out _)).grown hg (fun j hj => owns_ge O3.out j hj)⟩, by simp [intOf]; omega⟩
            show w5.ownsRow _ _ _ _ (ws ++ [(⟨{ data := #[99] } ++ x, h, v1, p1, s, d, g⟩ : W.WantD)]).length _
            rw [List.length_append]
            simpa [W.flatR] using ho
      · go_wp2
        exact ⟨⟨k + 1, ws, by omega, by go_num, by omega, HF.out, O1.out, R1.out.up (by omega), E1.out⟩, by simp [intOf]; omega⟩
    · go_wp2
      go_ret
      have hk4 : k = 4 := by omega
      subst hk4
      exact ⟨ws, _, rfl, HO.out, by omega, HF.out, HQ.out.up (by omega), HE.out⟩
end Go.Proofs.Ytkebokkckmgloaa
/- The contracts of MateAlive, the program's and the specification's. -/
namespace Go.Proofs.Ytkebokkckmgloaa
open Go.RowKit

theorem implAlive_any (c h : ByteArray) (v p s d g a b i u : Int) (w : World) :
    Calls Try.prog 23 #[.agg #[.string c, .int .i64 v, .string h, .int .i64 p, .int .i64 s, .int .i64 d, .int .i64 g, .int .i64 a, .int .i64 b, .int .i64 i, .int .i64 u]] w fun e w' => e = .returned (.bool (aliveB a)) ∧ Below w.heap.size w w' := by
  go_enter Try.func23, Try.ntmps23
  go_wp2_with (go_at_call 76; refine (alive_any a _).mono ?_; rintro e w' ⟨rfl, rfl⟩)
  go_ret
  exact ⟨rfl, bl_alloc (Below.refl _ _) _⟩

theorem specAlive_any (c h : ByteArray) (v p s d g a b i u : Int) (w : World) :
    Calls Try.prog 22 #[.agg #[.string c, .int .i64 v, .string h, .int .i64 p, .int .i64 s, .int .i64 d, .int .i64 g, .int .i64 a, .int .i64 b, .int .i64 i, .int .i64 u]] w fun e w' => e = .returned (.bool (aliveB a)) ∧ Below w.heap.size w w' := by
  by_cases h3 : a = 3
  · subst h3
    go_enter Try.func22, Try.ntmps22
    go_wp2
    go_ret
    exact ⟨rfl, bl_alloc (Below.refl _ _) _⟩
  · by_cases h4 : a = 4
    · subst h4
      go_enter Try.func22, Try.ntmps22
      go_wp2
      go_ret
      exact ⟨rfl, bl_alloc (Below.refl _ _) _⟩
    · have e3 : (a == 3) = false := by simpa using h3
      have e4 : (a == 4) = false := by simpa using h4
      have ea : aliveB a = (a == 6) := by simp [aliveB, e3, e4]
      rw [ea]
      clear ea h3 h4
      go_enter Try.func22, Try.ntmps22
      go_wp2
      go_ret
      exact ⟨rfl, bl_alloc (Below.refl _ _) _⟩
end Go.Proofs.Ytkebokkckmgloaa
/- Lists of runs that are given; those that are alive. -/
namespace Go.Proofs.Ytkebokkckmgloaa
open Go.RowKit
set_option linter.unusedVariables false

theorem filt_no {P : RunD → Bool} {rs : List RunD} {k : Nat} {r : RunD} (hr : rs[k]? = some r) (h : P r = false) : (rs.take (k + 1)).filter P = (rs.take k).filter P := by
  have hlt : k < rs.length := (List.getElem?_eq_some_iff.1 hr).1
  have he : rs[k] = r := by rw [List.getElem?_eq_getElem hlt] at hr; exact Option.some.inj hr
  rw [List.take_succ_eq_append_getElem hlt, List.filter_append, he]
  simp [h]
theorem filt_yes {P : RunD → Bool} {rs : List RunD} {k : Nat} {r : RunD} (hr : rs[k]? = some r) (h : P r = true) : (rs.take (k + 1)).filter P = (rs.take k).filter P ++ [r] := by
  have hlt : k < rs.length := (List.getElem?_eq_some_iff.1 hr).1
  have he : rs[k] = r := by rw [List.getElem?_eq_getElem hlt] at hr; exact Option.some.inj hr
  rw [List.take_succ_eq_append_getElem hlt, List.filter_append, he]
  simp [h]
theorem flatR_append (xs ys : List RunD) : flatR (xs ++ ys) = flatR xs ++ flatR ys := by simp [flatR]

set_option maxRecDepth 4000 in
set_option maxHeartbeats 1000000 in
theorem filterAlive (a : Option Addr) (cap : Nat) (rs : List RunD) (w : World) (hG : Gv w a rs) (hl : rs.length ≤ 1048576) :
    Calls Try.prog 123 #[.slice a rs.length cap, .func (.func 23) #[] #[]] w fun e w' => (∃ v, e = .returned v ∧ Sl w' v (rs.filter (fun r => aliveB r.a)) w.heap.size) ∧ Below w.heap.size w w' := by
  obtain ⟨i0, hi, hz0, hz1, hz2⟩ := info_parts infoR
  go_enter Try.func123, Try.ntmps123
  go_wp2
  go_loopw [5, 10] (fun v i wx => ∃ (k : Nat), k ≤ rs.length ∧ i = .int .i64 k ∧ wx.ownsRow w.heap.size 38 11 v ((rs.take k).filter (fun r => aliveB r.a)).length (flatR ((rs.take k).filter (fun r => aliveB r.a))) ∧ Below w.heap.size w wx) (fun _ i _ => rs.length - (intOf i).toNat)
  case atStart => exact ⟨0, Nat.zero_le _, rfl, World.ownsRow_nil _ _ _ _, Below.refl _ _⟩
  case round =>
    obtain ⟨k, hk, rfl, hown, hB⟩ := hrel
    by_cases hlt : k < rs.length
    · obtain ⟨b, rfl, l1, hR⟩ := hG.resolve_left (fun h => by rw [h] at hlt; simp at hlt)
      obtain ⟨r, hr⟩ : ∃ r, rs[k]? = some r := ⟨rs[k], List.getElem?_eq_getElem hlt⟩
      have Hr : Hid _ := hr
      obtain ⟨c0, c1, c2, c3, c4, c5, c6, c7, c8, c9, c10⟩ := (hR.keep l1 hB).at hr
      simp only [Nat.zero_add] at c0 c1 c2 c3 c4 c5 c6 c7 c8 c9 c10
      obtain ⟨n, hn⟩ : ∃ n, n = ((rs.take k).filter (fun r => aliveB r.a)).length := ⟨_, rfl⟩
      obtain ⟨xs, hxs⟩ : ∃ xs, xs = flatR ((rs.take k).filter (fun r => aliveB r.a)) := ⟨_, rfl⟩
      have hnk : n ≤ 1048576 := by rw [hn]; exact Nat.le_trans (List.length_filter_le _ _) (by rw [List.length_take]; omega)
      rw [← hn, ← hxs] at hown
      have Ho : Hid _ := hown
      have Hn : Hid _ := hn
      have Hx : Hid _ := hxs
      clear hr hown hn hxs hG
      go_wp2_with fail
      refine (implAlive_any r.c r.h r.v r.p r.s r.d r.g r.a r.b r.i r.u _).mono ?_
      rintro e w1 ⟨rfl, hb⟩
      have hB1 := bl_trans (bl_alloc hB _) hb
      have hb2 : Below wr.heap.size wr w1 := bl_trans (bl_alloc (Below.refl _ _) _) hb
      have Ho1 : Hid (w1.ownsRow w.heap.size 38 11 u5 n xs) := owns_below Ho.out hb2
      have kb := box_keep hb
      have kz : wr.heap.size < w1.heap.size := by have := hb.size; simp at this; omega
      have Hb1 : Hid (Below w.heap.size w w1) := hB1
      clear c0 c1 c2 c3 c4 c5 c6 c7 c8 c9 c10 hb hb2 hB1 Ho
      cases hP : aliveB r.a
      · go_wp2
        refine ⟨⟨k + 1, by omega, by go_num, ?_, Hb1.out⟩, by simp [intOf]; omega⟩
        have hr := Hr.out
        rw [filt_no hr (by simp [hP]), ← Hn.out, ← Hx.out]
        exact Ho1.out
      · go_wp2_with (at_builtin; refine wpList_append_own _ rfl _ _ 24 rfl w.heap.size 38 i0 _ 11 104 Try.underlying24 hi hz0 hz1 hz2 rfl (by decide) _ n _ rfl (by exact owns_below Ho1.out (bl_alloc (Below.refl _ _) _)) ⟨_, 0, none⟩ 1 1 r.cells rfl rfl (new_cells _ _ (by simp) _ _ _ rfl) (cellsR_one _) (by unfold maxLen; omega) (by omega) (by have := Hb1.out.size; simp; omega) ?_; intro v' w2 ho2 hg2 hn2)
        refine ⟨⟨k + 1, by omega, by go_num, ?_, Below.grown (bl_alloc Hb1.out _) hg2 (by have := Hb1.out.size; simp; omega) (owns_ge Ho1.out)⟩, by simp [intOf]; omega⟩
        have hr := Hr.out
        rw [filt_yes hr (by simp [hP]), List.length_append, flatR_append, ← Hn.out, ← Hx.out]
        simpa [flatR] using ho2
    · go_wp2
      go_ret
      have hk' : k = rs.length := by omega
      subst hk'
      rw [List.take_of_length_le (Nat.le_refl _)] at hown
      exact ⟨⟨_, rfl, Sl.of_owns hown⟩, hB⟩
end Go.Proofs.Ytkebokkckmgloaa
