import Derived.Test.YtgakmkhbnjofhaaGreatDoorJ09
import Derived.Test.YtgakmkhbnjofhaaGreatDoorJ06
import Derived.Test.YtgakmkhbnjofhaaGreatDoorJ08
import Derived.Test.YtgakmkhbnjofhaaGreatDoorJ01
import Derived.Deep.MidRow
import Derived.Deep.RegionHeld3
import Derived.Laws.Pointers
import Derived.StillTactics
import Derived.Test.YtgakmkhbnjofhaaGreatDoorJ05
import Derived.Deep.QuietTactic
import Derived.BigQuiet
import Derived.Test.YtgakmkhbnjofhaaGreatDoorJ10
import Derived.Laws.MakeOwn
import Derived.Laws.AppendOwn
import Derived.Laws.AppendOwnNone
import Derived.Deep.RegionLaw
import Derived.Deep.DeepCutAuto
import Derived.Lib.ItoaNum
namespace Go.Proofs.YtgakmkhbnjofhaaGreatDoor
open Go.RowKit
set_option linter.unusedVariables false
theorem W.specWants_zero (a : Option Addr) (cap : Nat) (w : World) :
  Calls Tryz.prog 14 #[.slice a 0 cap] w fun e w' => e = .returned (.bool true) ∧ w' = w := by
 go_enter Tryz.func14, Tryz.ntmps14
 go_wp2
 refine wp_loop_rounds 1 ?_
 rw [rounds_succ]
 go_wp2
 go_ret
 exact ⟨rfl, rfl⟩
theorem W.specWantsOk_gv (a : Option Addr) (cap : Nat) (ws : List W.WantD) (w : World) (h : W.Gv w a ws) (hfit : ∀ r ∈ ws, r.fits) (hl : ws.length ≤ 1048576) :
  Calls Tryz.prog 14 #[.slice a ws.length cap] w fun e w' => (∃ q : Bool, e = .returned (.bool q) ∧ W.Says q ws) ∧ Below w.heap.size w w' := by
 rcases h with rfl | ⟨b, rfl, hb, hR⟩
 ·
  refine (W.specWants_zero a cap w).mono ?_
  rintro e w' ⟨rfl, rfl⟩
  exact ⟨⟨true, rfl, ⟨fun _ => ⟨by simp, (fun j r hj hr => by simp at hr), (fun j q r hj hq hr => by simp at hq), (fun j r hj hr => by simp at hr)⟩, fun _ => rfl⟩⟩, Below.refl _ _⟩
 ·
  exact W.specWantsOk b 0 cap ws w hR hb hfit hl
theorem flat_cells {w : World} {g : Nat} {l : List RunD} (h : RowsAt w g 0 l) : ∀ j u, (flatR l)[j]? = some u → w.cell? ((⟨g, 0, none⟩ : Addr).add j) = some u := by
 intro j u hj
 have hlt : j < l.length * 11 := by rw [← flatR_len]; exact (List.getElem?_eq_some_iff.1 hj).1
 have hk : j / 11 < l.length := by omega
 have hr : j % 11 < 11 := Nat.mod_lt _ (by decide)
 have e : j / 11 * 11 + j % 11 = j := by omega
 have h1 := flatR_at l (j / 11) l[j / 11] (List.getElem?_eq_getElem hk) (j % 11) hr
 rw [e, hj] at h1
 have h2 := h (j / 11) l[j / 11] (List.getElem?_eq_getElem hk) (j % 11) u h1.symm
 rw [Addr.add_mid]
 rw [show 0 + j / 11 * 11 + j % 11 = 0 + j from by omega] at h2
 exact h2
end Go.Proofs.YtgakmkhbnjofhaaGreatDoor
namespace Go.Proofs.YtgakmkhbnjofhaaGreatDoor.W
open Go.RowKit
set_option linter.unusedVariables false
theorem flat_cells {w : World} {g : Nat} {l : List WantD} (h : RowsAt w g 0 l) : ∀ j u, (flatR l)[j]? = some u → w.cell? ((⟨g, 0, none⟩ : Addr).add j) = some u := by
 intro j u hj
 have hlt : j < l.length * 7 := by rw [← flatR_len]; exact (List.getElem?_eq_some_iff.1 hj).1
 have hk : j / 7 < l.length := by omega
 have hr : j % 7 < 7 := Nat.mod_lt _ (by decide)
 have e : j / 7 * 7 + j % 7 = j := by omega
 have h1 := flatR_at l (j / 7) l[j / 7] (List.getElem?_eq_getElem hk) (j % 7) hr
 rw [e, hj] at h1
 have h2 := h (j / 7) l[j / 7] (List.getElem?_eq_getElem hk) (j % 7) u h1.symm
 rw [Addr.add_mid]
 rw [show 0 + j / 7 * 7 + j % 7 = 0 + j from by omega] at h2
 exact h2
end Go.Proofs.YtgakmkhbnjofhaaGreatDoor.W
namespace Go.Proofs.YtgakmkhbnjofhaaGreatDoor
open Go.RowKit
set_option linter.unusedVariables false
theorem W.Sl.shape {w : World} {v : Value} {l : List W.WantD} {B : Nat} (h : W.Sl w v l B) : ∃ a c, v = .slice a l.length c := by
 rcases h with ⟨rfl, rfl⟩ | ⟨g, cap, rfl, -⟩
 ·
  exact ⟨none, 0, rfl⟩
 ·
  exact ⟨_, _, rfl⟩
theorem Sl.shape {w : World} {v : Value} {l : List RunD} {B : Nat} (h : Sl w v l B) : ∃ a c, v = .slice a l.length c := by
 rcases h with ⟨rfl, rfl⟩ | ⟨g, cap, rfl, -⟩
 ·
  exact ⟨none, 0, rfl⟩
 ·
  exact ⟨_, _, rfl⟩
theorem build0w (w : World) : Sem.run Tryz.prog (Instr.buildSlice 23 0 #[]) w = .ok (.slice (some ⟨w.heap.size, 0, none⟩) 0 0) (w.alloc (.cells #[] 46)) := by kernel_rfl
theorem build0r (w : World) : Sem.run Tryz.prog (Instr.buildSlice 33 0 #[]) w = .ok (.slice (some ⟨w.heap.size, 0, none⟩) 0 0) (w.alloc (.cells #[] 73)) := by kernel_rfl
def W.Src (w : World) (a : Option Addr) (c : Nat) (l : List W.WantD) : Prop := (a = none ∧ c = 0 ∧ l = []) ∨ ∃ g, a = some ⟨g, 0, none⟩ ∧ g < w.heap.size ∧ W.RowsAt w g 0 l
theorem W.Src.keep {w w' : World} {a : Option Addr} {c : Nat} {l : List W.WantD} (h : W.Src w a c l) (hb : Below w.heap.size w w') : W.Src w' a c l := by
 rcases h with h | ⟨g, h1, h2, h3⟩
 ·
  exact Or.inl h
 ·
  exact Or.inr ⟨g, h1, Nat.lt_of_lt_of_le h2 hb.size, h3.keep h2 hb⟩
theorem W.Sl.src {w : World} {a : Option Addr} {c B : Nat} {l : List W.WantD} (h : W.Sl w (.slice a l.length c) l B) : W.Src w a c l := by
 rcases h with ⟨h, rfl⟩ | ⟨g, cap, h0, h1, h2, h3, h4⟩
 ·
  cases h; exact Or.inl ⟨rfl, rfl, rfl⟩
 ·
  cases h0; exact Or.inr ⟨g, rfl, h2, h3⟩
theorem wanted_if {c : Bool} {p q : Prop} (h : c = true) (hp : p) : if c = true then p else q := by rw [if_pos h]; exact hp
theorem heap_new {y : World} {o : Obj} {z : Nat} (hz : z = y.heap.size) : (y.alloc o).heap[z]? = some o := by
 subst hz
 show (y.heap.push o)[y.heap.size]? = some o
 simp
theorem heap_old {y : World} {o o' : Obj} {z : Nat} (h : y.heap[z]? = some o) : (y.alloc o').heap[z]? = some o := by
 have hz : z < y.heap.size := by
  rcases Nat.lt_or_ge z y.heap.size with h' | h'
  ·
   exact h'
  ·
   rw [Array.getElem?_eq_none h'] at h; cases h
 show (y.heap.push o')[z]? = some o
 rw [Array.getElem?_push_lt hz, ← h, Array.getElem?_eq_getElem hz]
theorem heap_drew {y : World} {o : Obj} {z : Nat} (h : y.heap[z]? = some o) : (y.drew).heap[z]? = some o := h
theorem grown_heap {x y : World} {z : Nat} (hg : x.grownBy y (some z)) : ∀ j o, x.heap[j]? = some o → j ≠ z → y.heap[j]? = some o := by
 intro j o h hne
 have hz : j < x.heap.size := by
  rcases Nat.lt_or_ge j x.heap.size with h' | h'
  ·
   exact h'
  ·
   rw [Array.getElem?_eq_none h'] at h; cases h
 rw [hg.block j hz (fun e => hne (Option.some.inj e))]; exact h
theorem own_empty {y : World} {z size : Nat} {t : TypeId} (h : y.heap[z]? = some (.cells #[] t)) : y.ownsRow z t size (.slice (some ⟨z, 0, none⟩) 0 0) 0 [] :=
 ⟨by simp, Or.inr ⟨z, 0, #[], rfl, Nat.le_refl _, h, Nat.le_refl _, Nat.zero_le _, by simp, by simp⟩⟩
theorem cells_blk {y : World} {u : Nat} {C : Array Value} {t : TypeId} (h : y.heap[u]? = some (.cells C t)) : ∀ j v, C.toList[j]? = some v → y.cell? ((⟨u, 0, none⟩ : Addr).add j) = some v := by
 intro j v hj
 rw [Addr.add_mid]
 rw [cell_of_row y u _ C _ (0, 0) h, Nat.zero_add]
 simpa using hj
theorem ownsE {x y : World} {base k : Nat} {e : TypeId} {size : Nat} {v : Value} {n : Nat} {xs : List Value} (h : x.ownsRow base e size v n xs) (he : Ex k x y) (hk : k < base) : y.ownsRow base e size v n xs :=
 ⟨h.1, h.2.imp id (fun ⟨g, cap, cur, h1, h2, h3, h4⟩ => ⟨g, cap, cur, h1, h2, by
  have hg : g < x.heap.size := by
   rcases Nat.lt_or_ge g x.heap.size with h' | h'
   ·
    exact h'
   ·
    rw [Array.getElem?_eq_none h'] at h3; cases h3
  rw [he.block g hg (by omega)]; exact h3, h4⟩)⟩
theorem ownsShape {x : World} {base : Nat} {e : TypeId} {size : Nat} {v : Value} {n : Nat} {xs : List Value} (h : x.ownsRow base e size v n xs) : ∃ a p, v = .slice a n p := by
 rcases h.2 with ⟨h1, h2⟩ | ⟨g, cap, cur, h1, -⟩
 ·
  subst h2; exact ⟨none, 0, h1⟩
 ·
  exact ⟨_, _, h1⟩
theorem W.one_cells (r : W.WantD) : ∀ u ∈ r.cells, u.oneCell' = true := by
 intro u hu
 exact W.flatR_one [r] u (by simpa [W.flatR] using hu)
theorem W.step1 {o : Oper} {a : Act} {Y : World} {K : Act → World → Prop} {Q : Exit → Act → World → Prop} (z : Nat) (s x : Operand)
  (ho : o.op = .call { callee := .builtin .append, args := #[s, x], argTypes := #[23, 23] }) (l : List W.WantD) (ad : Option Addr) (c : Nat)
  (hs : a.eval s = .slice (some ⟨z, 0, none⟩) 0 0) (hz : Y.heap[z]? = some (.cells #[] 46)) (hx : a.eval x = .slice ad l.length c) (hsrc : W.Src Y ad c l) (hl : l.length ≤ 1048576)
  (h : ∀ s' w', w'.ownsRow z 46 7 s' l.length (W.flatR l) → Y.grownBy w' (some z) → K (a.put o.dst s') w') : o.wp Tryz.prog a Y K Q := by
 obtain ⟨i0, hi, hz0, hz1, hz2⟩ := info_parts W.infoR
 have hown : Y.ownsRow z 46 7 (.slice (some ⟨z, 0, none⟩) 0 0) 0 [] := own_empty hz
 have hzl : z < Y.heap.size := by
  rcases Nat.lt_or_ge z Y.heap.size with h' | h'
  ·
   exact h'
  ·
   rw [Array.getElem?_eq_none h'] at hz; cases hz
 rcases hsrc with ⟨rfl, rfl, rfl⟩ | ⟨g, rfl, hg, hr⟩
 ·
  have hrun := run_append_owned_none (P := Tryz.prog) (w := Y) z 23 o.type 46 i0 7 Tryz.underlying23 hi _ 0 [] hown
  unfold Oper.wp
  simp [execOp, ho, resolve, invoke, builtin, hs, hx, hrun, Result.andThen]
  exact h _ _ hown ⟨rfl, rfl, rfl, Nat.le_refl _, fun _ _ _ => rfl⟩
 ·
  refine wp_append_own _ s x 23 ho z 46 i0 _ 7 72 Tryz.underlying23 hi hz0 hz1 hz2 rfl (by decide) _ 0 [] hs hown ⟨g, 0, none⟩ l.length c (W.flatR l) hx (W.flatR_len _) (W.flat_cells hr) (W.flatR_one _) (by unfold maxLen; omega) (by omega) (by omega) ?_
  intro s' w' ho' hg' hn'
  exact h s' w' (by simpa using ho') hg'
theorem W.step2 {o : Oper} {a : Act} {Y : World} {K : Act → World → Prop} {Q : Exit → Act → World → Prop} (B z : Nat) (s x : Operand)
  (ho : o.op = .call { callee := .builtin .append, args := #[s, x], argTypes := #[23, 23] }) (l : List W.WantD) (r : W.WantD) (v : Value)
  (hs : a.eval s = v) (hown : Y.ownsRow B 46 7 v l.length (W.flatR l)) (hB : B ≤ Y.heap.size) (hx : a.eval x = .slice (some ⟨z, 0, none⟩) 1 1) (hz : Y.heap[z]? = some (.cells r.cells.toArray 46)) (hl : l.length ≤ 1048576)
  (h : ∀ s' w', w'.ownsRow B 46 7 s' (l.length + 1) (W.flatR (l ++ [r])) → Y.grownBy w' v.ownBlock → K (a.put o.dst s') w') : o.wp Tryz.prog a Y K Q := by
 obtain ⟨i0, hi, hz0, hz1, hz2⟩ := info_parts W.infoR
 refine wp_append_own _ s x 23 ho B 46 i0 _ 7 72 Tryz.underlying23 hi hz0 hz1 hz2 rfl (by decide) v l.length _ hs hown ⟨z, 0, none⟩ 1 1 r.cells hx rfl (fun j u hj => cells_blk hz j u (by simpa using hj)) (W.one_cells r) (by unfold maxLen; omega) (by omega) hB ?_
 intro s' w' ho' hg' hn'
 refine h s' w' ?_ hg'
 have e : W.flatR (l ++ [r]) = W.flatR l ++ r.cells := by simp [W.flatR]
 rw [e]; exact ho'
theorem W.wantsOk_snoc (ws : List W.WantD) (r : W.WantD) (a : Option Addr) (p B : Nat) (y : World) (h : y.ownsRow B 46 7 (.slice a (ws.length + 1) p) (ws.length + 1) (W.flatR (ws ++ [r]))) (hf : ∀ x ∈ ws, x.fits) (hr : r.fits) (hl : ws.length ≤ 1000) :
  Calls Tryz.prog 14 #[.slice a (ws.length + 1) p] y fun e y' => (∃ q, e = .returned (.bool q)) ∧ Below y.heap.size y y' := by
 have e : ws.length + 1 = (ws ++ [r]).length := by simp
 rw [e] at h ⊢
 refine (W.specWantsOk_gv a p (ws ++ [r]) y (W.Sl.of_owns h).gv (fun x hx => ?_) (by simp; omega)).mono ?_
 ·
  rcases List.mem_append.1 hx with h1 | h1
  ·
   exact hf x h1
  ·
   rw [List.mem_singleton.1 h1]; exact hr
 ·
  rintro e y' ⟨⟨q, rfl, -⟩, hb⟩
  exact ⟨⟨q, rfl⟩, hb⟩
theorem fits_snoc {rs : List W.WantD} {r : W.WantD} (h : ∀ x ∈ rs, x.fits) (hr : r.fits) : ∀ x ∈ rs ++ [r], x.fits := by
 intro x hx
 rcases List.mem_append.1 hx with h1 | h1
 ·
  exact h x h1
 ·
  rw [List.mem_singleton.1 h1]; exact hr
theorem box7 {w3 y : World} {C : Array Value} (hb : Below (w3.alloc (.cells C 46)).heap.size (w3.alloc (.cells C 46)) y) : ∀ j, y.cell? ⟨w3.heap.size, j, none⟩ = C[j]? := by
 intro j
 rw [hb.cell (p := ⟨w3.heap.size, j, none⟩) (by simp)]
 simp [go_sem]
set_option maxRecDepth 4000 in
set_option maxHeartbeats 4000000 in
theorem wantsQ (kr : Nat) (q : Int) (w : World) (hr : Rq w kr q) (hq : q < 700000) :
  Calls Tryz.prog 35 #[.pointer (some ⟨kr, 0, none⟩)] w fun e w' => ∃ ws v, e = .returned v ∧ w'.ownsRow w.heap.size 46 7 v ws.length (W.flatR ws) ∧ ws.length ≤ 4 ∧ (∀ x ∈ ws, x.fits) ∧ Rq w' kr (q + 100) ∧ Ex kr w w' := by
 obtain ⟨i0, hi, hz0, hz1, hz2⟩ := info_parts W.infoR
 have hkr := hr.lt
 have nbw := build0w
 have HR : Hid (Rq w kr q) := hr
 clear hr
 go_enter Tryz.func35, Tryz.ntmps35
 go_wp2_with fail
 go_loopw [3, 4] (fun v i wx => ∃ (k : Nat) (ws : List W.WantD), k ≤ 4 ∧ i = .int .i64 k ∧ ws.length ≤ k ∧ Hid (∀ x ∈ ws, x.fits) ∧ Hid (wx.ownsRow w.heap.size 46 7 v ws.length (W.flatR ws)) ∧ Hid (Rq wx kr (q + 23 * k)) ∧ Hid (Ex kr w wx)) (fun _ i _ => 4 - (intOf i).toNat)
 case atStart => exact ⟨0, [], by omega, rfl, Nat.le_refl _, (fun x hx => by cases hx), own_empty (heap_new rfl), (HR.out.below (bl_alloc (Below.refl _ _) (.cells #[] 46))).up (by omega), Ex.of_below (bl_alloc (Below.refl _ _) _)⟩
 case round =>
  obtain ⟨k, ws, hk, rfl, hws, HF, HO, HQ, HE⟩ := hrel
  by_cases hlt : k < 4
  ·
   go_wp2_with fail
   refine (pickQ kr _ 2 _ HQ.out (by omega) (by omega) (by omega)).mono ?_
   rintro e w1 ⟨m, rfl, m0, m1, r1, e1⟩
   have O1 : Hid (w1.ownsRow w.heap.size 46 7 u3 ws.length (W.flatR ws)) := ownsE HO.out e1 hkr
   have E1 : Hid (Ex kr w w1) := HE.out.trans e1
   have R1 : Hid (Rq w1 kr (q + 23 * k + 1)) := r1
   clear HO HE HQ r1 e1
   by_cases hm : m = 0
   ·
    subst hm
    go_wp2_with fail
    refine (dec_small k (by omega) (by omega) _).mono ?_
    rintro e w2 ⟨x, rfl, hx, b2⟩
    have R2 : Hid (Rq w2 kr (q + 23 * k + 1)) := R1.out.below b2
    have E2 : Hid (Ex kr w w2) := E1.out.then_below b2
    have O2 : Hid (w2.ownsRow w.heap.size 46 7 u3 ws.length (W.flatR ws)) := owns_below O1.out b2
    clear b2 R1 E1 O1
    go_wp2_with fail
    refine (drawWantQ kr _ _ _ R2.out (by omega)).mono ?_
    rintro e w3 ⟨h, v1, p1, s, d, g, rfl, hh, r3, e3⟩
    have O3 : Hid (w3.ownsRow w.heap.size 46 7 u3 ws.length (W.flatR ws)) := ownsE O2.out e3 hkr
    have E3 : Hid (Ex kr w w3) := E2.out.trans e3
    have R3 : Hid (Rq w3 kr (q + 23 * k + 1 + 22)) := r3
    have hxs : ({ data := #[99] } ++ x).size ≤ maxLen := by rw [size_front, hx]; unfold maxLen; omega
    have hz3 : w.heap.size ≤ w3.heap.size := E3.out.size
    clear r3 e3 O2 E2 R2
    go_wp2_with fail
    obtain ⟨a3, p3, hs3⟩ := ownsShape O3.out
    subst hs3
    have HS : Hid (W.Src w3 a3 p3 ws) := (W.Sl.of_owns O3.out).src
    have HW : Hid ((⟨{ data := #[99] } ++ x, h, v1, p1, s, d, g⟩ : W.WantD).fits) := ⟨hxs, by show h.size ≤ maxLen; unfold maxLen; omega⟩
    have kx := box7 (C := #[.string ({ data := #[99] } ++ x), .int .i64 v1, .string h, .int .i64 p1, .int .i64 s, .int .i64 d, .int .i64 g]) (Below.refl (w3.alloc (.cells #[.string ({ data := #[99] } ++ x), .int .i64 v1, .string h, .int .i64 p1, .int .i64 s, .int .i64 d, .int .i64 g] 46)).heap.size (w3.alloc (.cells #[.string ({ data := #[99] } ++ x), .int .i64 v1, .string h, .int .i64 p1, .int .i64 s, .int .i64 d, .int .i64 g] 46)))
    go_cut [25] (fun v wx => (∃ b, v = .bool b) ∧ Below (w3.alloc (.cells #[.string ({ data := #[99] } ++ x), .int .i64 v1, .string h, .int .i64 p1, .int .i64 s, .int .i64 d, .int .i64 g] 46)).heap.size (w3.alloc (.cells #[.string ({ data := #[99] } ++ x), .int .i64 v1, .string h, .int .i64 p1, .int .i64 s, .int .i64 d, .int .i64 g] 46)) wx)
    case first =>
     have cB : Below (w3.alloc (.cells #[.string ({ data := #[99] } ++ x), .int .i64 v1, .string h, .int .i64 p1, .int .i64 s, .int .i64 d, .int .i64 g] 46)).heap.size (w3.alloc (.cells #[.string ({ data := #[99] } ++ x), .int .i64 v1, .string h, .int .i64 p1, .int .i64 s, .int .i64 d, .int .i64 g] 46)) (w3.alloc (.cells #[.string ({ data := #[99] } ++ x), .int .i64 v1, .string h, .int .i64 p1, .int .i64 s, .int .i64 d, .int .i64 g] 46)) := Below.refl _ _
     go_region_law (first
      | (refine wanted_if (by rfl) ?_; refine W.step1 _ (.tmp 19) (.tmp 20) rfl ws a3 p3 rfl (by first | exact heap_drew (heap_new (by simp)) | exact heap_drew (heap_old (heap_new (by simp))) | exact heap_new (by simp) | exact heap_old (heap_new (by simp))) rfl (HS.out.keep (bl_trans (bl_alloc (Below.refl _ _) _) (by repeat (first | exact cB | refine bl_alloc ?_ _ | refine bl_drew ?_)))) (by omega) ?_; intro s1 y1 ho1 hg1; have hp1 := grown_heap hg1; have hs1 := hg1.size; have cB1 : Below (w3.alloc (.cells #[.string ({ data := #[99] } ++ x), .int .i64 v1, .string h, .int .i64 p1, .int .i64 s, .int .i64 d, .int .i64 g] 46)).heap.size (w3.alloc (.cells #[.string ({ data := #[99] } ++ x), .int .i64 v1, .string h, .int .i64 p1, .int .i64 s, .int .i64 d, .int .i64 g] 46)) y1 := Below.grown (by repeat (first | exact cB | refine bl_alloc ?_ _ | refine bl_drew ?_)) hg1 (by have h9 := cB.size; first | omega | (simp at h9 ⊢; done) | (simp at h9 ⊢; omega)) (fun j hj => by cases hj; first | (simp; done) | (simp; omega)); clear cB hg1; have cB := cB1; clear cB1; have kx := box7 cB)
      | (refine wanted_if (by rfl) ?_; refine W.step2 _ _ (.tmp 21) (.tmp 23) rfl ws (⟨{ data := #[99] } ++ x, h, v1, p1, s, d, g⟩ : W.WantD) _ rfl (by first | exact ho1 | exact owns_below ho1 (bl_alloc (Below.refl _ _) _)) (by have h9 := hs1; first | (simp at h9 ⊢; done) | (simp at h9 ⊢; omega)) rfl (by first | exact hp1 _ _ (by first | exact heap_drew (heap_new (by simp)) | exact heap_drew (heap_old (heap_new (by simp))) | exact heap_new (by simp) | exact heap_old (heap_new (by simp))) (by simp) | first | exact heap_drew (heap_new (by simp)) | exact heap_drew (heap_old (heap_new (by simp))) | exact heap_new (by simp) | exact heap_old (heap_new (by simp))) (by omega) ?_; intro s2 y2 ho2 hg2; have cB2 : Below (w3.alloc (.cells #[.string ({ data := #[99] } ++ x), .int .i64 v1, .string h, .int .i64 p1, .int .i64 s, .int .i64 d, .int .i64 g] 46)).heap.size (w3.alloc (.cells #[.string ({ data := #[99] } ++ x), .int .i64 v1, .string h, .int .i64 p1, .int .i64 s, .int .i64 d, .int .i64 g] 46)) y2 := Below.grown (by repeat (first | exact cB | refine bl_alloc ?_ _ | refine bl_drew ?_)) hg2 (by have h9 := cB.size; first | omega | (simp at h9 ⊢; done) | (simp at h9 ⊢; omega)) (fun j hj => by have h1 := owns_ge ho1 j hj; first | (simp at h1 ⊢; done) | (simp at h1 ⊢; omega)); clear cB hg2; have cB := cB2; clear cB2; obtain ⟨a9, p9, hs9⟩ := ownsShape ho2; subst hs9)
      | (go_simp; go_at_call 14; refine (W.wantsOk_snoc ws (⟨{ data := #[99] } ++ x, h, v1, p1, s, d, g⟩ : W.WantD) a9 p9 _ _ ho2 HF.out HW.out (by omega)).mono ?_; rintro e y3 ⟨⟨qq, rfl⟩, hb3⟩; have cB3 := bl_trans cB hb3; clear cB hb3; have cB := cB3; clear cB3; go_wp2_with fail))
     all_goals (go_wp2_with fail; go_meet; exact ⟨⟨_, rfl⟩, cB⟩)
    case rest =>
     obtain ⟨⟨b, rfl⟩, c4⟩ := hcut
     have Bz : Hid (Below w3.heap.size w3 wc) := bl_trans (bl_alloc (Below.refl _ _) _) c4
     clear kx
     have kx := box7 c4
     have hz4 : w3.heap.size < wc.heap.size := Nat.lt_of_lt_of_le (by simp) c4.size
     clear c4
     cases b
     ·
      go_wp2
      exact ⟨⟨k + 1, ws, by omega, by go_num, by omega, HF.out, owns_below O3.out Bz.out, (R3.out.below Bz.out).up (by omega), E3.out.then_below Bz.out⟩, by simp [intOf]; omega⟩
     ·
      go_wp2_with (at_builtin; refine wpList_append_own _ rfl _ _ 23 rfl w.heap.size 46 i0 _ 7 72 Tryz.underlying23 hi hz0 hz1 hz2 rfl (by decide) (.slice a3 ws.length p3) ws.length _ rfl (by exact owns_below O3.out (bl_alloc Bz.out _)) ⟨_, 0, none⟩ 1 1 (⟨{ data := #[99] } ++ x, h, v1, p1, s, d, g⟩ : W.WantD).cells rfl rfl (new_cells _ _ (by simp) _ _ _ rfl) (W.one_cells _) (by unfold maxLen; omega) (by omega) (by have := (bl_alloc Bz.out (.cells #[] 46)).size; simp at this ⊢; omega) ?_; intro v' w5 ho hg hn)
      refine ⟨⟨k + 1, ws ++ [(⟨{ data := #[99] } ++ x, h, v1, p1, s, d, g⟩ : W.WantD)], by omega, by go_num, by simp; omega, fits_snoc HF.out HW.out, ?_, ((R3.out.below (bl_alloc Bz.out _)).grown hg (fun j hj => Nat.lt_of_lt_of_le hkr (owns_ge O3.out j hj))).up (by omega), (E3.out.then_below (bl_alloc Bz.out _)).grown hg (fun j hj => owns_ge O3.out j hj)⟩, by simp [intOf]; omega⟩
      show w5.ownsRow _ _ _ _ (ws ++ [(⟨{ data := #[99] } ++ x, h, v1, p1, s, d, g⟩ : W.WantD)]).length _
      rw [List.length_append]
      simpa [W.flatR] using ho
   ·
    go_wp2
    exact ⟨⟨k + 1, ws, by omega, by go_num, by omega, HF.out, O1.out, R1.out.up (by omega), E1.out⟩, by simp [intOf]; omega⟩
  ·
   go_wp2
   go_ret
   have hk4 : k = 4 := by omega
   subst hk4
   exact ⟨ws, _, rfl, HO.out, by omega, HF.out, HQ.out.up (by omega), HE.out⟩
def W.Ow (w : World) (v : Value) (l : List W.WantD) (B : Nat) : Prop := w.ownsRow B 46 7 v l.length (W.flatR l)
theorem W.Ow.sl {w : World} {v : Value} {l : List W.WantD} {B : Nat} (h : W.Ow w v l B) : W.Sl w v l B := W.Sl.of_owns h
theorem W.Ow.grown {w w' : World} {v : Value} {l : List W.WantD} {B : Nat} {row : Option Nat} (h : W.Ow w v l B) (hg : w.grownBy w' row) (hne : v.ownBlock = none ∨ v.ownBlock ≠ row) : W.Ow w' v l B :=
 ⟨h.1, h.2.imp id (fun ⟨g, cap, cur, h1, h2, h3, h4⟩ => ⟨g, cap, cur, h1, h2, by
  have hl : g < w.heap.size := by
   rcases Nat.lt_or_ge g w.heap.size with h' | h'
   ·
    exact h'
   ·
    rw [Array.getElem?_eq_none h'] at h3; cases h3
  have hn : some g ≠ row := by subst h1; simpa [Value.ownBlock] using hne
  rw [hg.block g hl hn]; exact h3, h4⟩)⟩
theorem W.Ow.keep {w w' : World} {v : Value} {l : List W.WantD} {B : Nat} (h : W.Ow w v l B) (hb : Below w.heap.size w w') : W.Ow w' v l B := Go.Proofs.YtgakmkhbnjofhaaGreatDoor.owns_below h hb
theorem W.Ow.lt {w : World} {v : Value} {l : List W.WantD} {B : Nat} (h : W.Ow w v l B) : ∀ g, v.ownBlock = some g → B ≤ g ∧ g < w.heap.size := W.Sl.lt (W.Ow.sl h)
theorem W.Ow.shape {w : World} {v : Value} {l : List W.WantD} {B : Nat} (h : W.Ow w v l B) : ∃ a p, v = .slice a l.length p := W.Sl.shape (W.Ow.sl h)
theorem W.Ow.low {w : World} {v : Value} {l : List W.WantD} {B B' : Nat} (h : W.Ow w v l B) (hB : B' ≤ B) : W.Ow w v l B' :=
 ⟨h.1, h.2.imp id (fun ⟨g, cap, cur, h1, h2, h3, h4⟩ => ⟨g, cap, cur, h1, Nat.le_trans hB h2, h3, h4⟩)⟩
theorem W.Ow.nil (w : World) (B : Nat) : W.Ow w (.slice none 0 0) [] B := World.ownsRow_nil _ _ _ _
theorem W.Ow.of_owns {w : World} {v : Value} {l : List W.WantD} {B : Nat} (h : w.ownsRow B 46 7 v l.length (W.flatR l)) : W.Ow w v l B := h
def Ow (w : World) (v : Value) (l : List RunD) (B : Nat) : Prop := w.ownsRow B 73 11 v l.length (flatR l)
theorem Ow.sl {w : World} {v : Value} {l : List RunD} {B : Nat} (h : Ow w v l B) : Sl w v l B := Sl.of_owns h
theorem Ow.grown {w w' : World} {v : Value} {l : List RunD} {B : Nat} {row : Option Nat} (h : Ow w v l B) (hg : w.grownBy w' row) (hne : v.ownBlock = none ∨ v.ownBlock ≠ row) : Ow w' v l B :=
 ⟨h.1, h.2.imp id (fun ⟨g, cap, cur, h1, h2, h3, h4⟩ => ⟨g, cap, cur, h1, h2, by
  have hl : g < w.heap.size := by
   rcases Nat.lt_or_ge g w.heap.size with h' | h'
   ·
    exact h'
   ·
    rw [Array.getElem?_eq_none h'] at h3; cases h3
  have hn : some g ≠ row := by subst h1; simpa [Value.ownBlock] using hne
  rw [hg.block g hl hn]; exact h3, h4⟩)⟩
theorem Ow.keep {w w' : World} {v : Value} {l : List RunD} {B : Nat} (h : Ow w v l B) (hb : Below w.heap.size w w') : Ow w' v l B := Go.Proofs.YtgakmkhbnjofhaaGreatDoor.owns_below h hb
theorem Ow.lt {w : World} {v : Value} {l : List RunD} {B : Nat} (h : Ow w v l B) : ∀ g, v.ownBlock = some g → B ≤ g ∧ g < w.heap.size := Sl.lt (Ow.sl h)
theorem Ow.shape {w : World} {v : Value} {l : List RunD} {B : Nat} (h : Ow w v l B) : ∃ a p, v = .slice a l.length p := Sl.shape (Ow.sl h)
theorem Ow.low {w : World} {v : Value} {l : List RunD} {B B' : Nat} (h : Ow w v l B) (hB : B' ≤ B) : Ow w v l B' :=
 ⟨h.1, h.2.imp id (fun ⟨g, cap, cur, h1, h2, h3, h4⟩ => ⟨g, cap, cur, h1, Nat.le_trans hB h2, h3, h4⟩)⟩
theorem Ow.of_owns {w : World} {v : Value} {l : List RunD} {B : Nat} (h : w.ownsRow B 73 11 v l.length (flatR l)) : Ow w v l B := h
def waits (md : Region.Mode) (ops : Array Oper) (i j : Nat) : Bool := match ops[i]? with
 | some o => o.after.toList.any (fun e => Region.binds md e && e.on == j)
 | none => false
theorem waits_of {md : Region.Mode} {ops : Array Oper} {listed : Array Bool} {i j : Nat} (hi : i ∈ Region.ready md ops listed) (hd : waits md ops i j = true) : listed.getD j false = true := by
 unfold waits at hd
 split at hd
 ·
  rename_i o ho; exact dep_listed hi ho hd
 ·
  cases hd
structure Ip (sl : Nat → Nat) (n : Nat) (a0 : Act) (G : World → Nat → Value → Prop) (D : World → Prop) (listed : Array Bool) (a : Act) (w : World) : Prop where
 df : a.defers = a0.defers
 sz : a.tmps.size = a0.tmps.size
 out : ∀ k, (∀ i, i < n → sl i ≠ k) → a.tmps.getD k undef = a0.tmps.getD k undef
 lz : listed.size = n
 good : ∀ i, i < n → listed.getD i false = true → G w i (a.tmps.getD (sl i) undef)
 d : D w
section
variable {sl : Nat → Nat} {n : Nat} {md : Region.Mode} {ops : Array Oper} {a0 : Act} {G : World → Nat → Value → Prop} {D : World → Prop} {listed : Array Bool} {a : Act} {w w' : World} {i : Nat} {v : Value}
theorem Ip.put (h : Ip sl n a0 G D listed a w) (hi : i < n) (hlt : sl i < a0.tmps.size) (hinj : ∀ j, j < n → sl j = sl i → j = i) (hg : G w' i v)
  (hk : ∀ j u, j < n → G w j u → G w' j u) (hd : D w') : Ip sl n a0 G D (listed.setIfInBounds i true) (a.put (some (sl i)) v) w' := by
 have hsz := h.sz
 have hlz := h.lz
 refine ⟨h.df, by simpa [Act.put] using hsz, ?_, by simpa using hlz, ?_, hd⟩
 ·
  intro k hko
  rw [← h.out k hko]
  simp only [Act.put, Array.getD_eq_getD_getElem?]
  rw [Array.getElem?_setIfInBounds_ne (hko i hi)]
 ·
  intro j hj hl
  by_cases e : j = i
  ·
   subst e
   simp only [Act.put, Array.getD_eq_getD_getElem?]
   rw [Array.getElem?_setIfInBounds_self_of_lt (by omega)]
   exact hg
  ·
   have hl' : listed.getD j false = true := by
    simp only [Array.getD_eq_getD_getElem?] at hl ⊢
    rwa [Array.getElem?_setIfInBounds_ne (fun x => e x.symm)] at hl
   have h1 := hk j _ hj (h.good j hj hl')
   simp only [Act.put, Array.getD_eq_getD_getElem?] at h1 ⊢
   rw [Array.getElem?_setIfInBounds_ne (fun e' => e (hinj j hj e'.symm))]
   exact h1
end
theorem Ip.sm {sl : Nat → Nat} {n : Nat} {a0 : Act} {G : World → Nat → Value → Prop} {D : World → Prop} {listed : Array Bool} {a : Act} {w : World} {i : Nat} {v : Value} {K : Act → World → Prop} (h : Ip sl n a0 G D listed a w) (hK : Hid (∀ a w, Ip sl n a0 G D (listed.setIfInBounds i true) a w → K a w)) (hi : i < n) (hlt : sl i < a0.tmps.size) (hinj : ∀ j, j < n → sl j = sl i → j = i) (hg : G w i v) : K (a.put (some (sl i)) v) w := hK.out _ _ (h.put hi hlt hinj hg (fun _ _ _ h => h) h.d)
theorem reg_invP {P : Program} {ops : Array Oper} {Q : Exit → Act → World → Prop} {a0 : Act} {w0 : World} (sl : Nat → Nat) (n : Nat) (G : World → Nat → Value → Prop) (D : World → Prop)
  (hd : depsOk ops = true) (hops : ops.size = n) (hD : D w0)
  (done : ∀ a y, Ip sl n a0 G D (Array.replicate n true) a y → Q .normal a y)
  (step : ∀ listed x y i, Ip sl n a0 G D listed x y → i ∈ Region.ready .any ops listed → i < n → wpOp P ops Q i (Ip sl n a0 G D (listed.setIfInBounds i true)) x y) :
  wpAny P .any ops Q ops.size (Array.replicate ops.size false) a0 w0 := by
 refine wpAny_inv (Ip sl n a0 G D) (fun listed x y i hI hi => step listed x y i hI hi (by have := List.mem_range.1 (List.mem_filter.1 hi).1; omega)) ?_ _ _ _ _ ?_ ?_
 ·
  intro listed x y hI hr
  have hall := all_listed hd hr (by rw [hI.lz, hops])
  exact done x y ⟨hI.df, hI.sz, hI.out, by simp, fun i hi _ => hI.good i hi (hall i (by omega)), hI.d⟩
 ·
  unfold openOf
  exact Nat.le_trans List.countP_le_length (by simp)
 ·
  refine ⟨rfl, rfl, fun _ _ => rfl, by simp [hops], ?_, hD⟩
  intro i _ h
  simp only [Array.getD_eq_getD_getElem?, Array.getElem?_replicate] at h
  split at h <;> cases h
theorem Ip.all {sl : Nat → Nat} {n : Nat} {a0 : Act} {G : World → Nat → Value → Prop} {D : World → Prop} {a : Act} {w : World} (h : Ip sl n a0 G D (Array.replicate n true) a w) (i : Nat) (hi : i < n) : G w i (a.tmps.getD (sl i) undef) :=
 h.good i hi (by simp only [Array.getD_eq_getD_getElem?, Array.getElem?_replicate, if_pos hi, Option.getD_some])
theorem wp_cover {P : Program} {o : Oper} {a : Act} {w : World} {I : Act → World → Prop} {Q : Exit → Act → World → Prop} (h : ∀ K : Act → World → Prop, Hid (∀ a w, I a w → K a w) → o.wp P a w K Q) : o.wp P a w I Q := h I (fun _ _ h => h)
theorem frameP_of {a a0 : Act} {lo n : Nat} (df : a.defers = a0.defers) (sz : a.tmps.size = a0.tmps.size) (out : ∀ k, k < lo ∨ lo + n ≤ k → a.tmps.getD k undef = a0.tmps.getD k undef) (hn : lo + n ≤ a0.tmps.size) :
  ∃ l : List Value, l.length = n ∧ a = ⟨(a0.tmps.toList.take lo ++ (l ++ a0.tmps.toList.drop (lo + n))).toArray, a0.defers⟩ := by
 obtain ⟨⟨t⟩, d⟩ := a
 obtain ⟨⟨t0⟩, d0⟩ := a0
 simp only at df
 subst df
 have sz : t.length = t0.length := sz
 have hn : lo + n ≤ t0.length := hn
 refine ⟨(t.drop lo).take n, by simp; omega, ?_⟩
 have e : t = t0.take lo ++ ((t.drop lo).take n ++ t0.drop (lo + n)) := by
  apply List.ext_getElem?
  intro k
  rcases Nat.lt_or_ge k lo with h1 | h1
  ·
   have h2 := out k (Or.inl h1)
   rw [List.getElem?_append_left (by simp; omega), List.getElem?_take_of_lt h1]
   simp only [Array.getD_eq_getD_getElem?, List.getElem?_toArray] at h2
   rw [List.getElem?_eq_getElem (by omega), List.getElem?_eq_getElem (by omega)] at h2 ⊢
   simpa using h2
  ·
   rw [List.getElem?_append_right (by simp; omega)]
   have hl : (t0.take lo).length = lo := by simp; omega
   rw [hl]
   rcases Nat.lt_or_ge k (lo + n) with h3 | h3
   ·
    rw [List.getElem?_append_left (by simp; omega), List.getElem?_take_of_lt (by omega), List.getElem?_drop]
    congr 1; omega
   ·
    rw [List.getElem?_append_right (by simp; omega)]
    have hl2 : ((t.drop lo).take n).length = n := by simp; omega
    rw [hl2, List.getElem?_drop]
    have e2 : lo + n + (k - lo - n) = k := by omega
    rw [e2]
    have h2 := out k (Or.inr h3)
    simp only [Array.getD_eq_getD_getElem?, List.getElem?_toArray] at h2
    rcases Nat.lt_or_ge k t.length with h4 | h4
    ·
     rw [List.getElem?_eq_getElem (by omega), List.getElem?_eq_getElem (by omega)] at h2 ⊢
     simpa using h2
    ·
     rw [List.getElem?_eq_none h4, List.getElem?_eq_none (by omega)]
 show Act.mk ⟨t⟩ d = Act.mk ⟨_⟩ d
 exact congrArg (fun l => Act.mk ⟨l⟩ d) e
theorem lenP_succ {l : List Value} {k : Nat} (h : l.length = k + 1) : ∃ x t, l = x :: t ∧ t.length = k := by
 cases l with
 | nil => cases h
 | cons x t => exact ⟨x, t, rfl, by simpa using h⟩
theorem lenP_zero {l : List Value} (h : l.length = 0) : l = [] := List.eq_nil_of_length_eq_zero h
theorem frameP_two {a a0 : Act} {lo n se : Nat} (df : a.defers = a0.defers) (sz : a.tmps.size = a0.tmps.size) (hse : se < a0.tmps.size) (hn : lo + n ≤ a0.tmps.size) (out : ∀ k, k ≠ se → k < lo ∨ lo + n ≤ k → a.tmps.getD k undef = a0.tmps.getD k undef) :
  ∃ l : List Value, l.length = n ∧ a = ⟨((a0.tmps.setIfInBounds se (a.tmps.getD se undef)).toList.take lo ++ (l ++ (a0.tmps.setIfInBounds se (a.tmps.getD se undef)).toList.drop (lo + n))).toArray, a0.defers⟩ := by
 refine frameP_of (a := a) (a0 := ⟨a0.tmps.setIfInBounds se (a.tmps.getD se undef), a0.defers⟩) df (by simpa using sz) ?_ (by simpa using hn)
 intro k hk
 by_cases e : k = se
 ·
  subst e
  simp only [Array.getD_eq_getD_getElem?]
  rw [Array.getElem?_setIfInBounds_self_of_lt hse, Option.getD_some]
 ·
  rw [out k e hk]
  simp only [Array.getD_eq_getD_getElem?]
  rw [Array.getElem?_setIfInBounds_ne (fun e' => e e'.symm)]
end Go.Proofs.YtgakmkhbnjofhaaGreatDoor
