import Derived.Test.YtgakmkhbnjofhaaGreatDoorJ17
import Derived.Test.YtgakmkhbnjofhaaGreatDoorJ15
import Derived.Test.YtgakmkhbnjofhaaGreatDoorJ16
namespace Go.Proofs.YtgakmkhbnjofhaaGreatDoor
open Go.RowKit
set_option linter.unusedVariables false
def eT : ByteArray := { data := #[] }
def wTold : List UInt8 := [116, 111, 108, 100]
def wAsked : List UInt8 := [97, 115, 107, 101, 100]
def wGiven : List UInt8 := [103, 105, 118, 101, 110]
def wBack : List UInt8 := [98, 97, 99, 107]
def wGot : List UInt8 := [103, 111, 116, 98, 97, 99, 107]
def wHere : List UInt8 := [104, 101, 114, 101]
def kindL (w : List UInt8) : Int := if w = wTold then 1 else if w = wAsked then 2 else if w = wGiven then 3 else if w = wBack then 4 else if w = wGot then 5 else if w = wHere then 6 else 0
def headS (k : Int) (ws : List (List UInt8)) (l : List W.WantD) : ParD :=
 if k = 1 then ⟨1, wd (atL ws 1), numS (wd (atL ws 2)), l, eT, eT, 0⟩
 else if k = 2 ∨ k = 3 ∨ k = 4 then ⟨k, wd (atL ws 1), 0, [], wd (atL ws 2), wd (atL ws 3), numS (wd (atL ws 4))⟩
 else if k = 5 then ⟨5, wd (atL ws 1), 0, [], wd (atL ws 2), eT, numS (wd (atL ws 3))⟩
 else if k = 6 then ⟨6, wd (atL ws 1), numS (wd (atL ws 2)), [], eT, eT, 0⟩
 else ⟨0, wd (atL ws 1), 0, [], eT, eT, 0⟩
def specP (x : ByteArray) : ParD := headS (kindL (atL (cutL 32 (atL (cutL 10 x.data.toList) 0)) 0)) (cutL 32 (atL (cutL 10 x.data.toList) 0)) ((((cutL 10 x.data.toList).drop 1).take ((cutL 10 x.data.toList).length - 2)).map wantS)
def headI (k : Int) (l : List UInt8) (ws : List W.WantD) : ParD :=
 if k = 1 ∨ k = 6 then ⟨k, wdI l 1, numI (wdI l 2), ws, eT, eT, 0⟩
 else if k = 2 ∨ k = 3 ∨ k = 4 then ⟨k, wdI l 1, 0, ws, wdI l 2, wdI l 3, numI (wdI l 4)⟩
 else if k = 5 then ⟨5, wdI l 1, 0, ws, wdI l 2, eT, numI (wdI l 3)⟩
 else ⟨0, eT, 0, ws, eT, eT, 0⟩
def wantsI : Nat → List UInt8 → List W.WantD
 | 0, _ => []
 | n + 1, r => if (nxE r).1 = [] then [] else wantI (nxE r).1 :: wantsI n (nxE r).2
def implP (x : ByteArray) : ParD := headI (kindL (nxS (nxE x.data.toList).1).1) (nxE x.data.toList).1 (wantsI 10 (nxE x.data.toList).2)
def wline (r : W.WantD) : List UInt8 := lineL wantW ((wantX r).map (·.data.toList))
def linesB (ws : List W.WantD) : List UInt8 := (ws.map (fun r => wline r ++ [10])).flatten
theorem linesB_cons (r : W.WantD) (ws : List W.WantD) : linesB (r :: ws) = wline r ++ 10 :: linesB ws := by simp [linesB]
theorem app_data (a b : ByteArray) : (a ++ b).data.toList = a.data.toList ++ b.data.toList := by simp
theorem tail_data : ∀ (ws : List W.WantD) (x : ByteArray), (tailT ws x).data.toList = x.data.toList ++ linesB ws
 | [], x => by simp [tailT, linesB]
 | r :: ws, x => by
  have e : tailT (r :: ws) x = tailT ws (x ++ wantT r) := rfl
  rw [e, tail_data ws, app_data, wantT_line, linesB_cons]
  have h := line_data wantW r.c [decT r.v, holdT r.h, decT r.p, decT r.s, decT r.d, decT r.g]
  have h2 : (lineT (wd [119, 97, 110, 116]) [r.c, decT r.v, holdT r.h, decT r.p, decT r.s, decT r.d, decT r.g]).data.toList = wline r ++ [10] := h
  rw [h2]
  simp
theorem no10_wline {r : W.WantD} (h : OkW r) : (10 : UInt8) ∉ wline r := lineL_no (by decide) _ wantW (by decide) (no_words (no_want (by decide) h))
theorem wline_ne (r : W.WantD) : wline r ≠ [] := by
 unfold wline wantX
 rw [List.map_cons, lineL]
 simp [wantW]
theorem cut_lines : ∀ (ws : List W.WantD), (∀ r ∈ ws, OkW r) → cutL 10 (linesB ws) = ws.map wline ++ [[]]
 | [], _ => rfl
 | r :: ws, h => by
  rw [linesB_cons, cutL_hit _ _ (no10_wline (h r (List.mem_cons_self ..))), cut_lines ws (fun q hq => h q (List.mem_cons_of_mem _ hq))]
  rfl
theorem map_wline : ∀ (ws : List W.WantD), (∀ r ∈ ws, OkW r) → (ws.map wline).map wantS = ws
 | [], _ => rfl
 | r :: ws, h => by
  rw [List.map_cons, List.map_cons, map_wline ws (fun q hq => h q (List.mem_cons_of_mem _ hq)), wline, wantS_line (h r (List.mem_cons_self ..))]
theorem wantsI_lines : ∀ (n : Nat) (ws : List W.WantD), ws.length ≤ n → (∀ r ∈ ws, OkW r) → wantsI n (linesB ws) = ws
 | 0, [], _, _ => rfl
 | n + 1, [], _, _ => by
  rw [wantsI, if_pos]
  rw [show linesB [] = [] from rfl, nxE_miss [] (by simp)]
 | n + 1, r :: ws, hl, h => by
  have hr := h r (List.mem_cons_self ..)
  have e : nxE (linesB (r :: ws)) = (wline r, linesB ws) := by rw [linesB_cons, nxE_hit _ _ (no10_wline hr)]
  rw [wantsI, e, if_neg (wline_ne r), wantsI_lines n ws (by simpa using hl) (fun q hq => h q (List.mem_cons_of_mem _ hq))]
  rw [show wantI (wline r) = r from wantI_line hr]
theorem read_lines {w : List UInt8} {x : ByteArray} {xs : List ByteArray} {ws : List W.WantD} {s : ByteArray} (hs : s.data.toList = lineL w ((x :: xs).map (·.data.toList)) ++ 10 :: linesB ws)
  (h32 : (32 : UInt8) ∉ w) (h10 : (10 : UInt8) ∉ w) (hx : ∀ y ∈ x :: xs, No 32 y ∧ No 10 y) (hw : ∀ r ∈ ws, OkW r) (hl : ws.length ≤ 10) :
  specP s = headS (kindL w) (w :: (x :: xs).map (·.data.toList)) ws ∧ implP s = headI (kindL w) (lineL w ((x :: xs).map (·.data.toList))) ws := by
 have n10 : (10 : UInt8) ∉ lineL w ((x :: xs).map (·.data.toList)) := lineL_no (by decide) _ w h10 (no_words (fun y hy => (hx y hy).2))
 have c1 : cutL 10 s.data.toList = lineL w ((x :: xs).map (·.data.toList)) :: (ws.map wline ++ [[]]) := by rw [hs, cutL_hit _ _ n10, cut_lines ws hw]
 have c2 : cutL 32 (lineL w ((x :: xs).map (·.data.toList))) = w :: (x :: xs).map (·.data.toList) := lineL_cut _ w h32 (no_words (fun y hy => (hx y hy).1))
 have e1 : nxE s.data.toList = (lineL w ((x :: xs).map (·.data.toList)), linesB ws) := by rw [hs, nxE_hit _ _ n10]
 have e2 : (nxS (lineL w ((x :: xs).map (·.data.toList)))).1 = w := by rw [List.map_cons, nxS_line _ _ _ h32]
 constructor
 ·
  unfold specP
  rw [c1]
  have e3 : atL (lineL w ((x :: xs).map (·.data.toList)) :: (ws.map wline ++ [[]])) 0 = lineL w ((x :: xs).map (·.data.toList)) := rfl
  have e5 : ∀ q, atL (w :: q) 0 = w := fun _ => rfl
  rw [e3, c2, e5]
  congr 1
  have e4 : ((lineL w ((x :: xs).map (·.data.toList)) :: (ws.map wline ++ [[]])).drop 1).take ((lineL w ((x :: xs).map (·.data.toList)) :: (ws.map wline ++ [[]])).length - 2) = ws.map wline := by
   simp
  rw [e4, map_wline ws hw]
 ·
  unfold implP
  rw [e1, e2, wantsI_lines 10 ws hl hw]
theorem par_eq {k k' : Int} {b b' h h' c c' : ByteArray} {se se' t t' : Int} {ws ws' : List W.WantD} (e1 : k = k') (e2 : b = b') (e3 : se = se') (e4 : ws = ws') (e5 : h = h') (e6 : c = c') (e7 : t = t') : (⟨k, b, se, ws, h, c, t⟩ : ParD) = ⟨k', b', se', ws', h', c', t'⟩ := by subst e1 e2 e3 e4 e5 e6 e7; rfl
theorem in_of {n a b : Int} (h : inB n a b = true) : a ≤ n ∧ n ≤ b := by
 unfold inB at h
 simpa using h
theorem hold_name {x : ByteArray} (h : holdB x = true) : nameB x = true := by
 unfold holdB at h
 simp only [Bool.and_eq_true] at h
 exact h.1
theorem rd_told {b h c : ByteArray} {se t : Int} {ws : List W.WantD} (hh : toldB b h c se t ws = true) {s : ByteArray} (hs : formT ⟨1, b, se, ws, h, c, t⟩ = s) : specP s = ⟨1, b, se, ws, h, c, t⟩ ∧ implP s = ⟨1, b, se, ws, h, c, t⟩ := by
 rw [told_yes hh] at hs
 have hd : s.data.toList = lineL wTold (([b, decT se]).map (·.data.toList)) ++ 10 :: linesB ws := by
  rw [← hs, tail_data, line_data]
  simp [wTold]
 have h2 := hh
 unfold toldB noHoldB wantsB at h2
 simp only [Bool.and_eq_true, beq_iff_eq, decide_eq_true_eq] at h2
 obtain ⟨n1, n2, ⟨n3, n4⟩, n5, n6, n7⟩ := h2
 obtain ⟨s1, s2⟩ := in_of n2
 have hw : ∀ r ∈ ws, OkW r := fun r hr => by
  obtain ⟨j, hj⟩ := List.getElem?_of_mem hr
  exact okW (n4.1 j r (List.getElem?_eq_some_iff.1 hj).1 hj)
 have hx : ∀ y ∈ [b, decT se], No 32 y ∧ No 10 y := by
  intro y hy
  simp only [List.mem_cons, List.not_mem_nil, or_false] at hy
  rcases hy with rfl | rfl
  ·
   exact ⟨no_name (by decide) n1, no_name (by decide) n1⟩
  ·
   exact ⟨no_dec (by decide) (by omega), no_dec (by decide) (by omega)⟩
 obtain ⟨q1, q2⟩ := read_lines hd (by decide) (by decide) hx hw n3
 have k1 : kindL wTold = 1 := rfl
 have x1 : wdI (lineL wTold ([b, decT se].map (·.data.toList))) 1 = b := wdI_line (by decide) (fun y hy => (hx y hy).1) (n := 0) rfl
 have x2 : wdI (lineL wTold ([b, decT se].map (·.data.toList))) 2 = decT se := wdI_line (by decide) (fun y hy => (hx y hy).1) (n := 1) rfl
 rw [q1, q2, k1]
 constructor
 ·
  exact par_eq rfl (wd_data b) (by show numS (wd (decT se).data.toList) = se; rw [wd_data]; exact numS_dec (by omega) (by omega)) rfl (empty_of n5).symm (empty_of n6).symm n7.symm
 ·
  exact par_eq rfl x1 (by rw [x2]; exact numI_dec (by omega) (by omega)) rfl (empty_of n5).symm (empty_of n6).symm n7.symm
theorem rd_hold {k : Int} {b h c : ByteArray} {se t : Int} {ws : List W.WantD} (hk : k = 2 ∨ k = 3 ∨ k = 4) (w : List UInt8) (hw : wordT k = wd (w ++ [32])) (hkl : kindL w = k) (w32 : (32 : UInt8) ∉ w) (w10 : (10 : UInt8) ∉ w) (hh : (namesB b h c t && noWantsB se ws.length) = true) {s : ByteArray} (hs : formT ⟨k, b, se, ws, h, c, t⟩ = s) :
  specP s = ⟨k, b, se, ws, h, c, t⟩ ∧ implP s = ⟨k, b, se, ws, h, c, t⟩ := by
 rw [hold_yes hk w hw hh] at hs
 have hd : s.data.toList = lineL w (([b, h, c, decT t]).map (·.data.toList)) ++ 10 :: linesB [] := by
  rw [← hs, line_data]
  simp [linesB]
 have h2 := hh
 unfold namesB noWantsB at h2
 simp only [Bool.and_eq_true, beq_iff_eq] at h2
 obtain ⟨⟨n1, n2, n3, n4⟩, n5, n6⟩ := h2
 obtain ⟨s1, s2⟩ := in_of n4
 have hw0 : ws = [] := List.eq_nil_of_length_eq_zero (by omega)
 have n3' := hold_name n3
 have hx : ∀ y ∈ [b, h, c, decT t], No 32 y ∧ No 10 y := by
  intro y hy
  simp only [List.mem_cons, List.not_mem_nil, or_false] at hy
  rcases hy with rfl | rfl | rfl | rfl
  ·
   exact ⟨no_name (by decide) n1, no_name (by decide) n1⟩
  ·
   exact ⟨no_name (by decide) n3', no_name (by decide) n3'⟩
  ·
   exact ⟨no_name (by decide) n2, no_name (by decide) n2⟩
  ·
   exact ⟨no_dec (by decide) (by omega), no_dec (by decide) (by omega)⟩
 obtain ⟨q1, q2⟩ := read_lines hd w32 w10 hx (fun r hr => by cases hr) (by decide)
 have xx := fun (n : Nat) (x : ByteArray) (e : [b, h, c, decT t][n]? = some x) => wdI_line (w := w) w32 (fun y hy => (hx y hy).1) e
 have k1 : k ≠ 1 := by omega
 have k6 : ¬ (k = 1 ∨ k = 6) := by omega
 rw [q1, q2, hkl]
 constructor
 ·
  unfold headS
  rw [if_neg k1, if_pos hk]
  exact par_eq rfl (wd_data b) n5.symm hw0.symm (wd_data h) (wd_data c) (by show numS (wd (decT t).data.toList) = t; rw [wd_data]; exact numS_dec (by omega) (by omega))
 ·
  unfold headI
  rw [if_neg k6, if_pos hk]
  exact par_eq rfl (xx 0 _ rfl) n5.symm hw0.symm (xx 1 _ rfl) (xx 2 _ rfl) (by rw [xx 3 _ rfl]; exact numI_dec (by omega) (by omega))
theorem rd_got {b h c : ByteArray} {se t : Int} {ws : List W.WantD} (hh : gotB b h c se t ws.length = true) {s : ByteArray} (hs : formT ⟨5, b, se, ws, h, c, t⟩ = s) : specP s = ⟨5, b, se, ws, h, c, t⟩ ∧ implP s = ⟨5, b, se, ws, h, c, t⟩ := by
 rw [got_yes hh] at hs
 have hd : s.data.toList = lineL wGot (([b, h, decT t]).map (·.data.toList)) ++ 10 :: linesB [] := by
  rw [← hs, line_data]
  simp [linesB, wGot]
 have h2 := hh
 unfold gotB noWantsB at h2
 simp only [Bool.and_eq_true, beq_iff_eq] at h2
 obtain ⟨n1, n3, n4, n2, n5, n6⟩ := h2
 obtain ⟨s1, s2⟩ := in_of n4
 have hw0 : ws = [] := List.eq_nil_of_length_eq_zero (by omega)
 have n3' := hold_name n3
 have hx : ∀ y ∈ [b, h, decT t], No 32 y ∧ No 10 y := by
  intro y hy
  simp only [List.mem_cons, List.not_mem_nil, or_false] at hy
  rcases hy with rfl | rfl | rfl
  ·
   exact ⟨no_name (by decide) n1, no_name (by decide) n1⟩
  ·
   exact ⟨no_name (by decide) n3', no_name (by decide) n3'⟩
  ·
   exact ⟨no_dec (by decide) (by omega), no_dec (by decide) (by omega)⟩
 obtain ⟨q1, q2⟩ := read_lines hd (by decide) (by decide) hx (fun r hr => by cases hr) (by decide)
 have xx := fun (n : Nat) (x : ByteArray) (e : [b, h, decT t][n]? = some x) => wdI_line (w := wGot) (by decide) (fun y hy => (hx y hy).1) e
 have k1 : kindL wGot = 5 := rfl
 rw [q1, q2, k1]
 constructor
 ·
  exact par_eq rfl (wd_data b) n5.symm hw0.symm (wd_data h) (empty_of n2).symm (by show numS (wd (decT t).data.toList) = t; rw [wd_data]; exact numS_dec (by omega) (by omega))
 ·
  exact par_eq rfl (xx 0 _ rfl) n5.symm hw0.symm (xx 1 _ rfl) (empty_of n2).symm (by rw [xx 2 _ rfl]; exact numI_dec (by omega) (by omega))
theorem rd_here {b h c : ByteArray} {se t : Int} {ws : List W.WantD} (hh : hereB b h c se t ws.length = true) {s : ByteArray} (hs : formT ⟨6, b, se, ws, h, c, t⟩ = s) : specP s = ⟨6, b, se, ws, h, c, t⟩ ∧ implP s = ⟨6, b, se, ws, h, c, t⟩ := by
 rw [here_yes hh] at hs
 have hd : s.data.toList = lineL wHere (([b, decT se]).map (·.data.toList)) ++ 10 :: linesB [] := by
  rw [← hs, line_data]
  simp [linesB, wHere]
 have h2 := hh
 unfold hereB noHoldB at h2
 simp only [Bool.and_eq_true, beq_iff_eq] at h2
 obtain ⟨n1, n4, n2, n5, n6, n7⟩ := h2
 obtain ⟨s1, s2⟩ := in_of n4
 have hw0 : ws = [] := List.eq_nil_of_length_eq_zero (by omega)
 have hx : ∀ y ∈ [b, decT se], No 32 y ∧ No 10 y := by
  intro y hy
  simp only [List.mem_cons, List.not_mem_nil, or_false] at hy
  rcases hy with rfl | rfl
  ·
   exact ⟨no_name (by decide) n1, no_name (by decide) n1⟩
  ·
   exact ⟨no_dec (by decide) (by omega), no_dec (by decide) (by omega)⟩
 obtain ⟨q1, q2⟩ := read_lines hd (by decide) (by decide) hx (fun r hr => by cases hr) (by decide)
 have xx := fun (n : Nat) (x : ByteArray) (e : [b, decT se][n]? = some x) => wdI_line (w := wHere) (by decide) (fun y hy => (hx y hy).1) e
 have k1 : kindL wHere = 6 := rfl
 rw [q1, q2, k1]
 constructor
 ·
  exact par_eq rfl (wd_data b) (by show numS (wd (decT se).data.toList) = se; rw [wd_data]; exact numS_dec (by omega) (by omega)) hw0.symm (empty_of n5).symm (empty_of n6).symm n7.symm
 ·
  exact par_eq rfl (xx 0 _ rfl) (by rw [xx 1 _ rfl]; exact numI_dec (by omega) (by omega)) hw0.symm (empty_of n5).symm (empty_of n6).symm n7.symm
theorem read_back {P : ParD} {s : ByteArray} (hs : formT P = s) (h0 : s ≠ eT) : specP s = P ∧ implP s = P := by
 obtain ⟨k, b, se, ws, h, c, t⟩ := P
 by_cases h1 : k = 1
 ·
  subst h1
  cases hf : toldB b h c se t ws
  ·
   exact absurd (hs.symm.trans (told_no hf)) h0
  ·
   exact rd_told hf hs
 by_cases h2 : k = 2 ∨ k = 3 ∨ k = 4
 ·
  cases hf : (namesB b h c t && noWantsB se ws.length)
  ·
   exact absurd (hs.symm.trans (hold_no h2 hf)) h0
  ·
   rcases h2 with rfl | rfl | rfl
   ·
    exact rd_hold (Or.inl rfl) wAsked rfl rfl (by decide) (by decide) hf hs
   ·
    exact rd_hold (Or.inr (Or.inl rfl)) wGiven rfl rfl (by decide) (by decide) hf hs
   ·
    exact rd_hold (Or.inr (Or.inr rfl)) wBack rfl rfl (by decide) (by decide) hf hs
 by_cases h5 : k = 5
 ·
  subst h5
  cases hf : gotB b h c se t ws.length
  ·
   exact absurd (hs.symm.trans (got_no hf)) h0
  ·
   exact rd_got hf hs
 by_cases h6 : k = 6
 ·
  subst h6
  cases hf : hereB b h c se t ws.length
  ·
   exact absurd (hs.symm.trans (here_no hf)) h0
  ·
   exact rd_here hf hs
 exact absurd (hs.symm.trans (other_no (by omega))) h0
set_option maxHeartbeats 1000000 in
theorem l7At_any (g cap : Nat) (xs : List (List UInt8)) (k : Nat) (w : World) (hk : k ≤ 10) (hl : xs.length ≤ 1048577) (hc : ∀ (j : Nat) x, xs[j]? = some x → w.cell? ⟨g, j, none⟩ = some (.string (wd x))) :
  Calls Tryz.prog 33 #[.slice (some ⟨g, 0, none⟩) xs.length cap, .int .i64 k] w fun e w' => e = .returned (.string (wd (atL xs k))) ∧ w' = w := by
 by_cases h : k < xs.length
 ·
  have c0 : w.cell? ⟨g, k, none⟩ = some (.string (wd (atL xs k))) := hc k _ (by unfold atL; rw [List.getElem?_eq_getElem h]; rfl)
  obtain ⟨X, hX⟩ : ∃ X, X = wd (atL xs k) := ⟨_, rfl⟩
  rw [← hX] at c0 ⊢
  clear hX hc
  have i1 : (k : Int) < (xs.length : Int) := by omega
  go_enter Tryz.func33, Tryz.ntmps33
  go_wp2_with fail
  go_ret
  exact ⟨rfl, rfl⟩
 ·
  have e : wd (atL xs k) = { data := #[] } := by unfold atL; rw [List.getElem?_eq_none (by omega)]; rfl
  rw [e]
  have i1 : ¬ ((k : Int) < (xs.length : Int)) := by omega
  clear h
  go_enter Tryz.func33, Tryz.ntmps33
  go_wp2_with fail
  go_ret
  exact ⟨rfl, rfl⟩
theorem fold_lt : ∀ (l : List UInt8) (n : Nat), (∀ c ∈ l, digB c = true) → l.foldl (fun n c => n * 10 + (c.toNat - 48)) n < (n + 1) * 10 ^ l.length
 | [], n, _ => by simp
 | c :: l, n, h => by
  have h2 := h c (List.mem_cons_self ..)
  unfold digB at h2
  simp only [Bool.and_eq_true, decide_eq_true_eq] at h2
  have ih := fold_lt l (n * 10 + (c.toNat - 48)) (fun q hq => h q (List.mem_cons_of_mem _ hq))
  rw [List.foldl_cons, List.length_cons, Nat.pow_succ]
  refine Nat.lt_of_lt_of_le ih ?_
  have e : (n + 1) * (10 ^ l.length * 10) = ((n + 1) * 10) * 10 ^ l.length := by rw [Nat.mul_comm (10 ^ l.length) 10, Nat.mul_assoc]
  rw [e]
  exact Nat.mul_le_mul_right _ (by omega)
theorem val10_lt (l : List UInt8) (h : ∀ c ∈ l, digB c = true) : val10 l < 10 ^ l.length := by
 have := fold_lt l 0 h
 rw [Nat.zero_add, Nat.one_mul] at this
 exact this
theorem ne_list {a b : ByteArray} (h : ¬ a = b) : (a.toList == b.toList) = false := by
 cases hh : (a.toList == b.toList) with
 | false => rfl
 | true =>
  have h1 := eq_of_beq hh
  rw [ByteArray.toList_eq, ByteArray.toList_eq] at h1
  exact absurd (bytes_inj' h1) h
theorem dig_all {l : List UInt8} (h : l.all digB = true) : ∀ c ∈ l, digB c = true := by rw [List.all_eq_true] at h; exact h
theorem digs_snoc (s : ByteArray) (k : Nat) (h : k < s.size) (ha : (s.data.toList.take k).all digB = true) (hc : digB s[k] = true) : (s.data.toList.take (k + 1)).all digB = true := by
 rw [take_snoc s k h, List.all_append, ha]; simp [hc]
theorem digs_bad (s : ByteArray) (k : Nat) (h : k < s.size) (hc : digB s[k] = false) : s.data.toList.all digB = false := by
 rw [List.all_eq_false]
 exact ⟨s.data.toList[k]'(by simpa using h), List.getElem_mem _, by show ¬ digB s[k] = true; simp [hc]⟩
theorem numS_bad {x : ByteArray} (h : ¬ (1 ≤ x.size ∧ x.size ≤ 7 ∧ x.data.toList.all digB = true ∧ decT (val10 x.data.toList : Nat) = x)) : numS x = -1 := if_neg h
theorem val_snoc (s : ByteArray) (k : Nat) (h : k < s.size) : val10 (s.data.toList.take (k + 1)) = val10 (s.data.toList.take k) * 10 + (s[k].toNat - 48) := by
 rw [take_snoc s k h, val10_snoc]
theorem val_le7 {l : List UInt8} (h : l.all digB = true) {k : Nat} (hk : l.length ≤ k) : val10 l < 10 ^ k := Nat.lt_of_lt_of_le (val10_lt l (dig_all h)) (Nat.pow_le_pow_right (by decide) hk)
set_option maxRecDepth 4000 in
set_option maxHeartbeats 4000000 in
theorem l7Number_any (x : ByteArray) (w : World) (hx : x.size ≤ 1048576) :
  Calls Tryz.prog 34 #[.string x] w fun e w' => e = .returned (.int .i64 (numS x)) ∧ Below w.heap.size w w' := by
 by_cases h1 : x.size < 1
 ·
  have hb : numS x = -1 := numS_bad (by omega)
  have i1 : (x.size : Int) < 1 := by omega
  rw [hb]
  go_enter Tryz.func34, Tryz.ntmps34
  go_wp2_with fail
  go_ret
  exact ⟨rfl, Below.refl _ _⟩
 by_cases h7 : 7 < x.size
 ·
  have hb : numS x = -1 := numS_bad (by omega)
  have i1 : ¬ ((x.size : Int) < 1) := by omega
  have i2 : (7 : Int) < (x.size : Int) := by omega
  rw [hb]
  go_enter Tryz.func34, Tryz.ntmps34
  go_wp2_with fail
  go_ret
  exact ⟨rfl, Below.refl _ _⟩
 have i1 : ¬ ((x.size : Int) < 1) := by omega
 have i2 : ¬ ((7 : Int) < (x.size : Int)) := by omega
 have i3 : x.size ≤ 7 := by omega
 have i4 : 1 ≤ x.size := by omega
 clear h1 h7
 go_enter Tryz.func34, Tryz.ntmps34
 go_wp2_with fail
 go_loopw [3, 4] (fun n i wx => ∃ k : Nat, k ≤ x.size ∧ i = .int .i64 k ∧ n = .int .i64 (val10 (x.data.toList.take k) : Nat) ∧ Hid ((x.data.toList.take k).all digB = true) ∧ wx = w) (fun _ i _ => x.size - (intOf i).toNat)
 case atStart => exact ⟨0, Nat.zero_le _, rfl, rfl, rfl, rfl⟩
 case round =>
  obtain ⟨k, hk, rfl, rfl, Ha, rfl⟩ := hrel
  by_cases hlt : k < x.size
  ·
   by_cases b1 : (x[k].toNat : Int) < 48
   ·
    have hb : numS x = -1 := numS_bad (fun hh => by rw [digs_bad x k hlt (by simp [digB]; omega)] at hh; simp at hh)
    have HBb : Hid (numS x = -1) := hb
    clear hb
    go_wp2_with fail
    go_ret
    exact ⟨by rw [HBb.out]; rfl, Below.refl _ _⟩
   by_cases b2 : 57 < (x[k].toNat : Int)
   ·
    have hb : numS x = -1 := numS_bad (fun hh => by rw [digs_bad x k hlt (by simp [digB]; omega)] at hh; simp at hh)
    have HBb : Hid (numS x = -1) := hb
    clear hb
    go_wp2_with fail
    go_ret
    exact ⟨by rw [HBb.out]; rfl, Below.refl _ _⟩
   have hv := val_le7 Ha.out (k := 7) (by simp; omega)
   have Hc : Hid (digB x[k] = true) := by show digB x[k] = true; simp [digB]; omega
   have Hv : Hid (val10 (x.data.toList.take (k + 1)) = val10 (x.data.toList.take k) * 10 + (x[k].toNat - 48)) := val_snoc x k hlt
   obtain ⟨VV, hVV⟩ : ∃ VV : Nat, VV = val10 (x.data.toList.take k) := ⟨_, rfl⟩
   rw [← hVV] at hv
   have HVV : Hid (VV = val10 (x.data.toList.take k)) := hVV
   rw [← hVV]
   clear hVV
   go_wp2_with fail
   exact ⟨⟨k + 1, by omega, by go_num, eqi (by rw [Hv.out, ← HVV.out]; omega), digs_snoc x k hlt Ha.out Hc.out, trivial⟩, by simp [intOf]; omega⟩
  ·
   have hk2 : k = x.size := by omega
   subst hk2
   have htk : x.data.toList.take x.size = x.data.toList := List.take_of_length_le (by rw [← size_data]; exact Nat.le_refl _)
   rw [htk] at Ha ⊢
   have hv := val_le7 Ha.out (k := 7) (by rw [← size_data]; omega)
   obtain ⟨VV, hVV⟩ : ∃ VV : Nat, VV = val10 x.data.toList := ⟨_, rfl⟩
   rw [← hVV] at hv ⊢
   by_cases he : decT (VV : Int) = x
   ·
    have HN : Hid (numS x = (VV : Int)) := by
     rw [hVV] at he ⊢
     exact if_pos ⟨i4, i3, Ha.out, he⟩
    clear hVV
    go_wp2_with (go_at_call 28; refine (specDecI (VV : Int) _ (by omega) (by omega)).mono ?_; rintro e w1 ⟨rfl, b1⟩; rw [he]; have B1 : Hid (Below _ _ w1) := b1; clear b1)
    go_ret
    exact ⟨by rw [HN.out]; rfl, B1.out⟩
   ·
    have HN : Hid (numS x = -1) := by
     rw [hVV] at he
     exact numS_bad (fun hh => he hh.2.2.2)
    have he2 := ne_list he
    clear hVV
    go_wp2_with (go_at_call 28; refine (specDecI (VV : Int) _ (by omega) (by omega)).mono ?_; rintro e w1 ⟨rfl, b1⟩; have B1 : Hid (Below _ _ w1) := b1; clear b1)
    go_ret
    exact ⟨by rw [HN.out]; rfl, B1.out⟩
structure Cutting (b : UInt8) (l : List UInt8) (ps : List (List UInt8)) (f i : Nat) : Prop where
 fi : f ≤ i
 il : i ≤ l.length
 no : b ∉ (l.drop f).take (i - f)
 eq : cutL b l = ps ++ cutL b (l.drop f)
theorem Cutting.skip {b : UInt8} {l : List UInt8} {ps : List (List UInt8)} {f i : Nat} (h : Cutting b l ps f i) {c : UInt8} (hc : l[i]? = some c) (hn : c ≠ b) : Cutting b l ps f (i + 1) := by
 have hlt : i < l.length := (List.getElem?_eq_some_iff.1 hc).1
 refine ⟨by have := h.fi; omega, by omega, ?_, h.eq⟩
 have h1 := h.fi
 rw [show i + 1 - f = (i - f) + 1 from by omega, List.take_add_one]
 intro hm
 rcases List.mem_append.1 hm with hm | hm
 ·
  exact h.no hm
 ·
  rw [List.getElem?_drop, show f + (i - f) = i from by omega, hc] at hm
  simp at hm
  exact hn hm.symm
theorem Cutting.hit {b : UInt8} {l : List UInt8} {ps : List (List UInt8)} {f i : Nat} (h : Cutting b l ps f i) (hc : l[i]? = some b) : Cutting b l (ps ++ [(l.drop f).take (i - f)]) (i + 1) (i + 1) := by
 have hlt : i < l.length := (List.getElem?_eq_some_iff.1 hc).1
 refine ⟨Nat.le_refl _, by omega, by simp, ?_⟩
 have h1 := h.fi
 have e : l.drop f = (l.drop f).take (i - f) ++ b :: l.drop (i + 1) := by
  have e1 : (l.drop f).drop (i - f) = l.drop i := by rw [List.drop_drop, show f + (i - f) = i from by omega]
  have e2 : l.drop i = b :: l.drop (i + 1) := by
   rw [List.drop_eq_getElem_cons hlt]
   rw [List.getElem?_eq_getElem hlt] at hc
   rw [Option.some.inj hc]
  rw [← e2, ← e1, List.take_append_drop]
 have h2 := h.eq
 rw [e, cutL_hit _ _ h.no] at h2
 rw [h2, List.append_assoc]
 rfl
theorem Cutting.done {b : UInt8} {l : List UInt8} {ps : List (List UInt8)} {f i : Nat} (h : Cutting b l ps f i) (hi : l.length ≤ i) : cutL b l = ps ++ [l.drop f] := by
 have h1 := h.fi
 have h2 := h.il
 have h3 := h.no
 rw [List.take_of_length_le (by rw [List.length_drop]; omega)] at h3
 rw [h.eq, cutL_miss _ h3]
theorem cutL_len (b : UInt8) : ∀ (l : List UInt8), (cutL b l).length ≤ l.length + 1
 | [] => by simp [cutL]
 | x :: l => by
  have ih := cutL_len b l
  rw [cutL]
  split
  ·
   simp only [List.length_cons]; omega
  ·
   cases hc : cutL b l with
   | nil => simp
   | cons y ys => rw [hc] at ih; simp only [List.length_cons] at ih ⊢; omega
theorem Cutting.len {b : UInt8} {l : List UInt8} {ps : List (List UInt8)} {f i : Nat} (h : Cutting b l ps f i) : ps.length ≤ l.length := by
 have h1 := cutL_len b l
 have h2 : 1 ≤ (cutL b (l.drop f)).length := by
  cases hd : l.drop f with
  | nil => simp [cutL]
  | cons x r =>
   rw [cutL]
   split
   ·
    simp
   ·
    cases cutL b r <;> simp
 rw [h.eq, List.length_append] at h1
 omega
theorem ext_data (s : ByteArray) (i j : Nat) : (s.extract i j).data.toList = (s.data.toList.drop i).take (j - i) := by
 rw [ByteArray.data_extract, Array.toList_extract]
theorem ext_wd (s : ByteArray) (i j : Nat) : s.extract i j = wd ((s.data.toList.drop i).take (j - i)) := by
 apply bytes_inj'
 rw [ext_data, wd_list]
theorem byte_at (s : ByteArray) (k : Nat) (h : k < s.size) : s.data.toList[k]? = some s[k] := by
 rw [List.getElem?_eq_getElem (by simpa using h)]
 rfl
def strP (ps : List (List UInt8)) : List Value := ps.map (fun x => Value.string (wd x))
theorem strP_eq (ps : List (List UInt8)) : strP ps = strL (ps.map wd) := by simp [strP, strL]
theorem strP_snoc (ps : List (List UInt8)) (x : List UInt8) : strP (ps ++ [x]) = strP ps ++ [.string (wd x)] := by simp [strP]
theorem bldS0 (w : World) : Sem.run Tryz.prog (Instr.buildSlice 43 0 #[]) w = .ok (.slice (some ⟨w.heap.size, 0, none⟩) 0 0) (w.alloc (.cells #[] 9)) := by kernel_rfl
set_option maxRecDepth 4000 in
set_option maxHeartbeats 4000000 in
theorem l7Cut_any (s : ByteArray) (bb : UInt8) (nb : Int) (hnb : nb = (bb.toNat : Int)) (w : World) (hs : s.size ≤ 1048576) :
  Calls Tryz.prog 32 #[.string s, .int .u8 nb] w fun e w' => (∃ g cap, e = .returned (.slice (some ⟨g, 0, none⟩) (cutL bb s.data.toList).length cap) ∧ (cutL bb s.data.toList).length ≤ cap ∧ g < w'.heap.size ∧ ∀ (j : Nat) x, (cutL bb s.data.toList)[j]? = some x → w'.cell? ⟨g, j, none⟩ = some (.string (wd x))) ∧ Below w.heap.size w w' := by
 subst hnb
 obtain ⟨i0, hi, hz0, hz1, hz2⟩ := infoS_parts
 have hbn := bldS0
 have hlen : s.data.toList.length = s.size := (size_data s).symm
 go_enter Tryz.func32, Tryz.ntmps32
 go_wp2
 clear hbn
 go_loopw [5, 6, 7] (fun v f i wx => ∃ (ps : List (List UInt8)) (fn k : Nat), f = .int .i64 fn ∧ i = .int .i64 k ∧ fn ≤ k ∧ k ≤ s.size ∧ Hid (Cutting bb s.data.toList ps fn k) ∧ Hid (wx.ownsRow w.heap.size 9 1 v ps.length (strP ps)) ∧ Hid (v ≠ .slice none 0 0) ∧ Hid (Below w.heap.size w wx)) (fun _ _ i _ => s.size - (intOf i).toNat)
 case atStart => exact ⟨[], 0, 0, rfl, rfl, Nat.le_refl _, Nat.zero_le _, ⟨Nat.le_refl _, Nat.zero_le _, by simp, by simp⟩, World.ownsRow_made w #[] 0 (Nat.le_refl _) (Nat.zero_le _) rfl, not_noneS, bl_alloc (Below.refl _ _) _⟩
 case round =>
  obtain ⟨ps, fn, k, rfl, rfl, hfk, hk, HC, Ho, Hn, hB⟩ := hrel
  have hps := HC.out.len
  have f0 : (0 : Int) ≤ (fn : Int) := by omega
  have f1 : (fn : Int) ≤ (k : Int) := by omega
  have f2 : (k : Int) ≤ (s.size : Int) := by omega
  have f3 : (fn : Int) ≤ (s.size : Int) := by omega
  by_cases hlt : k < s.size
  ·
   by_cases hb : s[k] = bb
   ·
    have hb2 : (s[k].toNat : Int) = (bb.toNat : Int) := by rw [hb]
    have hat := byte_at s k hlt
    rw [hb] at hat
    have HC2 : Hid (Cutting bb s.data.toList (ps ++ [(s.data.toList.drop fn).take (k - fn)]) (k + 1) (k + 1)) := HC.out.hit hat
    clear hat
    go_wp2_with ((at_builtin; refine wpList_append_own _ rfl _ _ 43 rfl w.heap.size 9 i0 _ 1 16 Tryz.underlying43 hi hz0 hz1 hz2 rfl (by decide) _ ps.length _ rfl (by exact ownsS_below Ho.out (bl_alloc (Below.refl _ _) _)) ⟨_, 0, none⟩ 1 1 [.string (s.extract fn k)] rfl rfl (newS_cells _ _ (by simp) _ _ _ rfl) (strL_one _) (by unfold maxLen; omega) (by omega) (by have := hB.out.size; simp; omega) ?_; intro v' w2 ho1 hg1 hn1; have O1 : Hid (w2.ownsRow w.heap.size 9 1 v' (ps.length + 1) (strP ps ++ [.string (s.extract fn k)])) := ho1; have N1 : Hid (v' ≠ .slice none 0 0) := fun h => (by have := hn1.1 h; simp at this); have G1 : Hid (World.grownBy _ w2 _) := hg1; clear ho1 hn1 hg1))
    have e1 : strP ps ++ [.string (s.extract fn k)] = strP (ps ++ [(s.data.toList.drop fn).take (k - fn)]) := by rw [strP_snoc, ext_wd]
    rw [e1] at O1
    exact ⟨⟨ps ++ [(s.data.toList.drop fn).take (k - fn)], k + 1, k + 1, by go_num, by go_num, Nat.le_refl _, by omega, HC2.out, by rw [List.length_append]; exact O1.out, N1.out, Below.grown (bl_alloc hB.out _) G1.out (by have := hB.out.size; simp; omega) (ownsS_ge Ho.out)⟩, by simp [intOf]; omega⟩
   ·
    have hb2 : ¬ ((s[k].toNat : Int) = (bb.toNat : Int)) := by
     intro h
     exact hb (UInt8.toNat_inj.1 (by omega))
    have hat := byte_at s k hlt
    have HC2 : Hid (Cutting bb s.data.toList ps fn (k + 1)) := HC.out.skip hat hb
    clear hat
    go_wp2_with fail
    exact ⟨⟨ps, fn, k + 1, rfl, by go_num, by omega, by omega, HC2.out, Ho.out, Hn.out, hB.out⟩, by simp [intOf]; omega⟩
  ·
   have hk2 : k = s.size := by omega
   subst hk2
   have HD : Hid (cutL bb s.data.toList = ps ++ [s.data.toList.drop fn]) := HC.out.done (by rw [hlen]; exact Nat.le_refl _)
   go_wp2_with (at_builtin; refine wpList_append_own _ rfl _ _ 43 rfl w.heap.size 9 i0 _ 1 16 Tryz.underlying43 hi hz0 hz1 hz2 rfl (by decide) _ ps.length _ rfl (by exact ownsS_below Ho.out (bl_alloc (Below.refl _ _) _)) ⟨_, 0, none⟩ 1 1 [.string (s.extract fn s.size)] rfl rfl (newS_cells _ _ (by simp) _ _ _ rfl) (strL_one _) (by unfold maxLen; omega) (by omega) (by have := hB.out.size; simp; omega) ?_; intro v' w2 ho1 hg1 hn1; have O1 : Hid (w2.ownsRow w.heap.size 9 1 v' (ps.length + 1) (strP ps ++ [.string (s.extract fn s.size)])) := ho1; have N1 : Hid (v' ≠ .slice none 0 0) := fun h => (by have := hn1.1 h; simp at this); have G1 : Hid (World.grownBy _ w2 _) := hg1; clear ho1 hn1 hg1)
   have e1 : strP ps ++ [.string (s.extract fn s.size)] = strL ((ps ++ [s.data.toList.drop fn]).map wd) := by
    rw [← strP_eq, strP_snoc, ext_wd, List.take_of_length_le (by rw [List.length_drop, hlen]; exact Nat.le_refl _)]
   rw [e1] at O1
   go_ret
   obtain ⟨g, cap, q1, q2, q3, q4⟩ := cells_ownsS O1.out N1.out
   rw [HD.out]
   refine ⟨⟨g, cap, by rw [q1, List.length_append]; rfl, by rw [List.length_append]; exact q2, q3, fun j x hj => q4 j (wd x) (by rw [List.getElem?_map, hj]; rfl)⟩, Below.grown (bl_alloc hB.out _) G1.out (by have := hB.out.size; simp; omega) (ownsS_ge Ho.out)⟩
def fnV (n : Nat) : Value := .func (.func n) #[] #[]
def formC (k : Int) (w : ByteArray) (f1 f2 f3 : Nat) : List Value := [.int .i64 k, .string w, fnV f1, fnV f2, fnV f3]
def formsL : List Value := formC 1 { data := #[116, 111, 108, 100] } 73 74 75 ++ formC 2 { data := #[97, 115, 107, 101, 100] } 76 77 78 ++ formC 3 { data := #[103, 105, 118, 101, 110] } 76 77 78 ++ formC 4 { data := #[98, 97, 99, 107] } 76 77 78 ++ formC 5 { data := #[103, 111, 116, 98, 97, 99, 107] } 79 80 81 ++ formC 6 { data := #[104, 101, 114, 101] } 82 74 75
def formsA : Array Value := formsL.toArray
set_option maxRecDepth 4000 in
set_option maxHeartbeats 2000000 in
theorem mailForms_any (w : World) : Calls Tryz.prog 52 #[] w fun e w' => e = .returned (.slice (some ⟨w.heap.size, 0, none⟩) 6 6) ∧ w' = w.alloc (.cells formsA 51) := by
 go_enter Tryz.func52, Tryz.ntmps52
 go_wp2
 go_ret
 exact ⟨rfl, rfl⟩
end Go.Proofs.YtgakmkhbnjofhaaGreatDoor
