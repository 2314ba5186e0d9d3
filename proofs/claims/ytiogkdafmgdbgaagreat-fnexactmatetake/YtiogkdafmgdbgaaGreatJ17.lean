import Derived.Test.YtiogkdafmgdbgaaGreatJ08
import Derived.Test.YtiogkdafmgdbgaaGreatJ16
import Derived.Test.YtiogkdafmgdbgaaGreatJ14
import Derived.Test.YtiogkdafmgdbgaaGreatJ10
/- The empty mate, and a struct that is stored whole. -/
namespace Go.Proofs.YtiogkdafmgdbgaaGreat
open Go.RowKit
set_option linter.unusedVariables false

def zeroD : MateD := ⟨{ data := #[] }, false, 0, false, 0, [], [], [], []⟩
theorem slm_zero (w : World) (B : Nat) : SlM w zeroD (.slice none 0 0) (.slice none 0 0) (.slice none 0 0) (.slice none 0 0) B :=
  ⟨Or.inl ⟨rfl, rfl⟩, Or.inl ⟨rfl, rfl⟩, Or.inl ⟨rfl, rfl⟩, Or.inl ⟨rfl, rfl⟩, Or.inl rfl, Or.inl rfl, Or.inl rfl, Or.inl rfl, Or.inl rfl, Or.inl rfl⟩
theorem Sc.all {w x : World} {O : Array Value} (h : Sc w O x) (hO : O.size = 9) (l : List Value) (hl : l.length = 9) : Sc w l.toArray (x.setCells w.heap.size 0 l) := by
  have he : Ex w.heap.size x (x.setCells w.heap.size 0 l) := (Ex.refl _ _).cells _ _
  have hf := h.f
  have hth : x.there w.heap.size 0 l.length := fun j hj => by
    have h1 := h.b j
    have h2 : j < O.size := by omega
    rw [Array.getElem?_eq_getElem h2] at h1
    exact ⟨by rw [Nat.zero_add, h1]; rfl, by rw [Nat.zero_add]; exact h.c j⟩
  refine ⟨fun k => ?_, fun k => ?_, there_ex h.d (by omega) he (by omega), Ex.mono h.e he (Nat.le_refl _), Nat.lt_of_lt_of_le hf he.size⟩
  · by_cases e : k < l.length
    · have h1 := World.rangeAt_setCells_same x w.heap.size 0 l hth k l[k] (List.getElem?_eq_getElem e)
      rw [Nat.zero_add] at h1
      rw [h1]; simp [e]
    · rw [World.cell?_setCells_out _ _ _ _ _ (fun _ _ => Or.inr (by show 0 + l.length ≤ k; omega)), h.b k, Array.getElem?_eq_none (by omega), Array.getElem?_eq_none (by simp; omega)]
  · rw [World.frozen?_setCells]; exact h.c k
theorem Sc.box {w x : World} {O : Array Value} (h : Sc w O x) (hO : O.size = 9) : x.there w.heap.size 0 9 := fun j hj => by
  have h1 := h.b j
  have h2 : j < O.size := by omega
  rw [Array.getElem?_eq_getElem h2] at h1
  exact ⟨by rw [Nat.zero_add, h1]; rfl, by rw [Nat.zero_add]; exact h.c j⟩
theorem zeros_one : ∀ u ∈ ([.string { data := #[] }, .bool false, .int .i64 0, .bool false, .int .i64 0, .slice none 0 0, .slice none 0 0, .slice none 0 0, .slice none 0 0] : List Value), u.oneCell' = true := by
  intro u hu
  simp only [List.mem_cons, List.not_mem_nil, or_false] at hu
  rcases hu with rfl | rfl | rfl | rfl | rfl | rfl | rfl | rfl | rfl <;> rfl
theorem SlM.ex {w w' : World} {m : MateD} {s1 s2 s3 s4 : Value} {B k : Nat} (h : SlM w m s1 s2 s3 s4 B) (he : Ex k w w') (hk : k < B) : SlM w' m s1 s2 s3 s4 B :=
  ⟨h.a1.grown (W.ex_grown he) (ob_ne (N := k) (fun g hg => Nat.lt_of_lt_of_le hk (h.a1.lt g hg).1) (Nat.le_refl _)), h.a2.grown (ex_grown he) (ob_ne (N := k) (fun g hg => Nat.lt_of_lt_of_le hk (h.a2.lt g hg).1) (Nat.le_refl _)), h.a3.grown (A.ex_grown he) (ob_ne (N := k) (fun g hg => Nat.lt_of_lt_of_le hk (h.a3.lt g hg).1) (Nat.le_refl _)), h.a4.grown (A.ex_grown he) (ob_ne (N := k) (fun g hg => Nat.lt_of_lt_of_le hk (h.a4.lt g hg).1) (Nat.le_refl _)), h.d12, h.d13, h.d14, h.d23, h.d24, h.d34⟩
theorem SlM.low {w : World} {m : MateD} {s1 s2 s3 s4 : Value} {B B' : Nat} (h : SlM w m s1 s2 s3 s4 B) (hB : B' ≤ B) : SlM w m s1 s2 s3 s4 B' :=
  ⟨h.a1.low hB, h.a2.low hB, h.a3.low hB, h.a4.low hB, h.d12, h.d13, h.d14, h.d23, h.d24, h.d34⟩
theorem Sc.put {w x : World} {O : Array Value} (h : Sc w O x) (l : List Value) : Below w.heap.size w (x.setCells (w.heap.size + 1) 0 l) :=
  Ex.mono h.e ((Ex.refl (w.heap.size + 1) x).cells l 0) (Nat.le_succ _)
theorem saysV_false {m : MateD} (h : SaysV false m) : ¬ Valid m := fun hv => by have := h.2 hv; cases this
end Go.Proofs.YtiogkdafmgdbgaaGreat
/- What a mate is that took a parcel. -/
namespace Go.Proofs.YtiogkdafmgdbgaaGreat
open Go.RowKit Go.Maps Go.WideMaps
set_option linter.unusedVariables false

open Classical in
noncomputable def tookD (m : MateD) (p : ParcelD) : MateD :=
  if m.up = true ∧ p.b.toList = m.nm.toList then
    if p.k = 1 then (if HearOk m p then ⟨m.nm, m.up, m.ck, true, p.s, p.ws, m.rs, m.qs, m.gs⟩ else m)
    else if p.k = 3 then ⟨m.nm, m.up, m.ck, m.kn, m.se, m.ws, prolR m.qs p m.rs, m.qs, m.gs⟩
    else if p.k = 5 then ⟨m.nm, m.up, m.ck, m.kn, m.se, m.ws, m.rs, m.qs, forgR m.gs p.h p.t⟩
    else m
  else m
def Takes (m : MateD) (p : ParcelD) (r : MateD) : Prop := (Valid m ∧ r = tookD m p) ∨ (¬ Valid m ∧ r = zeroD)
theorem Takes.one {m r r' : MateD} {p : ParcelD} (h : Takes m p r) (h' : Takes m p r') : r = r' := by
  rcases h with ⟨h1, rfl⟩ | ⟨h1, rfl⟩ <;> rcases h' with ⟨h2, rfl⟩ | ⟨h2, rfl⟩
  · rfl
  · exact (h2 h1).elim
  · exact (h1 h2).elim
  · rfl
theorem took_stay {m : MateD} {p : ParcelD} (h : ¬ (m.up = true ∧ p.b.toList = m.nm.toList)) : tookD m p = m := if_neg h
theorem took_told {m : MateD} {p : ParcelD} (h : m.up = true ∧ p.b.toList = m.nm.toList) (k : p.k = 1) (hh : HearOk m p) : tookD m p = ⟨m.nm, m.up, m.ck, true, p.s, p.ws, m.rs, m.qs, m.gs⟩ := by
  unfold tookD; rw [if_pos h, if_pos k, if_pos hh]
theorem took_deaf {m : MateD} {p : ParcelD} (h : m.up = true ∧ p.b.toList = m.nm.toList) (k : p.k = 1) (hh : ¬ HearOk m p) : tookD m p = m := by
  unfold tookD; rw [if_pos h, if_pos k, if_neg hh]
theorem took_given {m : MateD} {p : ParcelD} (h : m.up = true ∧ p.b.toList = m.nm.toList) (k : p.k = 3) : tookD m p = ⟨m.nm, m.up, m.ck, m.kn, m.se, m.ws, prolR m.qs p m.rs, m.qs, m.gs⟩ := by
  unfold tookD; rw [if_pos h, if_neg (by omega), if_pos k]
theorem took_back {m : MateD} {p : ParcelD} (h : m.up = true ∧ p.b.toList = m.nm.toList) (k : p.k = 5) : tookD m p = ⟨m.nm, m.up, m.ck, m.kn, m.se, m.ws, m.rs, m.qs, forgR m.gs p.h p.t⟩ := by
  unfold tookD; rw [if_pos h, if_neg (by omega), if_neg (by omega), if_pos k]
theorem took_other {m : MateD} {p : ParcelD} (k1 : p.k ≠ 1) (k3 : p.k ≠ 3) (k5 : p.k ≠ 5) : tookD m p = m := by
  simp [tookD, k1, k3, k5]

/-- A mate's lists are in order. -/
structure SrtM (m : MateD) : Prop where
  s1 : W.Srt m.ws
  s2 : Srt m.rs
  s3 : A.Srt m.qs
  s4 : A.Srt m.gs
theorem allOk_asc {c : Int} {rs : List RunD} (h : AllOk c rs rs.length) : AscN rs rs.length := by
  intro j q r hj hq hr
  have := h (j + 1) r hj hr
  simp only [stepOk, hq, Bool.and_eq_true] at this
  exact this.2
theorem valid_srt {m : MateD} (h : Valid m) : SrtM m :=
  ⟨W.srt_asc h.2.1.1.2.2.1, srt_asc (allOk_asc h.2.2.1.2), A.srt_asc h.2.2.2.1.1.2.1, A.srt_asc h.2.2.2.1.2.2.1⟩
theorem valid_ask {m : MateD} (h : Valid m) : ∀ a ∈ m.qs, 0 ≤ a.f ∧ a.t ≤ 1000000 := by
  intro a ha
  have h1 := h.2.2.2.1.1.2.2 a ha
  have h2 := h.1
  simp only [A.askB, partsB, inB, Bool.and_eq_true, decide_eq_true_eq] at h1 h2
  omega
theorem bump_key (h c : ByteArray) (t : Int) (r : RunD) : (bump h c t r).c = r.c := by unfold bump; split <;> rfl
theorem bump_fits {h c : ByteArray} {t : Int} {r : RunD} (hr : r.fits) : (bump h c t r).fits := by unfold bump; split <;> exact hr
theorem prol_srt {qs : List A.AskD} {p : ParcelD} {rs : List RunD} (h : Srt rs) : Srt (prolR qs p rs) := by
  unfold prolR; split
  · unfold Srt Ord.Srt at h ⊢
    rw [List.pairwise_map]
    exact h.imp (fun {a b} hab => by simp only [keyV, bump_key]; exact hab)
  · exact h
theorem prol_len (qs : List A.AskD) (p : ParcelD) (rs : List RunD) : (prolR qs p rs).length = rs.length := by
  unfold prolR; split <;> simp
theorem prol_fits {qs : List A.AskD} {p : ParcelD} {rs : List RunD} (h : ∀ r ∈ rs, r.fits) : ∀ r ∈ prolR qs p rs, r.fits := by
  unfold prolR; split
  · intro r hr
    obtain ⟨q, hq, rfl⟩ := List.mem_map.1 hr
    exact bump_fits (h q hq)
  · exact h
theorem forg_sub (gs : List A.AskD) (h : ByteArray) (t : Int) : (forgR gs h t).Sublist gs := by
  unfold forgR; split
  · unfold Ord.out; exact List.filter_sublist
  · exact List.Sublist.refl _
theorem srt_told {m : MateD} {p : ParcelD} (h : SrtM m) (hh : HearOk m p) : SrtM ⟨m.nm, m.up, m.ck, true, p.s, p.ws, m.rs, m.qs, m.gs⟩ := ⟨W.srt_asc hh.2.2.2.2.1, h.s2, h.s3, h.s4⟩
theorem fit_told {m : MateD} {p : ParcelD} (h : m.fits) (hp : p.fits) : MateD.fits ⟨m.nm, m.up, m.ck, true, p.s, p.ws, m.rs, m.qs, m.gs⟩ := ⟨h.n, hp.w, h.f2, h.f3, h.f4, hp.l, h.k2, h.k3, h.k4⟩
theorem srt_given {m : MateD} {p : ParcelD} (h : SrtM m) : SrtM ⟨m.nm, m.up, m.ck, m.kn, m.se, m.ws, prolR m.qs p m.rs, m.qs, m.gs⟩ := ⟨h.s1, prol_srt h.s2, h.s3, h.s4⟩
theorem fit_given {m : MateD} {p : ParcelD} (h : m.fits) : MateD.fits ⟨m.nm, m.up, m.ck, m.kn, m.se, m.ws, prolR m.qs p m.rs, m.qs, m.gs⟩ := ⟨h.n, h.f1, prol_fits h.f2, h.f3, h.f4, h.k1, (by show (prolR _ _ _).length ≤ _; rw [prol_len]; exact h.k2), h.k3, h.k4⟩
theorem srt_back {m : MateD} {p : ParcelD} (h : SrtM m) : SrtM ⟨m.nm, m.up, m.ck, m.kn, m.se, m.ws, m.rs, m.qs, forgR m.gs p.h p.t⟩ := ⟨h.s1, h.s2, h.s3, List.Pairwise.sublist (forg_sub _ _ _) h.s4⟩
theorem fit_back {m : MateD} {p : ParcelD} (h : m.fits) : MateD.fits ⟨m.nm, m.up, m.ck, m.kn, m.se, m.ws, m.rs, m.qs, forgR m.gs p.h p.t⟩ := ⟨h.n, h.f1, h.f2, h.f3, fun r hr => h.f4 r ((forg_sub _ _ _).subset hr), h.k1, h.k2, h.k3, Nat.le_trans (forg_sub _ _ _).length_le h.k4⟩
end Go.Proofs.YtiogkdafmgdbgaaGreat
/- MateTake: the program's side. -/
namespace Go.Proofs.YtiogkdafmgdbgaaGreat
open Go.RowKit Go.Maps Go.WideMaps
set_option linter.unusedVariables false

/-- The boxes of a call's mate, its parcel and its answer. -/
structure Sp (w : World) (O P : Array Value) (x : World) : Prop where
  b : ∀ k, x.cell? ⟨w.heap.size, k, none⟩ = O[k]?
  c : ∀ k, x.frozen? ⟨w.heap.size, k, none⟩ = false
  b2 : ∀ k, x.cell? ⟨w.heap.size + 1, k, none⟩ = P[k]?
  c2 : ∀ k, x.frozen? ⟨w.heap.size + 1, k, none⟩ = false
  d : x.there (w.heap.size + 2) 0 9
  e : Below w.heap.size w x
  f : w.heap.size + 2 < x.heap.size
theorem Sp.ex {w x y : World} {O P : Array Value} {k : Nat} (h : Sp w O P x) (he : Ex k x y) (hk : w.heap.size + 2 < k) : Sp w O P y :=
  have hf := h.f
  ⟨fun j => (he.cell (p := ⟨w.heap.size, j, none⟩) (by show w.heap.size < _; omega) (by show w.heap.size ≠ _; omega)).trans (h.b j), fun j => (he.frozen (p := ⟨w.heap.size, j, none⟩) (by show w.heap.size < _; omega) (by show w.heap.size ≠ _; omega)).trans (h.c j), fun j => (he.cell (p := ⟨w.heap.size + 1, j, none⟩) (by show w.heap.size + 1 < _; omega) (by show w.heap.size + 1 ≠ _; omega)).trans (h.b2 j), fun j => (he.frozen (p := ⟨w.heap.size + 1, j, none⟩) (by show w.heap.size + 1 < _; omega) (by show w.heap.size + 1 ≠ _; omega)).trans (h.c2 j), there_ex h.d hf he (by omega), Ex.mono h.e he (by omega), Nat.lt_of_lt_of_le hf he.size⟩
theorem Sp.below {w x y : World} {O P : Array Value} (h : Sp w O P x) (hb : Below x.heap.size x y) : Sp w O P y := h.ex (k := w.heap.size + 3) (Ex.of_below hb) (by omega)
theorem Sp.put {w x : World} {O P : Array Value} (h : Sp w O P x) (l : List Value) : Below w.heap.size w (x.setCells (w.heap.size + 2) 0 l) :=
  Ex.mono h.e ((Ex.refl (w.heap.size + 2) x).cells l 0) (by omega)
theorem sp_new (m : MateD) (p : ParcelD) (b1 b2 b3 b4 b5 : Nat) (w : World) : Sp w #[.string m.nm, .bool m.up, .int .i64 m.ck, .bool m.kn, .int .i64 m.se, .slice (some ⟨b1, 0, none⟩) m.ws.length m.ws.length, .slice (some ⟨b2, 0, none⟩) m.rs.length m.rs.length, .slice (some ⟨b3, 0, none⟩) m.qs.length m.qs.length, .slice (some ⟨b4, 0, none⟩) m.gs.length m.gs.length] #[.int .i64 p.k, .string p.b, .int .i64 p.s, .slice (some ⟨b5, 0, none⟩) p.ws.length p.ws.length, .string p.h, .string p.c, .int .i64 p.t] (((w.alloc (.cells #[.string m.nm, .bool m.up, .int .i64 m.ck, .bool m.kn, .int .i64 m.se, .slice (some ⟨b1, 0, none⟩) m.ws.length m.ws.length, .slice (some ⟨b2, 0, none⟩) m.rs.length m.rs.length, .slice (some ⟨b3, 0, none⟩) m.qs.length m.qs.length, .slice (some ⟨b4, 0, none⟩) m.gs.length m.gs.length] 35)).alloc (.cells #[.int .i64 p.k, .string p.b, .int .i64 p.s, .slice (some ⟨b5, 0, none⟩) p.ws.length p.ws.length, .string p.h, .string p.c, .int .i64 p.t] 39)).alloc (.cells #[.string { data := #[] }, .bool false, .int .i64 0, .bool false, .int .i64 0, .slice none 0 0, .slice none 0 0, .slice none 0 0, .slice none 0 0] 35)) :=
  ⟨fun k => by simp [go_sem], fun k => by simp [go_sem], fun k => by simp [go_sem], fun k => by simp [go_sem], fun j hj => ⟨by simp [go_sem] <;> omega, by simp [go_sem]⟩, bl_alloc (bl_alloc (bl_alloc (Below.refl _ _) _) _) _, by simp⟩

set_option maxRecDepth 4000 in
set_option maxHeartbeats 4000000 in
theorem implTake (m : MateD) (p : ParcelD) (b1 b2 b3 b4 b5 : Nat) (w : World) (hL : Lists w m b1 b2 b3 b4) (hf : m.fits) (hR : W.RowsAt w b5 0 p.ws) (l5 : b5 < w.heap.size) (hp : p.fits) :
    Calls Tryz.prog 9 #[.agg #[.string m.nm, .bool m.up, .int .i64 m.ck, .bool m.kn, .int .i64 m.se, .slice (some ⟨b1, 0, none⟩) m.ws.length m.ws.length, .slice (some ⟨b2, 0, none⟩) m.rs.length m.rs.length, .slice (some ⟨b3, 0, none⟩) m.qs.length m.qs.length, .slice (some ⟨b4, 0, none⟩) m.gs.length m.gs.length], .agg #[.int .i64 p.k, .string p.b, .int .i64 p.s, .slice (some ⟨b5, 0, none⟩) p.ws.length p.ws.length, .string p.h, .string p.c, .int .i64 p.t]] w fun e w' => (∃ r s1 s2 s3 s4, e = .returned (.agg #[.string r.nm, .bool r.up, .int .i64 r.ck, .bool r.kn, .int .i64 r.se, s1, s2, s3, s4]) ∧ Takes m p r ∧ SlM w' r s1 s2 s3 s4 w.heap.size) ∧ Below w.heap.size w w' := by
  have S0 : Hid (Sp w #[.string m.nm, .bool m.up, .int .i64 m.ck, .bool m.kn, .int .i64 m.se, .slice (some ⟨b1, 0, none⟩) m.ws.length m.ws.length, .slice (some ⟨b2, 0, none⟩) m.rs.length m.rs.length, .slice (some ⟨b3, 0, none⟩) m.qs.length m.qs.length, .slice (some ⟨b4, 0, none⟩) m.gs.length m.gs.length] #[.int .i64 p.k, .string p.b, .int .i64 p.s, .slice (some ⟨b5, 0, none⟩) p.ws.length p.ws.length, .string p.h, .string p.c, .int .i64 p.t] (((w.alloc (.cells #[.string m.nm, .bool m.up, .int .i64 m.ck, .bool m.kn, .int .i64 m.se, .slice (some ⟨b1, 0, none⟩) m.ws.length m.ws.length, .slice (some ⟨b2, 0, none⟩) m.rs.length m.rs.length, .slice (some ⟨b3, 0, none⟩) m.qs.length m.qs.length, .slice (some ⟨b4, 0, none⟩) m.gs.length m.gs.length] 35)).alloc (.cells #[.int .i64 p.k, .string p.b, .int .i64 p.s, .slice (some ⟨b5, 0, none⟩) p.ws.length p.ws.length, .string p.h, .string p.c, .int .i64 p.t] 39)).alloc (.cells #[.string { data := #[] }, .bool false, .int .i64 0, .bool false, .int .i64 0, .slice none 0 0, .slice none 0 0, .slice none 0 0, .slice none 0 0] 35))) := sp_new m p b1 b2 b3 b4 b5 w
  have hinfo : (Tryz.prog.info? 35).map (·.size) = some 9 := by kernel_rfl
  have HR : Hid (W.RowsAt w b5 0 p.ws) := hR
  have HP : Hid p.fits := hp
  clear hR hp
  go_enter Tryz.func9, Tryz.ntmps9
  go_wp2_with fail
  refine (implValid m b1 b2 b3 b4 _ (hL.keep S0.out.e) hf).mono ?_
  rintro e w1 ⟨⟨q, rfl, hq⟩, c1⟩
  have S1 : Hid (Sp w #[.string m.nm, .bool m.up, .int .i64 m.ck, .bool m.kn, .int .i64 m.se, .slice (some ⟨b1, 0, none⟩) m.ws.length m.ws.length, .slice (some ⟨b2, 0, none⟩) m.rs.length m.rs.length, .slice (some ⟨b3, 0, none⟩) m.qs.length m.qs.length, .slice (some ⟨b4, 0, none⟩) m.gs.length m.gs.length] #[.int .i64 p.k, .string p.b, .int .i64 p.s, .slice (some ⟨b5, 0, none⟩) p.ws.length p.ws.length, .string p.h, .string p.c, .int .i64 p.t] w1) := S0.out.below c1
  have Hq : Hid (SaysV q m) := hq
  clear hq c1
  have ka := S1.out.b
  have kf := S1.out.c
  have kp := S1.out.b2
  have kq := S1.out.c2
  cases q
  · go_wp2_with (refine wpList_store_mid (by rfl) 35 _ _ (by rfl) (w.heap.size + 2) 0 #[.string { data := #[] }, .bool false, .int .i64 0, .bool false, .int .i64 0, .slice none 0 0, .slice none 0 0, .slice none 0 0, .slice none 0 0] (by rfl) (by rfl) (by exact S1.out.d) hinfo (by exact all_oneCell_toArray (zeros_one)) ?_)
    have hrg := World.rangeAt_setCells_same w1 (w.heap.size + 2) 0 [.string { data := #[] }, .bool false, .int .i64 0, .bool false, .int .i64 0, .slice none 0 0, .slice none 0 0, .slice none 0 0, .slice none 0 0] S1.out.d
    have d0 := hrg 0 _ rfl
    have d1 := hrg 1 _ rfl
    have d2 := hrg 2 _ rfl
    have d3 := hrg 3 _ rfl
    have d4 := hrg 4 _ rfl
    have d5 := hrg 5 _ rfl
    have d6 := hrg 6 _ rfl
    have d7 := hrg 7 _ rfl
    have d8 := hrg 8 _ rfl
    simp only [Nat.zero_add] at d0 d1 d2 d3 d4 d5 d6 d7 d8
    exact bodyPost_ret (v := .agg #[.string { data := #[] }, .bool false, .int .i64 0, .bool false, .int .i64 0, .slice none 0 0, .slice none 0 0, .slice none 0 0, .slice none 0 0]) (by simp [results, Tryz.results9, go_sem, d0, d1, d2, d3, d4, d5, d6, d7, d8]) rfl ⟨⟨zeroD, _, _, _, _, rfl, Or.inr ⟨saysV_false Hq.out, rfl⟩, slm_zero _ _⟩, S1.out.put _⟩
  have hv : Hid (Valid m) := Hq.out.1 rfl
  clear Hq
  obtain ⟨v, hu⟩ : ∃ v, m.up = v := ⟨_, rfl⟩
  have Hu : Hid (m.up = v) := hu
  rw [hu] at ka
  clear hu
  cases v
  · go_wp2_with fail
    have F := freshMate_any m b1 b2 b3 b4 w1 (hL.keep S1.out.e) hf
    rw [Hu.out] at F
    refine F.mono ?_
    clear F
    rintro e w2 ⟨⟨s1, s2, s3, s4, rfl, rr⟩, c2⟩
    have S2 : Hid (Sp w #[.string m.nm, .bool m.up, .int .i64 m.ck, .bool m.kn, .int .i64 m.se, .slice (some ⟨b1, 0, none⟩) m.ws.length m.ws.length, .slice (some ⟨b2, 0, none⟩) m.rs.length m.rs.length, .slice (some ⟨b3, 0, none⟩) m.qs.length m.qs.length, .slice (some ⟨b4, 0, none⟩) m.gs.length m.gs.length] #[.int .i64 p.k, .string p.b, .int .i64 p.s, .slice (some ⟨b5, 0, none⟩) p.ws.length p.ws.length, .string p.h, .string p.c, .int .i64 p.t] w2) := S1.out.below c2
    clear c2 ka kf kp kq
    obtain ⟨a1, p1, hs1⟩ := W.Sl.shape rr.a1
    obtain ⟨a2, p2, hs2⟩ := Sl.shape rr.a2
    obtain ⟨a3, p3, hs3⟩ := A.Sl.shape rr.a3
    obtain ⟨a4, p4, hs4⟩ := A.Sl.shape rr.a4
    subst hs1 hs2 hs3 hs4
    have R9 : Hid (SlM w2 m (.slice a1 m.ws.length p1) (.slice a2 m.rs.length p2) (.slice a3 m.qs.length p3) (.slice a4 m.gs.length p4) w1.heap.size) := rr
    have z9 : w.heap.size + 2 < w1.heap.size := S1.out.f
    clear rr
    have ho := ones m R9.out.a1 R9.out.a2 R9.out.a3 R9.out.a4
    rw [Hu.out] at ho
    go_wp2_with (refine wpList_store_mid (by rfl) 35 _ _ (by rfl) (w.heap.size + 2) 0 #[.string m.nm, .bool false, .int .i64 m.ck, .bool m.kn, .int .i64 m.se, .slice a1 m.ws.length p1, .slice a2 m.rs.length p2, .slice a3 m.qs.length p3, .slice a4 m.gs.length p4] (by rfl) (by rfl) (by exact S2.out.d) hinfo (by exact all_oneCell_toArray (ho)) ?_)
    have hrg := World.rangeAt_setCells_same w2 (w.heap.size + 2) 0 [.string m.nm, .bool false, .int .i64 m.ck, .bool m.kn, .int .i64 m.se, .slice a1 m.ws.length p1, .slice a2 m.rs.length p2, .slice a3 m.qs.length p3, .slice a4 m.gs.length p4] S2.out.d
    have d0 := hrg 0 _ rfl
    have d1 := hrg 1 _ rfl
    have d2 := hrg 2 _ rfl
    have d3 := hrg 3 _ rfl
    have d4 := hrg 4 _ rfl
    have d5 := hrg 5 _ rfl
    have d6 := hrg 6 _ rfl
    have d7 := hrg 7 _ rfl
    have d8 := hrg 8 _ rfl
    simp only [Nat.zero_add] at d0 d1 d2 d3 d4 d5 d6 d7 d8
    exact bodyPost_ret (v := .agg #[.string m.nm, .bool false, .int .i64 m.ck, .bool m.kn, .int .i64 m.se, .slice a1 m.ws.length p1, .slice a2 m.rs.length p2, .slice a3 m.qs.length p3, .slice a4 m.gs.length p4]) (by simp [results, Tryz.results9, go_sem, d0, d1, d2, d3, d4, d5, d6, d7, d8]) rfl ⟨⟨m, _, _, _, _, by rw [Hu.out], Or.inl ⟨hv.out, (took_stay fun h => by have := h.1; rw [Hu.out] at this; cases this).symm⟩, (R9.out.ex ((Ex.refl _ _).cells _ _) z9).low (by omega)⟩, S2.out.put _⟩
  cases hb : p.b.toList == m.nm.toList
  · go_wp2_with fail
    have F := freshMate_any m b1 b2 b3 b4 w1 (hL.keep S1.out.e) hf
    rw [Hu.out] at F
    refine F.mono ?_
    clear F
    rintro e w2 ⟨⟨s1, s2, s3, s4, rfl, rr⟩, c2⟩
    have S2 : Hid (Sp w #[.string m.nm, .bool m.up, .int .i64 m.ck, .bool m.kn, .int .i64 m.se, .slice (some ⟨b1, 0, none⟩) m.ws.length m.ws.length, .slice (some ⟨b2, 0, none⟩) m.rs.length m.rs.length, .slice (some ⟨b3, 0, none⟩) m.qs.length m.qs.length, .slice (some ⟨b4, 0, none⟩) m.gs.length m.gs.length] #[.int .i64 p.k, .string p.b, .int .i64 p.s, .slice (some ⟨b5, 0, none⟩) p.ws.length p.ws.length, .string p.h, .string p.c, .int .i64 p.t] w2) := S1.out.below c2
    clear c2 ka kf kp kq
    obtain ⟨a1, p1, hs1⟩ := W.Sl.shape rr.a1
    obtain ⟨a2, p2, hs2⟩ := Sl.shape rr.a2
    obtain ⟨a3, p3, hs3⟩ := A.Sl.shape rr.a3
    obtain ⟨a4, p4, hs4⟩ := A.Sl.shape rr.a4
    subst hs1 hs2 hs3 hs4
    have R9 : Hid (SlM w2 m (.slice a1 m.ws.length p1) (.slice a2 m.rs.length p2) (.slice a3 m.qs.length p3) (.slice a4 m.gs.length p4) w1.heap.size) := rr
    have z9 : w.heap.size + 2 < w1.heap.size := S1.out.f
    clear rr
    have ho := ones m R9.out.a1 R9.out.a2 R9.out.a3 R9.out.a4
    rw [Hu.out] at ho
    go_wp2_with (refine wpList_store_mid (by rfl) 35 _ _ (by rfl) (w.heap.size + 2) 0 #[.string m.nm, .bool true, .int .i64 m.ck, .bool m.kn, .int .i64 m.se, .slice a1 m.ws.length p1, .slice a2 m.rs.length p2, .slice a3 m.qs.length p3, .slice a4 m.gs.length p4] (by rfl) (by rfl) (by exact S2.out.d) hinfo (by exact all_oneCell_toArray (ho)) ?_)
    have hrg := World.rangeAt_setCells_same w2 (w.heap.size + 2) 0 [.string m.nm, .bool true, .int .i64 m.ck, .bool m.kn, .int .i64 m.se, .slice a1 m.ws.length p1, .slice a2 m.rs.length p2, .slice a3 m.qs.length p3, .slice a4 m.gs.length p4] S2.out.d
    have d0 := hrg 0 _ rfl
    have d1 := hrg 1 _ rfl
    have d2 := hrg 2 _ rfl
    have d3 := hrg 3 _ rfl
    have d4 := hrg 4 _ rfl
    have d5 := hrg 5 _ rfl
    have d6 := hrg 6 _ rfl
    have d7 := hrg 7 _ rfl
    have d8 := hrg 8 _ rfl
    simp only [Nat.zero_add] at d0 d1 d2 d3 d4 d5 d6 d7 d8
    exact bodyPost_ret (v := .agg #[.string m.nm, .bool true, .int .i64 m.ck, .bool m.kn, .int .i64 m.se, .slice a1 m.ws.length p1, .slice a2 m.rs.length p2, .slice a3 m.qs.length p3, .slice a4 m.gs.length p4]) (by simp [results, Tryz.results9, go_sem, d0, d1, d2, d3, d4, d5, d6, d7, d8]) rfl ⟨⟨m, _, _, _, _, by rw [Hu.out], Or.inl ⟨hv.out, (took_stay fun h => (beq_eq_false_iff_ne.1 hb) h.2).symm⟩, (R9.out.ex ((Ex.refl _ _).cells _ _) z9).low (by omega)⟩, S2.out.put _⟩
  have HT : Hid (m.up = true ∧ p.b.toList = m.nm.toList) := ⟨Hu.out, by simpa using hb⟩
  have HS : Hid (SrtM m) := valid_srt hv.out
  go_wp2_with fail
  have F := deckOf_any m b1 b2 b3 b4 w1 (hL.keep S1.out.e) hf HS.out.s1 HS.out.s2 HS.out.s3 HS.out.s4
  rw [Hu.out] at F
  refine F.mono ?_
  clear F
  rintro e w2 ⟨⟨d, m1, m2, m3, m4, rfl, dk, ⟨o0, o1, o2, o3, o4⟩, n2, a2, ho2⟩, c2⟩
  have S2 : Hid (Sp w #[.string m.nm, .bool m.up, .int .i64 m.ck, .bool m.kn, .int .i64 m.se, .slice (some ⟨b1, 0, none⟩) m.ws.length m.ws.length, .slice (some ⟨b2, 0, none⟩) m.rs.length m.rs.length, .slice (some ⟨b3, 0, none⟩) m.qs.length m.qs.length, .slice (some ⟨b4, 0, none⟩) m.gs.length m.gs.length] #[.int .i64 p.k, .string p.b, .int .i64 p.s, .slice (some ⟨b5, 0, none⟩) p.ws.length p.ws.length, .string p.h, .string p.c, .int .i64 p.t] w2) := S1.out.below c2
  have DK : Hid (Deck w2 d #[.string m.nm, .bool m.up, .int .i64 m.ck, .bool m.kn, .int .i64 m.se, .slice (some ⟨b1, 0, none⟩) m.ws.length m.ws.length, .slice (some ⟨b2, 0, none⟩) m.rs.length m.rs.length, .slice (some ⟨b3, 0, none⟩) m.qs.length m.qs.length, .slice (some ⟨b4, 0, none⟩) m.gs.length m.gs.length, .map (some m1), .map (some m2), .map (some m3), .map (some m4)] m1 m2 m3 m4 m.ws m.rs m.qs m.gs) := by rw [Hu.out]; exact dk
  have HO : Hid (w2.ownsMap Tryz.prog 9 RV m2 n2 (dec m.rs)) := ho2
  have hz : w.heap.size + 2 < m1 := Nat.lt_of_lt_of_le S1.out.f o0
  clear dk ho2 c2 ka kf kp kq
  have ka := S2.out.b
  have kf := S2.out.c
  have kp := S2.out.b2
  have kq := S2.out.c2
  by_cases k1 : p.k = 1
  · rw [k1] at kp
    go_wp2_with fail
    have F := hear_any m p _ _ _ _ _ _ _ _ _ _ _ _ d m1 m2 m3 m4 b5 _ DK.out (by omega) (by omega) (by omega) (by omega) (HR.out.keep l5 S2.out.e) (Nat.lt_of_lt_of_le l5 S2.out.e.size) (by omega) HP.out
    rw [k1] at F
    refine F.mono ?_
    clear F
    rintro e w3 ⟨rfl, dk, c3⟩
    have S3 : Hid (Sp w #[.string m.nm, .bool m.up, .int .i64 m.ck, .bool m.kn, .int .i64 m.se, .slice (some ⟨b1, 0, none⟩) m.ws.length m.ws.length, .slice (some ⟨b2, 0, none⟩) m.rs.length m.rs.length, .slice (some ⟨b3, 0, none⟩) m.qs.length m.qs.length, .slice (some ⟨b4, 0, none⟩) m.gs.length m.gs.length] #[.int .i64 p.k, .string p.b, .int .i64 p.s, .slice (some ⟨b5, 0, none⟩) p.ws.length p.ws.length, .string p.h, .string p.c, .int .i64 p.t] w3) := S2.out.ex c3 (by omega)
    clear c3 ka kf kp kq
    rcases dk with ⟨hh, m1', dk⟩ | ⟨hh, dk⟩
    · have DK3 : Hid _ := dk
      have HH : Hid (HearOk m p) := hh
      clear dk hh
      obtain ⟨r, hr⟩ : ∃ r : MateD, r = ⟨m.nm, m.up, m.ck, true, p.s, p.ws, m.rs, m.qs, m.gs⟩ := ⟨_, rfl⟩
      have Hr : Hid (r = ⟨m.nm, m.up, m.ck, true, p.s, p.ws, m.rs, m.qs, m.gs⟩) := hr
      have DR : Hid (Deck w3 d #[.string r.nm, .bool r.up, .int .i64 r.ck, .bool r.kn, .int .i64 r.se, .slice (some ⟨b1, 0, none⟩) m.ws.length m.ws.length, .slice (some ⟨b2, 0, none⟩) m.rs.length m.rs.length, .slice (some ⟨b3, 0, none⟩) m.qs.length m.qs.length, .slice (some ⟨b4, 0, none⟩) m.gs.length m.gs.length, .map (some m1'), .map (some m2), .map (some m3), .map (some m4)] m1' m2 m3 m4 r.ws r.rs r.qs r.gs) := by rw [hr]; exact DK3.out
      have FR : Hid r.fits := by rw [hr]; exact fit_told hf HP.out
      have SR : Hid (SrtM r) := by rw [hr]; exact srt_told HS.out HH.out
      clear hr
      go_wp2_with fail
      refine (told_deck r _ _ _ _ _ _ _ _ _ _ _ _ d m1' m2 m3 m4 _ DR.out FR.out SR.out.s1 SR.out.s2 SR.out.s3 SR.out.s4).mono ?_
      rintro e w9 ⟨⟨v1, v2, v3, v4, rfl, rr⟩, c9⟩
      have S9 : Hid (Sp w #[.string m.nm, .bool m.up, .int .i64 m.ck, .bool m.kn, .int .i64 m.se, .slice (some ⟨b1, 0, none⟩) m.ws.length m.ws.length, .slice (some ⟨b2, 0, none⟩) m.rs.length m.rs.length, .slice (some ⟨b3, 0, none⟩) m.qs.length m.qs.length, .slice (some ⟨b4, 0, none⟩) m.gs.length m.gs.length] #[.int .i64 p.k, .string p.b, .int .i64 p.s, .slice (some ⟨b5, 0, none⟩) p.ws.length p.ws.length, .string p.h, .string p.c, .int .i64 p.t] w9) := S3.out.below c9
      clear c9
      obtain ⟨a1, p1, hs1⟩ := W.Sl.shape rr.a1
      obtain ⟨a2, p2, hs2⟩ := Sl.shape rr.a2
      obtain ⟨a3, p3, hs3⟩ := A.Sl.shape rr.a3
      obtain ⟨a4, p4, hs4⟩ := A.Sl.shape rr.a4
      subst hs1 hs2 hs3 hs4
      have R9 : Hid (SlM w9 r (.slice a1 r.ws.length p1) (.slice a2 r.rs.length p2) (.slice a3 r.qs.length p3) (.slice a4 r.gs.length p4) w3.heap.size) := rr
      have z9 : w.heap.size + 2 < w3.heap.size := S3.out.f
      clear rr
      have ho := ones r R9.out.a1 R9.out.a2 R9.out.a3 R9.out.a4
      skip
      go_wp2_with (refine wpList_store_mid (by rfl) 35 _ _ (by rfl) (w.heap.size + 2) 0 #[.string r.nm, .bool r.up, .int .i64 r.ck, .bool r.kn, .int .i64 r.se, .slice a1 r.ws.length p1, .slice a2 r.rs.length p2, .slice a3 r.qs.length p3, .slice a4 r.gs.length p4] (by rfl) (by rfl) (by exact S9.out.d) hinfo (by exact all_oneCell_toArray (ho)) ?_)
      have hrg := World.rangeAt_setCells_same w9 (w.heap.size + 2) 0 [.string r.nm, .bool r.up, .int .i64 r.ck, .bool r.kn, .int .i64 r.se, .slice a1 r.ws.length p1, .slice a2 r.rs.length p2, .slice a3 r.qs.length p3, .slice a4 r.gs.length p4] S9.out.d
      have d0 := hrg 0 _ rfl
      have d1 := hrg 1 _ rfl
      have d2 := hrg 2 _ rfl
      have d3 := hrg 3 _ rfl
      have d4 := hrg 4 _ rfl
      have d5 := hrg 5 _ rfl
      have d6 := hrg 6 _ rfl
      have d7 := hrg 7 _ rfl
      have d8 := hrg 8 _ rfl
      simp only [Nat.zero_add] at d0 d1 d2 d3 d4 d5 d6 d7 d8
      exact bodyPost_ret (v := .agg #[.string r.nm, .bool r.up, .int .i64 r.ck, .bool r.kn, .int .i64 r.se, .slice a1 r.ws.length p1, .slice a2 r.rs.length p2, .slice a3 r.qs.length p3, .slice a4 r.gs.length p4]) (by simp [results, Tryz.results9, go_sem, d0, d1, d2, d3, d4, d5, d6, d7, d8]) rfl ⟨⟨r, _, _, _, _, rfl, Or.inl ⟨hv.out, Hr.out.trans (took_told HT.out k1 HH.out).symm⟩, (R9.out.ex ((Ex.refl _ _).cells _ _) z9).low (by omega)⟩, S9.out.put _⟩
    · have DK3 : Hid _ := dk
      have HH : Hid (¬ HearOk m p) := hh
      clear dk hh
      obtain ⟨r, hr⟩ : ∃ r : MateD, r = m := ⟨_, rfl⟩
      have Hr : Hid (r = m) := hr
      have DR : Hid (Deck w3 d #[.string r.nm, .bool r.up, .int .i64 r.ck, .bool r.kn, .int .i64 r.se, .slice (some ⟨b1, 0, none⟩) m.ws.length m.ws.length, .slice (some ⟨b2, 0, none⟩) m.rs.length m.rs.length, .slice (some ⟨b3, 0, none⟩) m.qs.length m.qs.length, .slice (some ⟨b4, 0, none⟩) m.gs.length m.gs.length, .map (some m1), .map (some m2), .map (some m3), .map (some m4)] m1 m2 m3 m4 r.ws r.rs r.qs r.gs) := by rw [hr]; exact DK3.out
      have FR : Hid r.fits := by rw [hr]; exact hf
      have SR : Hid (SrtM r) := by rw [hr]; exact HS.out
      clear hr
      go_wp2_with fail
      refine (told_deck r _ _ _ _ _ _ _ _ _ _ _ _ d m1 m2 m3 m4 _ DR.out FR.out SR.out.s1 SR.out.s2 SR.out.s3 SR.out.s4).mono ?_
      rintro e w9 ⟨⟨v1, v2, v3, v4, rfl, rr⟩, c9⟩
      have S9 : Hid (Sp w #[.string m.nm, .bool m.up, .int .i64 m.ck, .bool m.kn, .int .i64 m.se, .slice (some ⟨b1, 0, none⟩) m.ws.length m.ws.length, .slice (some ⟨b2, 0, none⟩) m.rs.length m.rs.length, .slice (some ⟨b3, 0, none⟩) m.qs.length m.qs.length, .slice (some ⟨b4, 0, none⟩) m.gs.length m.gs.length] #[.int .i64 p.k, .string p.b, .int .i64 p.s, .slice (some ⟨b5, 0, none⟩) p.ws.length p.ws.length, .string p.h, .string p.c, .int .i64 p.t] w9) := S3.out.below c9
      clear c9
      obtain ⟨a1, p1, hs1⟩ := W.Sl.shape rr.a1
      obtain ⟨a2, p2, hs2⟩ := Sl.shape rr.a2
      obtain ⟨a3, p3, hs3⟩ := A.Sl.shape rr.a3
      obtain ⟨a4, p4, hs4⟩ := A.Sl.shape rr.a4
      subst hs1 hs2 hs3 hs4
      have R9 : Hid (SlM w9 r (.slice a1 r.ws.length p1) (.slice a2 r.rs.length p2) (.slice a3 r.qs.length p3) (.slice a4 r.gs.length p4) w3.heap.size) := rr
      have z9 : w.heap.size + 2 < w3.heap.size := S3.out.f
      clear rr
      have ho := ones r R9.out.a1 R9.out.a2 R9.out.a3 R9.out.a4
      skip
      go_wp2_with (refine wpList_store_mid (by rfl) 35 _ _ (by rfl) (w.heap.size + 2) 0 #[.string r.nm, .bool r.up, .int .i64 r.ck, .bool r.kn, .int .i64 r.se, .slice a1 r.ws.length p1, .slice a2 r.rs.length p2, .slice a3 r.qs.length p3, .slice a4 r.gs.length p4] (by rfl) (by rfl) (by exact S9.out.d) hinfo (by exact all_oneCell_toArray (ho)) ?_)
      have hrg := World.rangeAt_setCells_same w9 (w.heap.size + 2) 0 [.string r.nm, .bool r.up, .int .i64 r.ck, .bool r.kn, .int .i64 r.se, .slice a1 r.ws.length p1, .slice a2 r.rs.length p2, .slice a3 r.qs.length p3, .slice a4 r.gs.length p4] S9.out.d
      have d0 := hrg 0 _ rfl
      have d1 := hrg 1 _ rfl
      have d2 := hrg 2 _ rfl
      have d3 := hrg 3 _ rfl
      have d4 := hrg 4 _ rfl
      have d5 := hrg 5 _ rfl
      have d6 := hrg 6 _ rfl
      have d7 := hrg 7 _ rfl
      have d8 := hrg 8 _ rfl
      simp only [Nat.zero_add] at d0 d1 d2 d3 d4 d5 d6 d7 d8
      exact bodyPost_ret (v := .agg #[.string r.nm, .bool r.up, .int .i64 r.ck, .bool r.kn, .int .i64 r.se, .slice a1 r.ws.length p1, .slice a2 r.rs.length p2, .slice a3 r.qs.length p3, .slice a4 r.gs.length p4]) (by simp [results, Tryz.results9, go_sem, d0, d1, d2, d3, d4, d5, d6, d7, d8]) rfl ⟨⟨r, _, _, _, _, rfl, Or.inl ⟨hv.out, Hr.out.trans (took_deaf HT.out k1 HH.out).symm⟩, (R9.out.ex ((Ex.refl _ _).cells _ _) z9).low (by omega)⟩, S9.out.put _⟩
  by_cases k3 : p.k = 3
  · rw [k3] at kp
    go_wp2_with fail
    have F := prolong_any m p _ _ _ _ _ _ _ _ _ _ _ _ d m1 m2 m3 m4 b5 _ DK.out o1 o2 o3 o4 HP.out HS.out.s2 HS.out.s3 (valid_ask hv.out) n2 a2 HO.out
    rw [k3] at F
    refine F.mono ?_
    clear F
    rintro e w3 ⟨rfl, dk, c3⟩
    have S3 : Hid (Sp w #[.string m.nm, .bool m.up, .int .i64 m.ck, .bool m.kn, .int .i64 m.se, .slice (some ⟨b1, 0, none⟩) m.ws.length m.ws.length, .slice (some ⟨b2, 0, none⟩) m.rs.length m.rs.length, .slice (some ⟨b3, 0, none⟩) m.qs.length m.qs.length, .slice (some ⟨b4, 0, none⟩) m.gs.length m.gs.length] #[.int .i64 p.k, .string p.b, .int .i64 p.s, .slice (some ⟨b5, 0, none⟩) p.ws.length p.ws.length, .string p.h, .string p.c, .int .i64 p.t] w3) := S2.out.ex c3 (by omega)
    have DK3 : Hid _ := dk
    clear dk c3 ka kf kp kq
    obtain ⟨r, hr⟩ : ∃ r : MateD, r = ⟨m.nm, m.up, m.ck, m.kn, m.se, m.ws, prolR m.qs p m.rs, m.qs, m.gs⟩ := ⟨_, rfl⟩
    have Hr : Hid (r = ⟨m.nm, m.up, m.ck, m.kn, m.se, m.ws, prolR m.qs p m.rs, m.qs, m.gs⟩) := hr
    have DR : Hid (Deck w3 d #[.string r.nm, .bool r.up, .int .i64 r.ck, .bool r.kn, .int .i64 r.se, .slice (some ⟨b1, 0, none⟩) m.ws.length m.ws.length, .slice (some ⟨b2, 0, none⟩) m.rs.length m.rs.length, .slice (some ⟨b3, 0, none⟩) m.qs.length m.qs.length, .slice (some ⟨b4, 0, none⟩) m.gs.length m.gs.length, .map (some m1), .map (some m2), .map (some m3), .map (some m4)] m1 m2 m3 m4 r.ws r.rs r.qs r.gs) := by rw [hr]; exact DK3.out
    have FR : Hid r.fits := by rw [hr]; exact fit_given hf
    have SR : Hid (SrtM r) := by rw [hr]; exact srt_given HS.out
    clear hr
    go_wp2_with fail
    refine (told_deck r _ _ _ _ _ _ _ _ _ _ _ _ d m1 m2 m3 m4 _ DR.out FR.out SR.out.s1 SR.out.s2 SR.out.s3 SR.out.s4).mono ?_
    rintro e w9 ⟨⟨v1, v2, v3, v4, rfl, rr⟩, c9⟩
    have S9 : Hid (Sp w #[.string m.nm, .bool m.up, .int .i64 m.ck, .bool m.kn, .int .i64 m.se, .slice (some ⟨b1, 0, none⟩) m.ws.length m.ws.length, .slice (some ⟨b2, 0, none⟩) m.rs.length m.rs.length, .slice (some ⟨b3, 0, none⟩) m.qs.length m.qs.length, .slice (some ⟨b4, 0, none⟩) m.gs.length m.gs.length] #[.int .i64 p.k, .string p.b, .int .i64 p.s, .slice (some ⟨b5, 0, none⟩) p.ws.length p.ws.length, .string p.h, .string p.c, .int .i64 p.t] w9) := S3.out.below c9
    clear c9
    obtain ⟨a1, p1, hs1⟩ := W.Sl.shape rr.a1
    obtain ⟨a2, p2, hs2⟩ := Sl.shape rr.a2
    obtain ⟨a3, p3, hs3⟩ := A.Sl.shape rr.a3
    obtain ⟨a4, p4, hs4⟩ := A.Sl.shape rr.a4
    subst hs1 hs2 hs3 hs4
    have R9 : Hid (SlM w9 r (.slice a1 r.ws.length p1) (.slice a2 r.rs.length p2) (.slice a3 r.qs.length p3) (.slice a4 r.gs.length p4) w3.heap.size) := rr
    have z9 : w.heap.size + 2 < w3.heap.size := S3.out.f
    clear rr
    have ho := ones r R9.out.a1 R9.out.a2 R9.out.a3 R9.out.a4
    skip
    go_wp2_with (refine wpList_store_mid (by rfl) 35 _ _ (by rfl) (w.heap.size + 2) 0 #[.string r.nm, .bool r.up, .int .i64 r.ck, .bool r.kn, .int .i64 r.se, .slice a1 r.ws.length p1, .slice a2 r.rs.length p2, .slice a3 r.qs.length p3, .slice a4 r.gs.length p4] (by rfl) (by rfl) (by exact S9.out.d) hinfo (by exact all_oneCell_toArray (ho)) ?_)
    have hrg := World.rangeAt_setCells_same w9 (w.heap.size + 2) 0 [.string r.nm, .bool r.up, .int .i64 r.ck, .bool r.kn, .int .i64 r.se, .slice a1 r.ws.length p1, .slice a2 r.rs.length p2, .slice a3 r.qs.length p3, .slice a4 r.gs.length p4] S9.out.d
    have d0 := hrg 0 _ rfl
    have d1 := hrg 1 _ rfl
    have d2 := hrg 2 _ rfl
    have d3 := hrg 3 _ rfl
    have d4 := hrg 4 _ rfl
    have d5 := hrg 5 _ rfl
    have d6 := hrg 6 _ rfl
    have d7 := hrg 7 _ rfl
    have d8 := hrg 8 _ rfl
    simp only [Nat.zero_add] at d0 d1 d2 d3 d4 d5 d6 d7 d8
    exact bodyPost_ret (v := .agg #[.string r.nm, .bool r.up, .int .i64 r.ck, .bool r.kn, .int .i64 r.se, .slice a1 r.ws.length p1, .slice a2 r.rs.length p2, .slice a3 r.qs.length p3, .slice a4 r.gs.length p4]) (by simp [results, Tryz.results9, go_sem, d0, d1, d2, d3, d4, d5, d6, d7, d8]) rfl ⟨⟨r, _, _, _, _, rfl, Or.inl ⟨hv.out, Hr.out.trans (took_given HT.out k3).symm⟩, (R9.out.ex ((Ex.refl _ _).cells _ _) z9).low (by omega)⟩, S9.out.put _⟩
  by_cases k5 : p.k = 5
  · rw [k5] at kp
    go_wp2_with fail
    have F := forget_any m p _ _ _ _ _ _ _ _ _ _ _ _ d m1 m2 m3 m4 b5 _ DK.out o1 o2 o3 o4 HP.out HS.out.s4
    rw [k5] at F
    refine F.mono ?_
    clear F
    rintro e w3 ⟨rfl, dk, c3⟩
    have S3 : Hid (Sp w #[.string m.nm, .bool m.up, .int .i64 m.ck, .bool m.kn, .int .i64 m.se, .slice (some ⟨b1, 0, none⟩) m.ws.length m.ws.length, .slice (some ⟨b2, 0, none⟩) m.rs.length m.rs.length, .slice (some ⟨b3, 0, none⟩) m.qs.length m.qs.length, .slice (some ⟨b4, 0, none⟩) m.gs.length m.gs.length] #[.int .i64 p.k, .string p.b, .int .i64 p.s, .slice (some ⟨b5, 0, none⟩) p.ws.length p.ws.length, .string p.h, .string p.c, .int .i64 p.t] w3) := S2.out.ex c3 (by omega)
    have DK3 : Hid _ := dk
    clear dk c3 ka kf kp kq
    obtain ⟨r, hr⟩ : ∃ r : MateD, r = ⟨m.nm, m.up, m.ck, m.kn, m.se, m.ws, m.rs, m.qs, forgR m.gs p.h p.t⟩ := ⟨_, rfl⟩
    have Hr : Hid (r = ⟨m.nm, m.up, m.ck, m.kn, m.se, m.ws, m.rs, m.qs, forgR m.gs p.h p.t⟩) := hr
    have DR : Hid (Deck w3 d #[.string r.nm, .bool r.up, .int .i64 r.ck, .bool r.kn, .int .i64 r.se, .slice (some ⟨b1, 0, none⟩) m.ws.length m.ws.length, .slice (some ⟨b2, 0, none⟩) m.rs.length m.rs.length, .slice (some ⟨b3, 0, none⟩) m.qs.length m.qs.length, .slice (some ⟨b4, 0, none⟩) m.gs.length m.gs.length, .map (some m1), .map (some m2), .map (some m3), .map (some m4)] m1 m2 m3 m4 r.ws r.rs r.qs r.gs) := by rw [hr]; exact DK3.out
    have FR : Hid r.fits := by rw [hr]; exact fit_back hf
    have SR : Hid (SrtM r) := by rw [hr]; exact srt_back HS.out
    clear hr
    go_wp2_with fail
    refine (told_deck r _ _ _ _ _ _ _ _ _ _ _ _ d m1 m2 m3 m4 _ DR.out FR.out SR.out.s1 SR.out.s2 SR.out.s3 SR.out.s4).mono ?_
    rintro e w9 ⟨⟨v1, v2, v3, v4, rfl, rr⟩, c9⟩
    have S9 : Hid (Sp w #[.string m.nm, .bool m.up, .int .i64 m.ck, .bool m.kn, .int .i64 m.se, .slice (some ⟨b1, 0, none⟩) m.ws.length m.ws.length, .slice (some ⟨b2, 0, none⟩) m.rs.length m.rs.length, .slice (some ⟨b3, 0, none⟩) m.qs.length m.qs.length, .slice (some ⟨b4, 0, none⟩) m.gs.length m.gs.length] #[.int .i64 p.k, .string p.b, .int .i64 p.s, .slice (some ⟨b5, 0, none⟩) p.ws.length p.ws.length, .string p.h, .string p.c, .int .i64 p.t] w9) := S3.out.below c9
    clear c9
    obtain ⟨a1, p1, hs1⟩ := W.Sl.shape rr.a1
    obtain ⟨a2, p2, hs2⟩ := Sl.shape rr.a2
    obtain ⟨a3, p3, hs3⟩ := A.Sl.shape rr.a3
    obtain ⟨a4, p4, hs4⟩ := A.Sl.shape rr.a4
    subst hs1 hs2 hs3 hs4
    have R9 : Hid (SlM w9 r (.slice a1 r.ws.length p1) (.slice a2 r.rs.length p2) (.slice a3 r.qs.length p3) (.slice a4 r.gs.length p4) w3.heap.size) := rr
    have z9 : w.heap.size + 2 < w3.heap.size := S3.out.f
    clear rr
    have ho := ones r R9.out.a1 R9.out.a2 R9.out.a3 R9.out.a4
    skip
    go_wp2_with (refine wpList_store_mid (by rfl) 35 _ _ (by rfl) (w.heap.size + 2) 0 #[.string r.nm, .bool r.up, .int .i64 r.ck, .bool r.kn, .int .i64 r.se, .slice a1 r.ws.length p1, .slice a2 r.rs.length p2, .slice a3 r.qs.length p3, .slice a4 r.gs.length p4] (by rfl) (by rfl) (by exact S9.out.d) hinfo (by exact all_oneCell_toArray (ho)) ?_)
    have hrg := World.rangeAt_setCells_same w9 (w.heap.size + 2) 0 [.string r.nm, .bool r.up, .int .i64 r.ck, .bool r.kn, .int .i64 r.se, .slice a1 r.ws.length p1, .slice a2 r.rs.length p2, .slice a3 r.qs.length p3, .slice a4 r.gs.length p4] S9.out.d
    have d0 := hrg 0 _ rfl
    have d1 := hrg 1 _ rfl
    have d2 := hrg 2 _ rfl
    have d3 := hrg 3 _ rfl
    have d4 := hrg 4 _ rfl
    have d5 := hrg 5 _ rfl
    have d6 := hrg 6 _ rfl
    have d7 := hrg 7 _ rfl
    have d8 := hrg 8 _ rfl
    simp only [Nat.zero_add] at d0 d1 d2 d3 d4 d5 d6 d7 d8
    exact bodyPost_ret (v := .agg #[.string r.nm, .bool r.up, .int .i64 r.ck, .bool r.kn, .int .i64 r.se, .slice a1 r.ws.length p1, .slice a2 r.rs.length p2, .slice a3 r.qs.length p3, .slice a4 r.gs.length p4]) (by simp [results, Tryz.results9, go_sem, d0, d1, d2, d3, d4, d5, d6, d7, d8]) rfl ⟨⟨r, _, _, _, _, rfl, Or.inl ⟨hv.out, Hr.out.trans (took_back HT.out k5).symm⟩, (R9.out.ex ((Ex.refl _ _).cells _ _) z9).low (by omega)⟩, S9.out.put _⟩
  obtain ⟨r, hr⟩ : ∃ r : MateD, r = m := ⟨_, rfl⟩
  have Hr : Hid (r = m) := hr
  have DR : Hid (Deck w2 d #[.string r.nm, .bool r.up, .int .i64 r.ck, .bool r.kn, .int .i64 r.se, .slice (some ⟨b1, 0, none⟩) m.ws.length m.ws.length, .slice (some ⟨b2, 0, none⟩) m.rs.length m.rs.length, .slice (some ⟨b3, 0, none⟩) m.qs.length m.qs.length, .slice (some ⟨b4, 0, none⟩) m.gs.length m.gs.length, .map (some m1), .map (some m2), .map (some m3), .map (some m4)] m1 m2 m3 m4 r.ws r.rs r.qs r.gs) := by rw [hr]; exact DK.out
  have FR : Hid r.fits := by rw [hr]; exact hf
  have SR : Hid (SrtM r) := by rw [hr]; exact HS.out
  clear hr
  go_wp2_with fail
  refine (told_deck r _ _ _ _ _ _ _ _ _ _ _ _ d m1 m2 m3 m4 _ DR.out FR.out SR.out.s1 SR.out.s2 SR.out.s3 SR.out.s4).mono ?_
  rintro e w9 ⟨⟨v1, v2, v3, v4, rfl, rr⟩, c9⟩
  have S9 : Hid (Sp w #[.string m.nm, .bool m.up, .int .i64 m.ck, .bool m.kn, .int .i64 m.se, .slice (some ⟨b1, 0, none⟩) m.ws.length m.ws.length, .slice (some ⟨b2, 0, none⟩) m.rs.length m.rs.length, .slice (some ⟨b3, 0, none⟩) m.qs.length m.qs.length, .slice (some ⟨b4, 0, none⟩) m.gs.length m.gs.length] #[.int .i64 p.k, .string p.b, .int .i64 p.s, .slice (some ⟨b5, 0, none⟩) p.ws.length p.ws.length, .string p.h, .string p.c, .int .i64 p.t] w9) := S2.out.below c9
  clear c9
  obtain ⟨a1, p1, hs1⟩ := W.Sl.shape rr.a1
  obtain ⟨a2, p2, hs2⟩ := Sl.shape rr.a2
  obtain ⟨a3, p3, hs3⟩ := A.Sl.shape rr.a3
  obtain ⟨a4, p4, hs4⟩ := A.Sl.shape rr.a4
  subst hs1 hs2 hs3 hs4
  have R9 : Hid (SlM w9 r (.slice a1 r.ws.length p1) (.slice a2 r.rs.length p2) (.slice a3 r.qs.length p3) (.slice a4 r.gs.length p4) w2.heap.size) := rr
  have z9 : w.heap.size + 2 < w2.heap.size := S2.out.f
  clear rr
  have ho := ones r R9.out.a1 R9.out.a2 R9.out.a3 R9.out.a4
  skip
  go_wp2_with (refine wpList_store_mid (by rfl) 35 _ _ (by rfl) (w.heap.size + 2) 0 #[.string r.nm, .bool r.up, .int .i64 r.ck, .bool r.kn, .int .i64 r.se, .slice a1 r.ws.length p1, .slice a2 r.rs.length p2, .slice a3 r.qs.length p3, .slice a4 r.gs.length p4] (by rfl) (by rfl) (by exact S9.out.d) hinfo (by exact all_oneCell_toArray (ho)) ?_)
  have hrg := World.rangeAt_setCells_same w9 (w.heap.size + 2) 0 [.string r.nm, .bool r.up, .int .i64 r.ck, .bool r.kn, .int .i64 r.se, .slice a1 r.ws.length p1, .slice a2 r.rs.length p2, .slice a3 r.qs.length p3, .slice a4 r.gs.length p4] S9.out.d
  have d0 := hrg 0 _ rfl
  have d1 := hrg 1 _ rfl
  have d2 := hrg 2 _ rfl
  have d3 := hrg 3 _ rfl
  have d4 := hrg 4 _ rfl
  have d5 := hrg 5 _ rfl
  have d6 := hrg 6 _ rfl
  have d7 := hrg 7 _ rfl
  have d8 := hrg 8 _ rfl
  simp only [Nat.zero_add] at d0 d1 d2 d3 d4 d5 d6 d7 d8
  exact bodyPost_ret (v := .agg #[.string r.nm, .bool r.up, .int .i64 r.ck, .bool r.kn, .int .i64 r.se, .slice a1 r.ws.length p1, .slice a2 r.rs.length p2, .slice a3 r.qs.length p3, .slice a4 r.gs.length p4]) (by simp [results, Tryz.results9, go_sem, d0, d1, d2, d3, d4, d5, d6, d7, d8]) rfl ⟨⟨r, _, _, _, _, rfl, Or.inl ⟨hv.out, Hr.out.trans (took_other k1 k3 k5).symm⟩, (R9.out.ex ((Ex.refl _ _).cells _ _) z9).low (by omega)⟩, S9.out.put _⟩
end Go.Proofs.YtiogkdafmgdbgaaGreat
/- Runs whose lease is prolonged, one by one. -/
namespace Go.Proofs.YtiogkdafmgdbgaaGreat
open Go.RowKit Go.Maps Go.WideMaps
set_option linter.unusedVariables false

def bumpK (h c : ByteArray) (t : Int) (k : Nat) (rs : List RunD) : List RunD := (rs.take k).map (bump h c t) ++ rs.drop k
theorem bumpK_zero (h c : ByteArray) (t : Int) (rs : List RunD) : bumpK h c t 0 rs = rs := by simp [bumpK]
theorem bumpK_all (h c : ByteArray) (t : Int) (rs : List RunD) : bumpK h c t rs.length rs = rs.map (bump h c t) := by simp [bumpK]
theorem bumpK_len (h c : ByteArray) (t : Int) (k : Nat) (rs : List RunD) : (bumpK h c t k rs).length = rs.length := by simp [bumpK]; omega
theorem bumpK_at {h c : ByteArray} {t : Int} {k : Nat} {rs : List RunD} {r : RunD} (hr : rs[k]? = some r) : (bumpK h c t k rs)[k]? = some r := by
  have hlt : k < rs.length := (List.getElem?_eq_some_iff.1 hr).1
  unfold bumpK
  rw [List.getElem?_append_right (by simp; omega)]
  simp only [List.length_map, List.length_take, List.getElem?_drop]
  rw [Nat.min_eq_left (by omega), Nat.sub_self, Nat.add_zero]
  exact hr
theorem bumpK_step {h c : ByteArray} {t : Int} {k : Nat} {rs : List RunD} {r : RunD} (hr : rs[k]? = some r) : bumpK h c t (k + 1) rs = (bumpK h c t k rs).set k (bump h c t r) := by
  have hlt : k < rs.length := (List.getElem?_eq_some_iff.1 hr).1
  have he : rs[k] = r := by rw [List.getElem?_eq_getElem hlt] at hr; exact Option.some.inj hr
  unfold bumpK
  rw [List.set_append_right _ _ (by simp; omega)]
  simp only [List.length_map, List.length_take]
  rw [Nat.min_eq_left (by omega), Nat.sub_self, List.take_succ_eq_append_getElem hlt, he, List.drop_eq_getElem_cons hlt]
  simp only [List.map_append, List.map_cons, List.map_nil, List.append_assoc, List.singleton_append, List.set_cons_zero]
theorem bumpK_same {h c : ByteArray} {t : Int} {k : Nat} {rs : List RunD} {r : RunD} (hr : rs[k]? = some r) (hb : bump h c t r = r) : bumpK h c t (k + 1) rs = bumpK h c t k rs := by
  rw [bumpK_step hr, hb]
  have h1 := bumpK_at (h := h) (c := c) (t := t) hr
  apply List.ext_getElem?
  intro j
  rw [List.getElem?_set]
  split
  · rename_i e
    subst e
    rw [h1]
    have hlt : k < rs.length := (List.getElem?_eq_some_iff.1 hr).1
    rw [if_pos (by rw [bumpK_len]; exact hlt)]
  · rfl
theorem bump_yes {h c : ByteArray} {t : Int} {r : RunD} (h1 : r.h.toList = h.toList) (h2 : r.c.toList = c.toList) (h3 : r.u < t + 16) : bump h c t r = { r with u := t + 16 } := if_pos ⟨h1, h2, h3⟩
/-- A row of runs that are the call's own, and one of them. -/
theorem sl_row {w : World} {a : Option Addr} {n p B k : Nat} {l : List RunD} {r : RunD} (h : Sl w (.slice a n p) l B) (hr : l[k]? = some r) :
    ∃ g, a = some ⟨g, 0, none⟩ ∧ g < w.heap.size ∧ (w.cell? ⟨g, k * 11, none⟩ = some (.string r.c) ∧ w.cell? ⟨g, k * 11 + 1, none⟩ = some (.int .i64 r.v) ∧ w.cell? ⟨g, k * 11 + 2, none⟩ = some (.string r.h) ∧ w.cell? ⟨g, k * 11 + 3, none⟩ = some (.int .i64 r.p) ∧ w.cell? ⟨g, k * 11 + 4, none⟩ = some (.int .i64 r.s) ∧ w.cell? ⟨g, k * 11 + 5, none⟩ = some (.int .i64 r.d) ∧ w.cell? ⟨g, k * 11 + 6, none⟩ = some (.int .i64 r.g) ∧ w.cell? ⟨g, k * 11 + 7, none⟩ = some (.int .i64 r.a) ∧ w.cell? ⟨g, k * 11 + 8, none⟩ = some (.int .i64 r.b) ∧ w.cell? ⟨g, k * 11 + 9, none⟩ = some (.int .i64 r.i) ∧ w.cell? ⟨g, k * 11 + 10, none⟩ = some (.int .i64 r.u)) ∧ ∀ j, j < 11 → w.frozen? ⟨g, k * 11 + j, none⟩ = false := by
  have hlt : k < l.length := (List.getElem?_eq_some_iff.1 hr).1
  rcases h with ⟨h1, h2⟩ | ⟨g, cap, h1, h2, h3, h4, h5⟩
  · rw [h2] at hlt; simp at hlt
  · injection h1 with e1 e2 e3
    have := h4.at hr
    simp only [Nat.zero_add] at this
    refine ⟨g, e1, h3, this, fun j hj => ?_⟩
    have := (h5 (k * 11 + j) (by omega)).2
    rwa [Nat.zero_add] at this
/-- One run's Until is set, in place. -/
theorem sl_set10 {w : World} {g n p B k : Nat} {l : List RunD} {r : RunD} {u : Int} (h : Sl w (.slice (some ⟨g, 0, none⟩) n p) l B) (hr : l[k]? = some r) :
    Sl (w.setCell ⟨g, k * 11 + 10, none⟩ (.int .i64 u)) (.slice (some ⟨g, 0, none⟩) n p) (l.set k { r with u := u }) B := by
  have hlt : k < l.length := (List.getElem?_eq_some_iff.1 hr).1
  rcases h with ⟨h1, h2⟩ | ⟨g', cap, h1, h2, h3, h4, h5⟩
  · rw [h2] at hlt; simp at hlt
  · injection h1 with e1 e2 e3
    injection e1 with e1
    injection e1 with e1
    subst e1 e2 e3
    have he : Ex g w (w.setCell ⟨g, k * 11 + 10, none⟩ (.int .i64 u)) := (Ex.refl _ _).set _ _
    refine Or.inr ⟨g, _, by rw [List.length_set], h2, Nat.lt_of_lt_of_le h3 he.size, ?_, by rw [List.length_set]; exact World.there_setCells h5 g (k * 11 + 10) [.int .i64 u]⟩
    intro j q hj i v hi
    have hi11 : i < 11 := by
      rcases Nat.lt_or_ge i 11 with h' | h'
      · exact h'
      · rw [List.getElem?_eq_none (by simpa [RunD.cells] using h')] at hi; cases hi
    rw [Nat.zero_add]
    by_cases e : k = j
    · subst e
      rw [List.getElem?_set_self hlt] at hj
      injection hj with hj
      subst hj
      by_cases e2 : i = 10
      · subst e2
        have h0 := h4 k r hr 10 _ rfl
        rw [Nat.zero_add] at h0
        injection hi with hi
        subst hi
        exact World.cell?_setCell_same _ _ _ h0
      · rw [World.cell?_setCell_other _ _ _ _ (fun h' => e2 (by have := congrArg Addr.off h'; simp only at this; omega))]
        have h0 := h4 k r hr i v (by
          rw [← hi]
          rcases i with _ | _ | _ | _ | _ | _ | _ | _ | _ | _ | i
          all_goals first | rfl | omega)
        rwa [Nat.zero_add] at h0
    · rw [List.getElem?_set_ne e] at hj
      rw [World.cell?_setCell_other _ _ _ _ (fun h' => e (by have := congrArg Addr.off h'; simp only at this; omega))]
      have h0 := h4 j q hj i v hi
      rwa [Nat.zero_add] at h0
end Go.Proofs.YtiogkdafmgdbgaaGreat
/- l4Drop: the asks but those of one hold. -/
namespace Go.Proofs.YtiogkdafmgdbgaaGreat.A
open Go.RowKit
set_option linter.unusedVariables false

def dropA (x : ByteArray) (rs : List AskD) : List AskD := rs.filter (fun r => !(r.h.toList == x.toList))
theorem dropA_out (x : ByteArray) (rs : List AskD) : dropA x rs = Ord.out keyV x.data.toList rs := by
  unfold dropA Ord.out
  refine congrArg (fun f => List.filter f rs) (funext fun r => ?_)
  show _ = !(r.h.data.toList == x.data.toList)
  rw [ByteArray.toList_eq, ByteArray.toList_eq]
theorem dropA_step {x : ByteArray} {rs : List AskD} {k : Nat} {r : AskD} (hr : rs[k]? = some r) : dropA x (rs.take (k + 1)) = dropA x (rs.take k) ++ dropA x [r] := by
  have hlt : k < rs.length := (List.getElem?_eq_some_iff.1 hr).1
  have he : rs[k] = r := by rw [List.getElem?_eq_getElem hlt] at hr; exact Option.some.inj hr
  rw [List.take_succ_eq_append_getElem hlt, he]
  unfold dropA
  rw [List.filter_append]
theorem dropA_no {x : ByteArray} {rs : List AskD} {k : Nat} {r : AskD} (hr : rs[k]? = some r) (h : (r.h.toList == x.toList) = true) : dropA x (rs.take (k + 1)) = dropA x (rs.take k) := by
  rw [dropA_step hr, show dropA x [r] = [] by simp [dropA] at h ⊢; exact h, List.append_nil]
theorem dropA_yes {x : ByteArray} {rs : List AskD} {k : Nat} {r : AskD} (hr : rs[k]? = some r) (h : (r.h.toList == x.toList) = false) : dropA x (rs.take (k + 1)) = dropA x (rs.take k) ++ [r] := by
  rw [dropA_step hr, show dropA x [r] = [r] by simp [dropA] at h ⊢; exact h]

set_option maxHeartbeats 1000000 in
theorem specDrop (b off cap : Nat) (rs : List AskD) (x : ByteArray) (w : World) (hR : RowsAt w b off rs) (hb : b < w.heap.size) (hl : rs.length ≤ 1048576) :
    Calls Tryz.prog 23 #[.slice (some ⟨b, off, none⟩) rs.length cap, .string x] w fun e w' => (∃ v, e = .returned v ∧ Sl w' v (dropA x rs) w.heap.size) ∧ Below w.heap.size w w' := by
  obtain ⟨i0, hi, hz0, hz1, hz2⟩ := info_parts infoR
  have hbn := build0a
  go_enter Tryz.func23, Tryz.ntmps23
  go_wp2
  clear hbn
  go_loopw [5, 6] (fun v i wx => ∃ (k : Nat), k ≤ rs.length ∧ i = .int .i64 k ∧ wx.ownsRow w.heap.size 55 4 v (dropA x (rs.take k)).length (flatR (dropA x (rs.take k))) ∧ Below w.heap.size w wx) (fun _ i _ => rs.length - (intOf i).toNat)
  case atStart => exact ⟨0, Nat.zero_le _, rfl, World.ownsRow_made w #[] 0 (Nat.le_refl _) (Nat.zero_le _) rfl, bl_alloc (Below.refl _ _) _⟩
  case round =>
    obtain ⟨k, hk, rfl, hown, hB⟩ := hrel
    by_cases hlt : k < rs.length
    · obtain ⟨r, hr⟩ : ∃ r, rs[k]? = some r := ⟨rs[k], List.getElem?_eq_getElem hlt⟩
      have Hr : Hid (rs[k]? = some r) := hr
      have Ho : Hid (wr.ownsRow w.heap.size 55 4 u5 (dropA x (rs.take k)).length (flatR (dropA x (rs.take k)))) := hown
      have hdl : (dropA x (rs.take k)).length ≤ k := Nat.le_trans (List.length_filter_le _ _) (by simp; omega)
      obtain ⟨c0, c1, c2, c3⟩ := (hR.keep hb hB).at hr
      clear hr hown
      cases he : (r.h.toList == x.toList)
      · go_wp2_with (first | (at_builtin; (refine wpList_append_own _ rfl _ _ 33 rfl w.heap.size 55 i0 _ 4 48 Tryz.underlying33 hi hz0 hz1 hz2 rfl (by decide) _ (dropA x (rs.take k)).length _ rfl (by exact owns_below Ho.out (by repeat (first | exact Below.refl _ _ | refine bl_alloc ?_ _))) ⟨_, 0, none⟩ 1 1 r.cells rfl rfl (new_cells _ _ (by simp) _ _ _ rfl) (cellsR_one _) (by unfold maxLen; omega) (by omega) (by have := hB.size; simp; omega) ?_); intro v' w1 ho1 hg1 hn1))
        exact ⟨⟨k + 1, by omega, by go_num, by rw [dropA_yes Hr.out he, List.length_append, flatR_snoc]; exact ho1, Below.grown (by repeat (first | exact hB | refine bl_alloc ?_ _)) hg1 (by have := hB.size; simp; omega) (owns_ge Ho.out)⟩, by simp [intOf]; omega⟩
      · go_wp2_with fail
        exact ⟨⟨k + 1, by omega, by go_num, by rw [dropA_no Hr.out he]; exact Ho.out, hB⟩, by simp [intOf]; omega⟩
    · go_wp2
      go_ret
      have hk' : k = rs.length := by omega
      subst hk'
      rw [List.take_of_length_le (Nat.le_refl _)] at hown
      exact ⟨⟨_, rfl, Sl.of_owns hown⟩, hB⟩
end Go.Proofs.YtiogkdafmgdbgaaGreat.A
