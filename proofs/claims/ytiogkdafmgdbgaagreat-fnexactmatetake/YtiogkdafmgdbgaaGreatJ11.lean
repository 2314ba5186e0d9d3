import Derived.Test.YtiogkdafmgdbgaaGreatJ08
import Derived.Laws.EntriesVeiled
import Derived.Test.YtiogkdafmgdbgaaGreatJ01
import Derived.Test.YtiogkdafmgdbgaaGreatJ06
import Derived.Test.YtiogkdafmgdbgaaGreatJ10
import Derived.Deep.QuietTactic
import Derived.BigQuiet
import Derived.Test.YtiogkdafmgdbgaaGreatJ05
/- MateWantsOk: the program's side. -/
namespace Go.Proofs.YtiogkdafmgdbgaaGreat.W
open Go.RowKit
set_option linter.unusedVariables false

theorem boxlt {w w1 : World} {o : Obj} (h : Below (w.alloc o).heap.size (w.alloc o) w1) : w.heap.size < w1.heap.size := by have := h.size; simp at this; omega
theorem implWant_q (c h : ByteArray) (v p s d g : Int) (w : World) (hc : c.size ≤ maxLen) (hh : h.size ≤ maxLen) (q : Bool) (hq : wantB c h v p s d g = q) :
    Calls Tryz.prog 109 #[.agg #[.string c, .int .i64 v, .string h, .int .i64 p, .int .i64 s, .int .i64 d, .int .i64 g]] w fun e w' => e = .returned (.bool q) ∧ Below w.heap.size w w' := by
  rw [← hq]; exact implWant_any c h v p s d g w hc hh

theorem fewWants_any (a : Option Addr) (n cap : Nat) (w : World) :
    Calls Tryz.prog 91 #[.slice a n cap] w fun e w' => e = .returned (.bool (decide (n ≤ 10))) ∧ w' = w := by
  by_cases h : n ≤ 10
  · go_enter Tryz.func91, Tryz.ntmps91
    go_wp2
    go_ret
    exact ⟨ret_b (by simp; omega), rfl⟩
  · go_enter Tryz.func91, Tryz.ntmps91
    go_wp2
    go_ret
    exact ⟨ret_b (by simp; omega), rfl⟩

theorem each_iff (ws : List WantD) : Each ws ws.length ↔ ∀ r ∈ ws, r.ok = true := by
  constructor
  · intro h r hr
    obtain ⟨j, hj⟩ := List.getElem?_of_mem hr
    exact h j r (List.getElem?_eq_some_iff.1 hj).1 hj
  · intro h j r _ hr
    exact h r (List.mem_of_getElem? hr)

theorem eachWant (b off cap : Nat) (ws : List WantD) (w : World) (hR : RowsAt w b off ws) (l1 : b < w.heap.size) (hfit : ∀ r ∈ ws, r.fits) (hl : ws.length ≤ 10) :
    Calls Tryz.prog 92 #[.slice (some ⟨b, off, none⟩) ws.length cap] w fun e w' => (∃ q : Bool, e = .returned (.bool q) ∧ (q = true ↔ Each ws ws.length)) ∧ Below w.heap.size w w' := by
  go_enter Tryz.func92, Tryz.ntmps92
  go_wp2_with fail
  refine (allOk (fun r => r.ok) b off cap ws w hR l1 (by omega) (fun r hr x _ => implWant_any r.c r.h r.v r.p r.s r.d r.g x (hfit r hr).1 (hfit r hr).2)).mono ?_
  rintro e w1 ⟨⟨q, rfl, h⟩, hb⟩
  have H : Hid _ := h
  clear h
  go_wp2
  go_ret
  exact ⟨⟨q, rfl, by rw [each_iff]; exact H.out⟩, hb⟩

theorem ascendWants (b off cap : Nat) (ws : List WantD) (w : World) (hR : RowsAt w b off ws) (l1 : b < w.heap.size) (hl : ws.length ≤ 10) :
    Calls Tryz.prog 93 #[.slice (some ⟨b, off, none⟩) ws.length cap] w fun e w' => (∃ q : Bool, e = .returned (.bool q) ∧ (q = true ↔ Asc ws ws.length)) ∧ Below w.heap.size w w' := by
  go_enter Tryz.func93, Tryz.ntmps93
  go_wp2_with fail
  refine (ascends b off cap ws w hR l1 (by omega)).mono ?_
  rintro e w1 ⟨⟨q, rfl, h⟩, hb⟩
  have H : Hid _ := h
  clear h
  go_wp2
  go_ret
  exact ⟨⟨q, rfl, H.out⟩, hb⟩

set_option maxHeartbeats 1000000 in
theorem holdsDiffer (b off : Nat) (ws : List WantD) (w : World) (hR : RowsAt w b off ws) (l1 : b < w.heap.size) (hl : ws.length ≤ 10) :
    Calls Tryz.prog 94 #[.slice (some ⟨b, off, none⟩) ws.length ws.length] w fun e w' => (∃ q : Bool, e = .returned (.bool q) ∧ (q = true ↔ Diff ws ws.length)) ∧ Below w.heap.size w w' := by
  go_enter Tryz.func94, Tryz.ntmps94
  go_wp2
  go_loopw [9] (fun i wx => ∃ (k : Nat), k ≤ ws.length ∧ i = .int .i64 k ∧ Hid (Diff ws k) ∧ Below w.heap.size w wx) (fun i _ => ws.length - (intOf i).toNat)
  case atStart => exact ⟨0, Nat.zero_le _, rfl, fun j r h => by omega, Below.refl _ _⟩
  case round =>
    obtain ⟨k, hk, rfl, Ha, hB⟩ := hrel
    by_cases hlt : k < ws.length
    · obtain ⟨r, hr⟩ : ∃ r, ws[k]? = some r := ⟨ws[k], List.getElem?_eq_getElem hlt⟩
      have Hr : Hid _ := hr
      clear hr
      have i0 : (0 : Int) ≤ (k : Int) := by omega
      have i1 : (k : Int) ≤ (ws.length : Int) := by omega
      obtain ⟨c0, c1, c2, c3, c4, c5, c6⟩ := (hR.keep l1 hB).at Hr.out
      obtain ⟨wo, rfl⟩ : ∃ wo : World, wo = wr := ⟨_, rfl⟩
      go_wp2_with fail
      clear c0 c1 c2 c3 c4 c5 c6
      go_loopw [18] (fun j wx => ∃ (n : Nat), n ≤ k ∧ j = .int .i64 n ∧ Hid (NoneOf ws r n) ∧ Below (wo.alloc (.cells #[.string r.c, .int .i64 r.v, .string r.h, .int .i64 r.p, .int .i64 r.s, .int .i64 r.d, .int .i64 r.g] 57)).heap.size (wo.alloc (.cells #[.string r.c, .int .i64 r.v, .string r.h, .int .i64 r.p, .int .i64 r.s, .int .i64 r.d, .int .i64 r.g] 57)) wx) (fun j _ => k - (intOf j).toNat)
      case atStart => exact ⟨0, Nat.zero_le _, rfl, fun i q h => by omega, Below.refl _ _⟩
      case round =>
        obtain ⟨n, hn, rfl, Hn, hBn⟩ := hrel
        have bo : Below w.heap.size w wr := bl_trans (bl_trans hB (bl_alloc (Below.refl _ _) _)) hBn
        by_cases hnl : n < k
        · obtain ⟨t, ht⟩ : ∃ t, ws[n]? = some t := ⟨ws[n], List.getElem?_eq_getElem (by omega)⟩
          have Ht : Hid _ := ht
          clear ht
          have j0 : (0 : Int) ≤ (n : Int) := by omega
          have j1 : (n : Int) < (k : Int) := by omega
          obtain ⟨c0, c1, c2, c3, c4, c5, c6⟩ := (hR.keep l1 bo).at Ht.out
          have hkb := box_keep hBn
          have hzb := boxlt hBn
          cases he : r.h.toList.isEmpty
          · cases hcl : (t.h.toList == r.h.toList)
            · go_wp2
              exact ⟨⟨n + 1, by omega, by go_num, NoneOf.step Hn.out Ht.out (by simp [clash, he, hcl]), bl_trans hBn (bl_alloc (Below.refl _ _) _)⟩, by simp [intOf]; omega⟩
            · go_wp2
              go_ret
              exact ⟨⟨false, rfl, ⟨fun h => (by cases h), fun h => by have := h k r hlt Hr.out n t hnl Ht.out; simp [clash, he, hcl] at this⟩⟩, bl_alloc bo _⟩
          · go_wp2
            exact ⟨⟨n + 1, by omega, by go_num, NoneOf.step Hn.out Ht.out (by simp [clash, he]), bl_trans hBn (bl_alloc (Below.refl _ _) _)⟩, by simp [intOf]; omega⟩
        · have hne : n = k := by omega
          subst hne
          go_wp2
          exact ⟨⟨n + 1, by omega, by go_num, Ha.out.step Hr.out Hn.out, bo⟩, by simp [intOf]; omega⟩
    · go_wp2
      go_ret
      exact ⟨⟨true, rfl, ⟨fun _ j r hj hr => Ha.out j r (by omega) hr, fun _ => rfl⟩⟩, hB⟩

theorem build_all (w : World) : Sem.run Tryz.prog (Instr.buildSlice 119 4 #[(0, .func (.func 91) #[] #[]), (1, .func (.func 92) #[] #[]), (2, .func (.func 93) #[] #[]), (3, .func (.func 94) #[] #[])]) w = .ok (.slice (some ⟨w.heap.size, 0, none⟩) 4 4) (w.alloc (.cells #[.func (.func 91) #[] #[], .func (.func 92) #[] #[], .func (.func 93) #[] #[], .func (.func 94) #[] #[]] 51)) := by kernel_rfl

set_option maxHeartbeats 1000000 in
theorem implWantsOk (b off : Nat) (ws : List WantD) (w : World) (hR : RowsAt w b off ws) (l1 : b < w.heap.size) (hfit : ∀ r ∈ ws, r.fits) (hl : ws.length ≤ 1048576) :
    Calls Tryz.prog 71 #[.slice (some ⟨b, off, none⟩) ws.length ws.length] w fun e w' => (∃ q : Bool, e = .returned (.bool q) ∧ Says q ws) ∧ Below w.heap.size w w' := by
  have hba := build_all
  by_cases h10 : ws.length ≤ 10
  · go_enter Tryz.func71, Tryz.ntmps71
    go_wp2_with go_in
    clear hba
    refine wp_loop_rounds 5 ?_
    rw [rounds_succ]
    go_wp2_with fail
    refine (fewWants_any _ _ _ _).mono ?_
    rintro e w1 ⟨rfl, rfl⟩
    have d10 : decide (ws.length ≤ 10) = true := by simpa using h10
    go_wp2_with fail
    rw [rounds_succ]
    go_wp2_with fail
    have R0 := hR.keep l1 (bl_alloc (Below.refl _ _) (.cells #[.func (.func 91) #[] #[], .func (.func 92) #[] #[], .func (.func 93) #[] #[], .func (.func 94) #[] #[]] 51))
    have z0 : b < (w.alloc (.cells #[.func (.func 91) #[] #[], .func (.func 92) #[] #[], .func (.func 93) #[] #[], .func (.func 94) #[] #[]] 51)).heap.size := by simp; omega
    refine (eachWant b off _ ws _ R0 z0 hfit h10).mono ?_
    rintro e w2 ⟨⟨q2, rfl, h2⟩, b2⟩
    have k2 := box_keep b2
    cases q2
    · go_wp2
      go_ret
      exact ⟨⟨false, rfl, says_no (fun _ h => by have := h2.2 h.1; cases this)⟩, bl_trans (bl_alloc (Below.refl _ _) _) b2⟩
    have e2 : Hid _ := h2.1 rfl
    clear h2
    go_wp2_with fail
    rw [rounds_succ]
    go_wp2_with fail
    have R2 := R0.keep z0 b2
    have z2 : b < w2.heap.size := Nat.lt_of_lt_of_le z0 b2.size
    refine (ascendWants b off _ ws _ R2 z2 h10).mono ?_
    rintro e w3 ⟨⟨q3, rfl, h3⟩, b3⟩
    have b3' := bl_trans b2 b3
    clear k2
    have k3 := box_keep b3'
    cases q3
    · go_wp2
      go_ret
      exact ⟨⟨false, rfl, says_no (fun _ h => by have := h3.2 h.2.1; cases this)⟩, bl_trans (bl_alloc (Below.refl _ _) _) b3'⟩
    have e3 : Hid _ := h3.1 rfl
    clear h3
    go_wp2_with fail
    rw [rounds_succ]
    go_wp2_with fail
    have R3 := R2.keep z2 b3
    have z3 : b < w3.heap.size := Nat.lt_of_lt_of_le z2 b3.size
    refine (holdsDiffer b off ws _ R3 z3 h10).mono ?_
    rintro e w4 ⟨⟨q4, rfl, h4⟩, b4⟩
    have b4' := bl_trans b3' b4
    clear k3
    cases q4
    · go_wp2
      go_ret
      exact ⟨⟨false, rfl, says_no (fun _ h => by have := h4.2 h.2.2; cases this)⟩, bl_trans (bl_alloc (Below.refl _ _) _) b4'⟩
    have e4 : Hid _ := h4.1 rfl
    clear h4
    go_wp2_with fail
    rw [rounds_succ]
    go_wp2
    go_ret
    exact ⟨⟨true, rfl, says_yes ⟨e2.out, e3.out, e4.out⟩ (Nat.le_refl _) h10⟩, bl_trans (bl_alloc (Below.refl _ _) _) b4'⟩
  · go_enter Tryz.func71, Tryz.ntmps71
    go_wp2_with go_in
    clear hba
    refine wp_loop_rounds 1 ?_
    rw [rounds_succ]
    go_wp2_with fail
    refine (fewWants_any _ _ _ _).mono ?_
    rintro e w1 ⟨rfl, rfl⟩
    have d10 : decide (ws.length ≤ 10) = false := by simpa using h10
    go_wp2
    go_ret
    exact ⟨⟨false, rfl, says_no (fun h _ => h10 h)⟩, bl_alloc (Below.refl _ _) _⟩
end Go.Proofs.YtiogkdafmgdbgaaGreat.W
/- Rows that lie elsewhere stay. -/
namespace Go.Proofs.YtiogkdafmgdbgaaGreat.W
theorem RowsAt.exq {kr : Nat} {w w' : World} {b off : Nat} {rs : List WantD} (h : RowsAt w b off rs) (hb : b < w.heap.size) (hE : Ex kr w w') (hne : b ≠ kr) : RowsAt w' b off rs :=
  fun k r hk j v hj => (hE.cell (p := ⟨b, off + k * 7 + j, none⟩) hb hne).trans (h k r hk j v hj)
end Go.Proofs.YtiogkdafmgdbgaaGreat.W
namespace Go.Proofs.YtiogkdafmgdbgaaGreat.A
theorem RowsAt.exq {kr : Nat} {w w' : World} {b off : Nat} {rs : List AskD} (h : RowsAt w b off rs) (hb : b < w.heap.size) (hE : Ex kr w w') (hne : b ≠ kr) : RowsAt w' b off rs :=
  fun k r hk j v hj => (hE.cell (p := ⟨b, off + k * 4 + j, none⟩) hb hne).trans (h k r hk j v hj)
end Go.Proofs.YtiogkdafmgdbgaaGreat.A
namespace Go.Proofs.YtiogkdafmgdbgaaGreat
open Go.RowKit
set_option linter.unusedVariables false

theorem RowsAt.exq {kr : Nat} {w w' : World} {b off : Nat} {rs : List RunD} (h : RowsAt w b off rs) (hb : b < w.heap.size) (hE : Ex kr w w') (hne : b ≠ kr) : RowsAt w' b off rs :=
  fun k r hk j v hj => (hE.cell (p := ⟨b, off + k * 11 + j, none⟩) hb hne).trans (h k r hk j v hj)
end Go.Proofs.YtiogkdafmgdbgaaGreat
/- A mate on deck hears what is wanted. -/
namespace Go.Proofs.YtiogkdafmgdbgaaGreat
open Go.RowKit Go.Maps Go.WideMaps
set_option linter.unusedVariables false

structure ParcelD where
  k : Int
  b : ByteArray
  s : Int
  ws : List W.WantD
  h : ByteArray
  c : ByteArray
  t : Int
structure ParcelD.fits (p : ParcelD) : Prop where
  b : p.b.size ≤ maxLen
  h : p.h.size ≤ maxLen
  c : p.c.size ≤ maxLen
  w : ∀ r ∈ p.ws, r.fits
  l : p.ws.length ≤ 1048576
theorem mapv_ex {α : Type} {R : Value → Option (DataW α × List MemPlace)} {x y : World} {b n k : Nat} {D : DataW α} (h : x.ownsMap Tryz.prog 9 R b n D) (he : Ex k x y) (hne : b ≠ k) : y.ownsMap Tryz.prog 9 R b n D :=
  h.kept (row := some k) (ex_grown he) (by simpa using hne)
theorem Deck.set {x : World} {d : Nat} {O : Array Value} {m1 m2 m3 m4 : Nat} {ws : List W.WantD} {rs : List RunD} {qs gs : List A.AskD} (h : Deck x d O m1 m2 m3 m4 ws rs qs gs) (j : Nat) (hj : j < O.size) (u : Value) (e1 : m1 ≠ d) (e2 : m2 ≠ d) (e3 : m3 ≠ d) (e4 : m4 ≠ d) : Deck (x.setCell ⟨d, j, none⟩ u) d (O.setIfInBounds j u) m1 m2 m3 m4 ws rs qs gs := by
  have he : Ex d x (x.setCell ⟨d, j, none⟩ u) := (Ex.refl _ _).set j u
  obtain ⟨n1, o1⟩ := h.o1
  obtain ⟨n2, o2⟩ := h.o2
  obtain ⟨n3, o3⟩ := h.o3
  obtain ⟨n4, o4⟩ := h.o4
  refine ⟨fun k => ?_, fun k => by rw [World.frozen?_setCell]; exact h.f k, Nat.lt_of_lt_of_le h.l he.size, ⟨n1, mapv_ex o1 he e1⟩, ⟨n2, mapv_ex o2 he e2⟩, ⟨n3, mapv_ex o3 he e3⟩, ⟨n4, mapv_ex o4 he e4⟩⟩
  by_cases e : k = j
  · subst e
    have h1 := h.c k
    rw [Array.getElem?_eq_getElem hj] at h1
    rw [Array.getElem?_setIfInBounds_self_of_lt hj]
    exact World.cell?_setCell_same _ _ _ h1
  · rw [Array.getElem?_setIfInBounds_ne (fun h' => e h'.symm), ← h.c k]
    exact World.cell?_setCell_other _ _ _ _ (fun h' => e (by have := congrArg Addr.off h'; exact this.symm))
def HearOk (m : MateD) (p : ParcelD) : Prop := (m.kn = false ∨ m.se < p.s) ∧ (inB p.s 1 1000000 = true ∧ (p.ws.length ≤ 10 ∧ W.AllW p.ws p.ws.length))
theorem bl_dn3 {k : Nat} {w w' : World} (h : Below k w w') {n : Nat} : Below k w (w'.drewN n) := ⟨h.os, h.tape, h.output, h.size, h.block⟩

set_option maxRecDepth 4000 in
set_option maxHeartbeats 2000000 in
theorem hear_any (m : MateD) (p : ParcelD) (x1 x2 x3 x4 : Option Addr) (t1 t2 t3 t4 c1 c2 c3 c4 : Nat) (d m1 m2 m3 m4 b5 : Nat) (w : World) (hD : Deck w d #[.string m.nm, .bool m.up, .int .i64 m.ck, .bool m.kn, .int .i64 m.se, .slice x1 t1 c1, .slice x2 t2 c2, .slice x3 t3 c3, .slice x4 t4 c4, .map (some m1), .map (some m2), .map (some m3), .map (some m4)] m1 m2 m3 m4 m.ws m.rs m.qs m.gs) (e1 : m1 < d) (e2 : m2 < d) (e3 : m3 < d) (e4 : m4 < d) (hR : W.RowsAt w b5 0 p.ws) (l5 : b5 < w.heap.size) (e5 : b5 ≠ d) (hp : p.fits) :
    Calls Tryz.prog 30 #[.pointer (some ⟨d, 0, none⟩), .agg #[.int .i64 p.k, .string p.b, .int .i64 p.s, .slice (some ⟨b5, 0, none⟩) p.ws.length p.ws.length, .string p.h, .string p.c, .int .i64 p.t]] w fun e w' => e = .returned (.tuple #[]) ∧ ((HearOk m p ∧ ∃ m1', Deck w' d #[.string m.nm, .bool m.up, .int .i64 m.ck, .bool true, .int .i64 p.s, .slice x1 t1 c1, .slice x2 t2 c2, .slice x3 t3 c3, .slice x4 t4 c4, .map (some m1'), .map (some m2), .map (some m3), .map (some m4)] m1' m2 m3 m4 p.ws m.rs m.qs m.gs) ∨ (¬ HearOk m p ∧ Deck w' d #[.string m.nm, .bool m.up, .int .i64 m.ck, .bool m.kn, .int .i64 m.se, .slice x1 t1 c1, .slice x2 t2 c2, .slice x3 t3 c3, .slice x4 t4 c4, .map (some m1), .map (some m2), .map (some m3), .map (some m4)] m1 m2 m3 m4 m.ws m.rs m.qs m.gs)) ∧ Ex d w w' := by
  have HD : Hid (Deck w d #[.string m.nm, .bool m.up, .int .i64 m.ck, .bool m.kn, .int .i64 m.se, .slice x1 t1 c1, .slice x2 t2 c2, .slice x3 t3 c3, .slice x4 t4 c4, .map (some m1), .map (some m2), .map (some m3), .map (some m4)] m1 m2 m3 m4 m.ws m.rs m.qs m.gs) := hD
  have HR : Hid (W.RowsAt w b5 0 p.ws) := hR
  have HP : Hid p.fits := hp
  have Hb0 : Hid (Below w.heap.size w (w.alloc (.cells #[.int .i64 p.k, .string p.b, .int .i64 p.s, .slice (some ⟨b5, 0, none⟩) p.ws.length p.ws.length, .string p.h, .string p.c, .int .i64 p.t] 39))) := bl_alloc (Below.refl _ _) _
  have hpl := hp.l
  have kc := hD.c
  have kf := hD.f
  have kl := hD.l
  clear hD hR hp
  obtain ⟨v, hv⟩ : ∃ v, m.kn = v := ⟨_, rfl⟩
  have Hv : Hid (m.kn = v) := hv
  rw [hv] at kc
  clear hv
  cases v
  · go_enter Tryz.func30, Tryz.ntmps30
    go_wp2_with fail
    go_quiet (fail)
    cases q2 : inB p.s 1 1000000
    · go_wp2_with (go_at_call 70; refine (within_any _ _ _ _).mono ?_; rintro e w' ⟨rfl, rfl⟩)
      exact bodyPost_ret (v := .tuple #[]) (by simp [results, Tryz.results30, go_sem]) rfl ⟨rfl, Or.inr ⟨fun h => (by have := h.2.1; rw [q2] at this; cases this), HD.out.keep (bl_dn3 Hb0.out)⟩, Ex.of_below (bl_dn3 Hb0.out)⟩
    · go_wp2_with (go_at_call 70; refine (within_any _ _ _ _).mono ?_; rintro e w' ⟨rfl, rfl⟩)
      refine (W.implWantsOk b5 0 p.ws _ (HR.out.keep l5 (bl_dn3 Hb0.out)) (Nat.lt_of_lt_of_le l5 Hb0.out.size) HP.out.w hpl).mono ?_
      rintro e w1 ⟨⟨q, rfl, kq⟩, g1⟩
      have K : Hid (W.Says q p.ws) := kq
      have B1 : Hid (Below w.heap.size w w1) := bl_trans (bl_dn3 Hb0.out) g1
      have C1 : Hid (Below (w.alloc (.cells #[.int .i64 p.k, .string p.b, .int .i64 p.s, .slice (some ⟨b5, 0, none⟩) p.ws.length p.ws.length, .string p.h, .string p.c, .int .i64 p.t] 39)).heap.size (w.alloc (.cells #[.int .i64 p.k, .string p.b, .int .i64 p.s, .slice (some ⟨b5, 0, none⟩) p.ws.length p.ws.length, .string p.h, .string p.c, .int .i64 p.t] 39)) w1) := bl_trans (bl_dn3 (Below.refl _ _)) g1
      clear kq g1 kc kf
      have D1 : Hid (Deck w1 d #[.string m.nm, .bool m.up, .int .i64 m.ck, .bool m.kn, .int .i64 m.se, .slice x1 t1 c1, .slice x2 t2 c2, .slice x3 t3 c3, .slice x4 t4 c4, .map (some m1), .map (some m2), .map (some m3), .map (some m4)] m1 m2 m3 m4 m.ws m.rs m.qs m.gs) := HD.out.keep B1.out
      have kp := box_keep C1.out
      have kz : w.heap.size < w1.heap.size := by have := C1.out.size; simp at this; omega
      cases q
      · go_wp2
        exact bodyPost_ret (v := .tuple #[]) (by simp [results, Tryz.results30, go_sem]) rfl ⟨rfl, Or.inr ⟨fun h => (by have := K.out.2 h.2.2; cases this), D1.out⟩, Ex.of_below B1.out⟩
      have G : Hid (p.ws.length ≤ 10 ∧ W.AllW p.ws p.ws.length) := K.out.1 rfl
      clear K
      have kc := D1.out.c
      have kf := D1.out.f
      have kw := D1.out.l
      have F1 : m1 ≠ d := by omega
      have F2 : m2 ≠ d := by omega
      have F3 : m3 ≠ d := by omega
      have F4 : m4 ≠ d := by omega
      have kne : w.heap.size ≠ d := by omega
      have D4 : Hid (Deck ((w1.setCell ⟨d, 3, none⟩ (.bool true)).setCell ⟨d, 4, none⟩ (.int .i64 p.s)) d #[.string m.nm, .bool m.up, .int .i64 m.ck, .bool true, .int .i64 p.s, .slice x1 t1 c1, .slice x2 t2 c2, .slice x3 t3 c3, .slice x4 t4 c4, .map (some m1), .map (some m2), .map (some m3), .map (some m4)] m1 m2 m3 m4 m.ws m.rs m.qs m.gs) := (D1.out.set 3 (by simp) (.bool true) F1 F2 F3 F4).set 4 (by simp) (.int .i64 p.s) F1 F2 F3 F4
      have E4 : Hid (Ex d w1 ((w1.setCell ⟨d, 3, none⟩ (.bool true)).setCell ⟨d, 4, none⟩ (.int .i64 p.s))) := ((Ex.refl _ _).set 3 _).set 4 _
      go_wp2_with fail
      refine (W.byNameV b5 0 _ p.ws _ (W.RowsAt.exq (HR.out.keep l5 B1.out) (Nat.lt_of_lt_of_le l5 B1.out.size) E4.out e5) (Nat.lt_of_lt_of_le (Nat.lt_of_lt_of_le l5 B1.out.size) E4.out.size) (fun r hr => (HP.out.w r hr).1) hpl (W.srt_asc G.out.2.2.1)).mono ?_
      rintro e w2 ⟨rfl, o5, g2⟩
      obtain ⟨M5, hM5⟩ : ∃ M, M = ((w1.setCell ⟨d, 3, none⟩ (.bool true)).setCell ⟨d, 4, none⟩ (.int .i64 p.s)).heap.size := ⟨_, rfl⟩
      have O5 : Hid (w2.ownsMap Tryz.prog 9 W.RV M5 p.ws.length (W.dec p.ws)) := by rw [hM5]; exact o5
      rw [← hM5]
      have D2 : Hid (Deck w2 d #[.string m.nm, .bool m.up, .int .i64 m.ck, .bool true, .int .i64 p.s, .slice x1 t1 c1, .slice x2 t2 c2, .slice x3 t3 c3, .slice x4 t4 c4, .map (some m1), .map (some m2), .map (some m3), .map (some m4)] m1 m2 m3 m4 m.ws m.rs m.qs m.gs) := D4.out.keep g2
      have E2 : Hid (Ex d w w2) := Ex.trans (Ex.trans (Ex.of_below B1.out) E4.out) (Ex.of_below g2)
      have hdz : d < M5 := by rw [hM5]; exact Nat.lt_of_lt_of_le kw E4.out.size
      clear hM5
      clear o5 g2 kc kf kp
      have kc := D2.out.c
      have kf := D2.out.f
      have D9 : Hid (Deck (w2.setCell ⟨d, 9, none⟩ (.map (some M5))) d #[.string m.nm, .bool m.up, .int .i64 m.ck, .bool true, .int .i64 p.s, .slice x1 t1 c1, .slice x2 t2 c2, .slice x3 t3 c3, .slice x4 t4 c4, .map (some M5), .map (some m2), .map (some m3), .map (some m4)] m1 m2 m3 m4 m.ws m.rs m.qs m.gs) := D2.out.set 9 (by simp) _ F1 F2 F3 F4
      go_wp2
      exact bodyPost_end (v := .tuple #[]) (by simp [results, Tryz.results30, go_sem]) rfl ⟨rfl, Or.inl ⟨⟨Or.inl Hv.out, q2, G.out⟩, _, D9.out.c, D9.out.f, D9.out.l, ⟨_, mapv_ex O5.out ((Ex.refl _ _).set 9 _) (by omega)⟩, D9.out.o2, D9.out.o3, D9.out.o4⟩, Ex.trans E2.out ((Ex.refl _ _).set 9 _)⟩
  by_cases hs : m.se < p.s
  · go_enter Tryz.func30, Tryz.ntmps30
    go_wp2_with fail
    go_quiet (fail)
    cases q2 : inB p.s 1 1000000
    · go_wp2_with (go_at_call 70; refine (within_any _ _ _ _).mono ?_; rintro e w' ⟨rfl, rfl⟩)
      exact bodyPost_ret (v := .tuple #[]) (by simp [results, Tryz.results30, go_sem]) rfl ⟨rfl, Or.inr ⟨fun h => (by have := h.2.1; rw [q2] at this; cases this), HD.out.keep (bl_dn3 Hb0.out)⟩, Ex.of_below (bl_dn3 Hb0.out)⟩
    · go_wp2_with (go_at_call 70; refine (within_any _ _ _ _).mono ?_; rintro e w' ⟨rfl, rfl⟩)
      refine (W.implWantsOk b5 0 p.ws _ (HR.out.keep l5 (bl_dn3 Hb0.out)) (Nat.lt_of_lt_of_le l5 Hb0.out.size) HP.out.w hpl).mono ?_
      rintro e w1 ⟨⟨q, rfl, kq⟩, g1⟩
      have K : Hid (W.Says q p.ws) := kq
      have B1 : Hid (Below w.heap.size w w1) := bl_trans (bl_dn3 Hb0.out) g1
      have C1 : Hid (Below (w.alloc (.cells #[.int .i64 p.k, .string p.b, .int .i64 p.s, .slice (some ⟨b5, 0, none⟩) p.ws.length p.ws.length, .string p.h, .string p.c, .int .i64 p.t] 39)).heap.size (w.alloc (.cells #[.int .i64 p.k, .string p.b, .int .i64 p.s, .slice (some ⟨b5, 0, none⟩) p.ws.length p.ws.length, .string p.h, .string p.c, .int .i64 p.t] 39)) w1) := bl_trans (bl_dn3 (Below.refl _ _)) g1
      clear kq g1 kc kf
      have D1 : Hid (Deck w1 d #[.string m.nm, .bool m.up, .int .i64 m.ck, .bool m.kn, .int .i64 m.se, .slice x1 t1 c1, .slice x2 t2 c2, .slice x3 t3 c3, .slice x4 t4 c4, .map (some m1), .map (some m2), .map (some m3), .map (some m4)] m1 m2 m3 m4 m.ws m.rs m.qs m.gs) := HD.out.keep B1.out
      have kp := box_keep C1.out
      have kz : w.heap.size < w1.heap.size := by have := C1.out.size; simp at this; omega
      cases q
      · go_wp2
        exact bodyPost_ret (v := .tuple #[]) (by simp [results, Tryz.results30, go_sem]) rfl ⟨rfl, Or.inr ⟨fun h => (by have := K.out.2 h.2.2; cases this), D1.out⟩, Ex.of_below B1.out⟩
      have G : Hid (p.ws.length ≤ 10 ∧ W.AllW p.ws p.ws.length) := K.out.1 rfl
      clear K
      have kc := D1.out.c
      have kf := D1.out.f
      have kw := D1.out.l
      have F1 : m1 ≠ d := by omega
      have F2 : m2 ≠ d := by omega
      have F3 : m3 ≠ d := by omega
      have F4 : m4 ≠ d := by omega
      have kne : w.heap.size ≠ d := by omega
      have D4 : Hid (Deck ((w1.setCell ⟨d, 3, none⟩ (.bool true)).setCell ⟨d, 4, none⟩ (.int .i64 p.s)) d #[.string m.nm, .bool m.up, .int .i64 m.ck, .bool true, .int .i64 p.s, .slice x1 t1 c1, .slice x2 t2 c2, .slice x3 t3 c3, .slice x4 t4 c4, .map (some m1), .map (some m2), .map (some m3), .map (some m4)] m1 m2 m3 m4 m.ws m.rs m.qs m.gs) := (D1.out.set 3 (by simp) (.bool true) F1 F2 F3 F4).set 4 (by simp) (.int .i64 p.s) F1 F2 F3 F4
      have E4 : Hid (Ex d w1 ((w1.setCell ⟨d, 3, none⟩ (.bool true)).setCell ⟨d, 4, none⟩ (.int .i64 p.s))) := ((Ex.refl _ _).set 3 _).set 4 _
      go_wp2_with fail
      refine (W.byNameV b5 0 _ p.ws _ (W.RowsAt.exq (HR.out.keep l5 B1.out) (Nat.lt_of_lt_of_le l5 B1.out.size) E4.out e5) (Nat.lt_of_lt_of_le (Nat.lt_of_lt_of_le l5 B1.out.size) E4.out.size) (fun r hr => (HP.out.w r hr).1) hpl (W.srt_asc G.out.2.2.1)).mono ?_
      rintro e w2 ⟨rfl, o5, g2⟩
      obtain ⟨M5, hM5⟩ : ∃ M, M = ((w1.setCell ⟨d, 3, none⟩ (.bool true)).setCell ⟨d, 4, none⟩ (.int .i64 p.s)).heap.size := ⟨_, rfl⟩
      have O5 : Hid (w2.ownsMap Tryz.prog 9 W.RV M5 p.ws.length (W.dec p.ws)) := by rw [hM5]; exact o5
      rw [← hM5]
      have D2 : Hid (Deck w2 d #[.string m.nm, .bool m.up, .int .i64 m.ck, .bool true, .int .i64 p.s, .slice x1 t1 c1, .slice x2 t2 c2, .slice x3 t3 c3, .slice x4 t4 c4, .map (some m1), .map (some m2), .map (some m3), .map (some m4)] m1 m2 m3 m4 m.ws m.rs m.qs m.gs) := D4.out.keep g2
      have E2 : Hid (Ex d w w2) := Ex.trans (Ex.trans (Ex.of_below B1.out) E4.out) (Ex.of_below g2)
      have hdz : d < M5 := by rw [hM5]; exact Nat.lt_of_lt_of_le kw E4.out.size
      clear hM5
      clear o5 g2 kc kf kp
      have kc := D2.out.c
      have kf := D2.out.f
      have D9 : Hid (Deck (w2.setCell ⟨d, 9, none⟩ (.map (some M5))) d #[.string m.nm, .bool m.up, .int .i64 m.ck, .bool true, .int .i64 p.s, .slice x1 t1 c1, .slice x2 t2 c2, .slice x3 t3 c3, .slice x4 t4 c4, .map (some M5), .map (some m2), .map (some m3), .map (some m4)] m1 m2 m3 m4 m.ws m.rs m.qs m.gs) := D2.out.set 9 (by simp) _ F1 F2 F3 F4
      go_wp2
      exact bodyPost_end (v := .tuple #[]) (by simp [results, Tryz.results30, go_sem]) rfl ⟨rfl, Or.inl ⟨⟨Or.inr hs, q2, G.out⟩, _, D9.out.c, D9.out.f, D9.out.l, ⟨_, mapv_ex O5.out ((Ex.refl _ _).set 9 _) (by omega)⟩, D9.out.o2, D9.out.o3, D9.out.o4⟩, Ex.trans E2.out ((Ex.refl _ _).set 9 _)⟩
  · have Hs : Hid _ := hs
    have hs' : p.s ≤ m.se := by omega
    clear hs
    go_enter Tryz.func30, Tryz.ntmps30
    go_wp2_with fail
    go_quiet (fail)
    go_wp2
    exact bodyPost_ret (v := .tuple #[]) (by simp [results, Tryz.results30, go_sem]) rfl ⟨rfl, Or.inr ⟨fun h => (by rcases h.1 with h' | h'; (rw [Hv.out] at h'; cases h'); exact Hs.out h'), HD.out.keep (bl_dn3 Hb0.out)⟩, Ex.of_below (bl_dn3 Hb0.out)⟩
end Go.Proofs.YtiogkdafmgdbgaaGreat
/- What the reading of a parcel says of memory. -/
namespace Go.Proofs.YtiogkdafmgdbgaaGreat
open Go.ChangeShapes Go.WideShapes Go.ChangeAt Go.RowKit

theorem cells_parcel : Tryz.prog.cellsOf 28 = 7 := by kernel_rfl
theorem list7p {α : Type} {l : List α} (h : l.length = 7) : ∃ a b c d e f g, l = [a, b, c, d, e, f, g] := by
  match l, h with
  | [a, b, c, d, e, f, g], _ => exact ⟨a, b, c, d, e, f, g, rfl⟩

section
variable {H : Type} {enc : TypeId × Value → H} {Z : World} {base : Nat} {spare : Nat → Bool} {held : Bool} {fuel : Nat} {cs : List Value} {x : DataW H × List MemPlace}
theorem read_parcel (hx : DataW.trod enc Tryz.prog Z base spare held fuel 28 cs = some x) :
    ∃ (p : ParcelD) (v5 : Value), cs = [.int .i64 p.k, .string p.b, .int .i64 p.s, v5, .string p.h, .string p.c, .int .i64 p.t] ∧ p.b.size ≤ maxLen ∧ p.h.size ≤ maxLen ∧ p.c.size ≤ maxLen ∧ W.In Z v5 p.ws := by
  obtain ⟨xs, n, rfl, -, hl, hn, hf⟩ := DataW.trod_struct Tryz.underlying28 hx
  rw [cells_parcel] at hl
  obtain ⟨c0, c1, c2, c3, c4, c5, c6, rfl⟩ := list7p hl
  have hn' : xs.length = 7 := hn
  have f0 : DataW.trod enc Tryz.prog Z base spare held n 3 (List.take (Tryz.prog.cellsOf 3) [c0, c1, c2, c3, c4, c5, c6]) = xs[0]? := hf 0 _ rfl
  have f1 : DataW.trod enc Tryz.prog Z base spare held n 9 (List.take (Tryz.prog.cellsOf 9) [c1, c2, c3, c4, c5, c6]) = xs[1]? := hf 1 _ rfl
  have f2 : DataW.trod enc Tryz.prog Z base spare held n 3 (List.take (Tryz.prog.cellsOf 3) [c2, c3, c4, c5, c6]) = xs[2]? := hf 2 _ rfl
  have f3 : DataW.trod enc Tryz.prog Z base spare held n 22 (List.take (Tryz.prog.cellsOf 22) [c3, c4, c5, c6]) = xs[3]? := hf 3 _ rfl
  have f4 : DataW.trod enc Tryz.prog Z base spare held n 9 (List.take (Tryz.prog.cellsOf 9) [c4, c5, c6]) = xs[4]? := hf 4 _ rfl
  have f5 : DataW.trod enc Tryz.prog Z base spare held n 9 (List.take (Tryz.prog.cellsOf 9) [c5, c6]) = xs[5]? := hf 5 _ rfl
  have f6 : DataW.trod enc Tryz.prog Z base spare held n 3 (List.take (Tryz.prog.cellsOf 3) [c6]) = xs[6]? := hf 6 _ rfl
  simp only [cells_int, cells_string, cells_ws, List.take_succ_cons, List.take_zero] at f0 f1 f2 f3 f4 f5 f6
  obtain ⟨y0, g0⟩ := some_of hn' (by decide) f0
  obtain ⟨y1, g1⟩ := some_of hn' (by decide) f1
  obtain ⟨y2, g2⟩ := some_of hn' (by decide) f2
  obtain ⟨y3, g3⟩ := some_of hn' (by decide) f3
  obtain ⟨y4, g4⟩ := some_of hn' (by decide) f4
  obtain ⟨y5, g5⟩ := some_of hn' (by decide) f5
  obtain ⟨y6, g6⟩ := some_of hn' (by decide) f6
  obtain ⟨k, e0, -, w0⟩ := DataW.trod_int Tryz.underlying3 g0
  obtain ⟨b, e1, -, w1⟩ := DataW.trod_string Tryz.underlying9 g1
  obtain ⟨s, e2, -, w2⟩ := DataW.trod_int Tryz.underlying3 g2
  obtain ⟨ws, h3⟩ := in_wants g3
  obtain ⟨h, e4, -, w4⟩ := DataW.trod_string Tryz.underlying9 g4
  obtain ⟨c, e5, -, w5⟩ := DataW.trod_string Tryz.underlying9 g5
  obtain ⟨t, e6, -, w6⟩ := DataW.trod_int Tryz.underlying3 g6
  simp only [List.cons.injEq, and_true] at e0 e1 e2 e4 e5 e6
  subst e0 e1 e2 e4 e5 e6
  exact ⟨⟨k, b, s, ws, h, c, t⟩, c3, rfl, w1, w4, w5, h3⟩
end
end Go.Proofs.YtiogkdafmgdbgaaGreat
/- A mate is copied. -/
namespace Go.Proofs.YtiogkdafmgdbgaaGreat
open Go.RowKit
set_option linter.unusedVariables false

/-- While a mate is copied: what came in, what is laid out so far. -/
structure St (w : World) (L O : Array Value) (x : World) : Prop where
  a : ∀ k, x.cell? ⟨w.heap.size, k, none⟩ = L[k]?
  b : ∀ k, x.cell? ⟨w.heap.size + 1 + 1, k, none⟩ = O[k]?
  c : ∀ k, x.frozen? ⟨w.heap.size + 1 + 1, k, none⟩ = false
  d : x.there (w.heap.size + 1) 0 9
  e : Below w.heap.size w x
  f : w.heap.size + 1 + 1 < x.heap.size
theorem St.below {w x y : World} {L O : Array Value} (h : St w L O x) (hb : Below x.heap.size x y) : St w L O y :=
  have hf := h.f
  ⟨fun k => (hb.cell (p := ⟨w.heap.size, k, none⟩) (by show w.heap.size < _; omega)).trans (h.a k), fun k => (hb.cell (p := ⟨w.heap.size + 1 + 1, k, none⟩) hf).trans (h.b k), fun k => (hb.frozen (p := ⟨w.heap.size + 1 + 1, k, none⟩) hf).trans (h.c k),
    fun j hj => ⟨by rw [hb.cell (p := ⟨w.heap.size + 1, 0 + j, none⟩) (by show w.heap.size + 1 < _; omega)]; exact (h.d j hj).1, by rw [hb.frozen (p := ⟨w.heap.size + 1, 0 + j, none⟩) (by show w.heap.size + 1 < _; omega)]; exact (h.d j hj).2⟩,
    bl_trans h.e hb, Nat.lt_of_lt_of_le hf hb.size⟩
theorem St.set {w x : World} {L O : Array Value} (h : St w L O x) (j : Nat) (hj : j < O.size) (u : Value) : St w L (O.setIfInBounds j u) (x.setCell ⟨w.heap.size + 1 + 1, j, none⟩ u) := by
  have he : Ex (w.heap.size + 1 + 1) x (x.setCell ⟨w.heap.size + 1 + 1, j, none⟩ u) := (Ex.refl _ _).set j u
  have hf := h.f
  refine ⟨fun k => (he.cell (p := ⟨w.heap.size, k, none⟩) (by show w.heap.size < _; omega) (by show w.heap.size ≠ _; omega)).trans (h.a k), fun k => ?_, fun k => ?_, there_ex h.d (by omega) he (by omega), bl_set (p := ⟨w.heap.size + 1 + 1, j, none⟩) h.e (by show w.heap.size ≤ w.heap.size + 1 + 1; omega) u, Nat.lt_of_lt_of_le hf he.size⟩
  · by_cases e : k = j
    · subst e
      have h1 := h.b k
      have h2 := h.c k
      rw [Array.getElem?_eq_getElem hj] at h1
      rw [Array.getElem?_setIfInBounds_self_of_lt hj]
      exact World.cell?_setCell_same _ _ _ h1
    · rw [Array.getElem?_setIfInBounds_ne (fun h' => e h'.symm), ← h.b k]
      exact World.cell?_setCell_other _ _ _ _ (fun h' => e (by have := congrArg Addr.off h'; exact this.symm))
  · rw [World.frozen?_setCell]; exact h.c k
theorem st_new (m : MateD) (v1 v2 v3 v4 : Value) (w : World) : St w #[.string m.nm, .bool m.up, .int .i64 m.ck, .bool m.kn, .int .i64 m.se, v1, v2, v3, v4] #[.string m.nm, .bool m.up, .int .i64 m.ck, .bool m.kn, .int .i64 m.se, .slice none 0 0, .slice none 0 0, .slice none 0 0, .slice none 0 0] ((((w.alloc (.cells #[.string m.nm, .bool m.up, .int .i64 m.ck, .bool m.kn, .int .i64 m.se, v1, v2, v3, v4] 26))).alloc (.cells #[.string { data := #[] }, .bool false, .int .i64 0, .bool false, .int .i64 0, .slice none 0 0, .slice none 0 0, .slice none 0 0, .slice none 0 0] 35)).alloc (.cells #[.string m.nm, .bool m.up, .int .i64 m.ck, .bool m.kn, .int .i64 m.se, .slice none 0 0, .slice none 0 0, .slice none 0 0, .slice none 0 0] 35)) := by
  refine ⟨fun k => by simp [go_sem, World.cell?_alloc_past], fun k => by simp [go_sem], fun k => by simp [go_sem], fun j hj => ⟨by simp [go_sem, World.cell?_alloc_past] <;> omega, by simp [go_sem]⟩, bl_alloc (bl_alloc (bl_alloc (Below.refl _ _) _) _) _, by simp⟩

set_option maxRecDepth 4000 in
set_option maxHeartbeats 4000000 in
theorem toMate_any (m : MateD) (v1 v2 v3 v4 : Value) (w : World) (i1 : W.In w v1 m.ws) (i2 : In w v2 m.rs) (i3 : A.In w v3 m.qs) (i4 : A.In w v4 m.gs) (l1 : m.ws.length ≤ 1048576) (l2 : m.rs.length ≤ 1048576) (l3 : m.qs.length ≤ 1048576) (l4 : m.gs.length ≤ 1048576) :
    Calls Tryz.prog 7 #[.agg #[.string m.nm, .bool m.up, .int .i64 m.ck, .bool m.kn, .int .i64 m.se, v1, v2, v3, v4]] w fun e w' => ∃ b1 b2 b3 b4, e = .returned (.agg #[.string m.nm, .bool m.up, .int .i64 m.ck, .bool m.kn, .int .i64 m.se, .slice (some ⟨b1, 0, none⟩) m.ws.length m.ws.length, .slice (some ⟨b2, 0, none⟩) m.rs.length m.rs.length, .slice (some ⟨b3, 0, none⟩) m.qs.length m.qs.length, .slice (some ⟨b4, 0, none⟩) m.gs.length m.gs.length]) ∧ Lists w' m b1 b2 b3 b4 ∧ Below w.heap.size w w' := by
  have S0 : Hid (St w #[.string m.nm, .bool m.up, .int .i64 m.ck, .bool m.kn, .int .i64 m.se, v1, v2, v3, v4] #[.string m.nm, .bool m.up, .int .i64 m.ck, .bool m.kn, .int .i64 m.se, .slice none 0 0, .slice none 0 0, .slice none 0 0, .slice none 0 0] ((((w.alloc (.cells #[.string m.nm, .bool m.up, .int .i64 m.ck, .bool m.kn, .int .i64 m.se, v1, v2, v3, v4] 26))).alloc (.cells #[.string { data := #[] }, .bool false, .int .i64 0, .bool false, .int .i64 0, .slice none 0 0, .slice none 0 0, .slice none 0 0, .slice none 0 0] 35)).alloc (.cells #[.string m.nm, .bool m.up, .int .i64 m.ck, .bool m.kn, .int .i64 m.se, .slice none 0 0, .slice none 0 0, .slice none 0 0, .slice none 0 0] 35))) := st_new m v1 v2 v3 v4 w
  have hinfo : (Tryz.prog.info? 35).map (·.size) = some 9 := by kernel_rfl
  go_enter Tryz.func7, Tryz.ntmps7
  go_wp2_with fail
  have hto1 := W.to_in (i1.keep S0.out.e) l1
  refine hto1.mono ?_
  clear hto1
  rintro e w1 ⟨rfl, r1, z1, c1⟩
  have T1 : Hid (St w #[.string m.nm, .bool m.up, .int .i64 m.ck, .bool m.kn, .int .i64 m.se, v1, v2, v3, v4] #[.string m.nm, .bool m.up, .int .i64 m.ck, .bool m.kn, .int .i64 m.se, .slice none 0 0, .slice none 0 0, .slice none 0 0, .slice none 0 0] w1) := S0.out.below c1
  have ka1 := T1.out.a
  have ko1 := T1.out.b
  have kf1 := T1.out.c
  have kz1 := T1.out.f
  obtain ⟨B1, hB1⟩ : ∃ B, B = ((((w.alloc (.cells #[.string m.nm, .bool m.up, .int .i64 m.ck, .bool m.kn, .int .i64 m.se, v1, v2, v3, v4] 26))).alloc (.cells #[.string { data := #[] }, .bool false, .int .i64 0, .bool false, .int .i64 0, .slice none 0 0, .slice none 0 0, .slice none 0 0, .slice none 0 0] 35)).alloc (.cells #[.string m.nm, .bool m.up, .int .i64 m.ck, .bool m.kn, .int .i64 m.se, .slice none 0 0, .slice none 0 0, .slice none 0 0, .slice none 0 0] 35)).heap.size := ⟨_, rfl⟩
  have HB1 : Hid (w.heap.size + 1 + 1 < B1) := by rw [hB1]; exact S0.out.f
  have Q1 : Hid (W.RowsAt w1 B1 0 m.ws) := by rw [hB1]; exact r1
  have LT1 : Hid (B1 < w1.heap.size) := by rw [hB1]; exact z1
  have Y1 : Hid (Below ((((w.alloc (.cells #[.string m.nm, .bool m.up, .int .i64 m.ck, .bool m.kn, .int .i64 m.se, v1, v2, v3, v4] 26))).alloc (.cells #[.string { data := #[] }, .bool false, .int .i64 0, .bool false, .int .i64 0, .slice none 0 0, .slice none 0 0, .slice none 0 0, .slice none 0 0] 35)).alloc (.cells #[.string m.nm, .bool m.up, .int .i64 m.ck, .bool m.kn, .int .i64 m.se, .slice none 0 0, .slice none 0 0, .slice none 0 0, .slice none 0 0] 35)).heap.size ((((w.alloc (.cells #[.string m.nm, .bool m.up, .int .i64 m.ck, .bool m.kn, .int .i64 m.se, v1, v2, v3, v4] 26))).alloc (.cells #[.string { data := #[] }, .bool false, .int .i64 0, .bool false, .int .i64 0, .slice none 0 0, .slice none 0 0, .slice none 0 0, .slice none 0 0] 35)).alloc (.cells #[.string m.nm, .bool m.up, .int .i64 m.ck, .bool m.kn, .int .i64 m.se, .slice none 0 0, .slice none 0 0, .slice none 0 0, .slice none 0 0] 35)) w1) := c1
  rw [← hB1]
  clear hB1 r1 z1 c1
  have S1 : Hid (St w #[.string m.nm, .bool m.up, .int .i64 m.ck, .bool m.kn, .int .i64 m.se, v1, v2, v3, v4] #[.string m.nm, .bool m.up, .int .i64 m.ck, .bool m.kn, .int .i64 m.se, .slice (some ⟨B1, 0, none⟩) m.ws.length m.ws.length, .slice none 0 0, .slice none 0 0, .slice none 0 0] (w1.setCell ⟨w.heap.size + 1 + 1, 5, none⟩ (.slice (some ⟨B1, 0, none⟩) m.ws.length m.ws.length))) := T1.out.set 5 (by simp) _
  have X1 : Hid (Ex (w.heap.size + 1 + 1) w1 (w1.setCell ⟨w.heap.size + 1 + 1, 5, none⟩ (.slice (some ⟨B1, 0, none⟩) m.ws.length m.ws.length))) := Ex.set (Ex.refl _ _) 5 _
  go_wp2_with fail
  clear ka1 ko1 kf1
  have hto2 := to_in (i2.keep S1.out.e) l2
  refine hto2.mono ?_
  clear hto2
  rintro e w2 ⟨rfl, r2, z2, c2⟩
  have T2 : Hid (St w #[.string m.nm, .bool m.up, .int .i64 m.ck, .bool m.kn, .int .i64 m.se, v1, v2, v3, v4] #[.string m.nm, .bool m.up, .int .i64 m.ck, .bool m.kn, .int .i64 m.se, .slice (some ⟨B1, 0, none⟩) m.ws.length m.ws.length, .slice none 0 0, .slice none 0 0, .slice none 0 0] w2) := S1.out.below c2
  have ka2 := T2.out.a
  have ko2 := T2.out.b
  have kf2 := T2.out.c
  have kz2 := T2.out.f
  obtain ⟨B2, hB2⟩ : ∃ B, B = (w1.setCell ⟨w.heap.size + 1 + 1, 5, none⟩ (.slice (some ⟨B1, 0, none⟩) m.ws.length m.ws.length)).heap.size := ⟨_, rfl⟩
  have HB2 : Hid (w.heap.size + 1 + 1 < B2) := by rw [hB2]; exact S1.out.f
  have Q2 : Hid (RowsAt w2 B2 0 m.rs) := by rw [hB2]; exact r2
  have LT2 : Hid (B2 < w2.heap.size) := by rw [hB2]; exact z2
  have Y2 : Hid (Below (w1.setCell ⟨w.heap.size + 1 + 1, 5, none⟩ (.slice (some ⟨B1, 0, none⟩) m.ws.length m.ws.length)).heap.size (w1.setCell ⟨w.heap.size + 1 + 1, 5, none⟩ (.slice (some ⟨B1, 0, none⟩) m.ws.length m.ws.length)) w2) := c2
  rw [← hB2]
  clear hB2 r2 z2 c2
  have S2 : Hid (St w #[.string m.nm, .bool m.up, .int .i64 m.ck, .bool m.kn, .int .i64 m.se, v1, v2, v3, v4] #[.string m.nm, .bool m.up, .int .i64 m.ck, .bool m.kn, .int .i64 m.se, .slice (some ⟨B1, 0, none⟩) m.ws.length m.ws.length, .slice (some ⟨B2, 0, none⟩) m.rs.length m.rs.length, .slice none 0 0, .slice none 0 0] (w2.setCell ⟨w.heap.size + 1 + 1, 6, none⟩ (.slice (some ⟨B2, 0, none⟩) m.rs.length m.rs.length))) := T2.out.set 6 (by simp) _
  have X2 : Hid (Ex (w.heap.size + 1 + 1) w2 (w2.setCell ⟨w.heap.size + 1 + 1, 6, none⟩ (.slice (some ⟨B2, 0, none⟩) m.rs.length m.rs.length))) := Ex.set (Ex.refl _ _) 6 _
  go_wp2_with fail
  clear ka2 ko2 kf2
  have hto3 := A.to_in (i3.keep S2.out.e) l3
  refine hto3.mono ?_
  clear hto3
  rintro e w3 ⟨rfl, r3, z3, c3⟩
  have T3 : Hid (St w #[.string m.nm, .bool m.up, .int .i64 m.ck, .bool m.kn, .int .i64 m.se, v1, v2, v3, v4] #[.string m.nm, .bool m.up, .int .i64 m.ck, .bool m.kn, .int .i64 m.se, .slice (some ⟨B1, 0, none⟩) m.ws.length m.ws.length, .slice (some ⟨B2, 0, none⟩) m.rs.length m.rs.length, .slice none 0 0, .slice none 0 0] w3) := S2.out.below c3
  have ka3 := T3.out.a
  have ko3 := T3.out.b
  have kf3 := T3.out.c
  have kz3 := T3.out.f
  obtain ⟨B3, hB3⟩ : ∃ B, B = (w2.setCell ⟨w.heap.size + 1 + 1, 6, none⟩ (.slice (some ⟨B2, 0, none⟩) m.rs.length m.rs.length)).heap.size := ⟨_, rfl⟩
  have HB3 : Hid (w.heap.size + 1 + 1 < B3) := by rw [hB3]; exact S2.out.f
  have Q3 : Hid (A.RowsAt w3 B3 0 m.qs) := by rw [hB3]; exact r3
  have LT3 : Hid (B3 < w3.heap.size) := by rw [hB3]; exact z3
  have Y3 : Hid (Below (w2.setCell ⟨w.heap.size + 1 + 1, 6, none⟩ (.slice (some ⟨B2, 0, none⟩) m.rs.length m.rs.length)).heap.size (w2.setCell ⟨w.heap.size + 1 + 1, 6, none⟩ (.slice (some ⟨B2, 0, none⟩) m.rs.length m.rs.length)) w3) := c3
  rw [← hB3]
  clear hB3 r3 z3 c3
  have S3 : Hid (St w #[.string m.nm, .bool m.up, .int .i64 m.ck, .bool m.kn, .int .i64 m.se, v1, v2, v3, v4] #[.string m.nm, .bool m.up, .int .i64 m.ck, .bool m.kn, .int .i64 m.se, .slice (some ⟨B1, 0, none⟩) m.ws.length m.ws.length, .slice (some ⟨B2, 0, none⟩) m.rs.length m.rs.length, .slice (some ⟨B3, 0, none⟩) m.qs.length m.qs.length, .slice none 0 0] (w3.setCell ⟨w.heap.size + 1 + 1, 7, none⟩ (.slice (some ⟨B3, 0, none⟩) m.qs.length m.qs.length))) := T3.out.set 7 (by simp) _
  have X3 : Hid (Ex (w.heap.size + 1 + 1) w3 (w3.setCell ⟨w.heap.size + 1 + 1, 7, none⟩ (.slice (some ⟨B3, 0, none⟩) m.qs.length m.qs.length))) := Ex.set (Ex.refl _ _) 7 _
  go_wp2_with fail
  clear ka3 ko3 kf3
  have hto4 := A.to_in (i4.keep S3.out.e) l4
  refine hto4.mono ?_
  clear hto4
  rintro e w4 ⟨rfl, r4, z4, c4⟩
  have T4 : Hid (St w #[.string m.nm, .bool m.up, .int .i64 m.ck, .bool m.kn, .int .i64 m.se, v1, v2, v3, v4] #[.string m.nm, .bool m.up, .int .i64 m.ck, .bool m.kn, .int .i64 m.se, .slice (some ⟨B1, 0, none⟩) m.ws.length m.ws.length, .slice (some ⟨B2, 0, none⟩) m.rs.length m.rs.length, .slice (some ⟨B3, 0, none⟩) m.qs.length m.qs.length, .slice none 0 0] w4) := S3.out.below c4
  have ka4 := T4.out.a
  have ko4 := T4.out.b
  have kf4 := T4.out.c
  have kz4 := T4.out.f
  obtain ⟨B4, hB4⟩ : ∃ B, B = (w3.setCell ⟨w.heap.size + 1 + 1, 7, none⟩ (.slice (some ⟨B3, 0, none⟩) m.qs.length m.qs.length)).heap.size := ⟨_, rfl⟩
  have HB4 : Hid (w.heap.size + 1 + 1 < B4) := by rw [hB4]; exact S3.out.f
  have Q4 : Hid (A.RowsAt w4 B4 0 m.gs) := by rw [hB4]; exact r4
  have LT4 : Hid (B4 < w4.heap.size) := by rw [hB4]; exact z4
  have Y4 : Hid (Below (w3.setCell ⟨w.heap.size + 1 + 1, 7, none⟩ (.slice (some ⟨B3, 0, none⟩) m.qs.length m.qs.length)).heap.size (w3.setCell ⟨w.heap.size + 1 + 1, 7, none⟩ (.slice (some ⟨B3, 0, none⟩) m.qs.length m.qs.length)) w4) := c4
  rw [← hB4]
  clear hB4 r4 z4 c4
  have S4 : Hid (St w #[.string m.nm, .bool m.up, .int .i64 m.ck, .bool m.kn, .int .i64 m.se, v1, v2, v3, v4] #[.string m.nm, .bool m.up, .int .i64 m.ck, .bool m.kn, .int .i64 m.se, .slice (some ⟨B1, 0, none⟩) m.ws.length m.ws.length, .slice (some ⟨B2, 0, none⟩) m.rs.length m.rs.length, .slice (some ⟨B3, 0, none⟩) m.qs.length m.qs.length, .slice (some ⟨B4, 0, none⟩) m.gs.length m.gs.length] (w4.setCell ⟨w.heap.size + 1 + 1, 8, none⟩ (.slice (some ⟨B4, 0, none⟩) m.gs.length m.gs.length))) := T4.out.set 8 (by simp) _
  have X4 : Hid (Ex (w.heap.size + 1 + 1) w4 (w4.setCell ⟨w.heap.size + 1 + 1, 8, none⟩ (.slice (some ⟨B4, 0, none⟩) m.gs.length m.gs.length))) := Ex.set (Ex.refl _ _) 8 _
  have hx1 : Ex (w.heap.size + 1) (w4.setCell ⟨w.heap.size + 1 + 1, 8, none⟩ (.slice (some ⟨B4, 0, none⟩) m.gs.length m.gs.length)) (World.setCells (w4.setCell ⟨w.heap.size + 1 + 1, 8, none⟩ (.slice (some ⟨B4, 0, none⟩) m.gs.length m.gs.length)) (w.heap.size + 1) 0 [.string m.nm, .bool m.up, .int .i64 m.ck, .bool m.kn, .int .i64 m.se, .slice (some ⟨B1, 0, none⟩) m.ws.length m.ws.length, .slice (some ⟨B2, 0, none⟩) m.rs.length m.rs.length, .slice (some ⟨B3, 0, none⟩) m.qs.length m.qs.length, .slice (some ⟨B4, 0, none⟩) m.gs.length m.gs.length]) := (Ex.refl _ _).cells _ _
  have B4' := X4.out.size
  have P4 : Hid (A.RowsAt (World.setCells (w4.setCell ⟨w.heap.size + 1 + 1, 8, none⟩ (.slice (some ⟨B4, 0, none⟩) m.gs.length m.gs.length)) (w.heap.size + 1) 0 [.string m.nm, .bool m.up, .int .i64 m.ck, .bool m.kn, .int .i64 m.se, .slice (some ⟨B1, 0, none⟩) m.ws.length m.ws.length, .slice (some ⟨B2, 0, none⟩) m.rs.length m.rs.length, .slice (some ⟨B3, 0, none⟩) m.qs.length m.qs.length, .slice (some ⟨B4, 0, none⟩) m.gs.length m.gs.length]) B4 0 m.gs) := A.RowsAt.exq (A.RowsAt.exq Q4.out LT4.out X4.out (by have := HB4.out; omega)) (Nat.lt_of_lt_of_le LT4.out X4.out.size) hx1 (by have := HB4.out; omega)
  have P3 : Hid (A.RowsAt (World.setCells (w4.setCell ⟨w.heap.size + 1 + 1, 8, none⟩ (.slice (some ⟨B4, 0, none⟩) m.gs.length m.gs.length)) (w.heap.size + 1) 0 [.string m.nm, .bool m.up, .int .i64 m.ck, .bool m.kn, .int .i64 m.se, .slice (some ⟨B1, 0, none⟩) m.ws.length m.ws.length, .slice (some ⟨B2, 0, none⟩) m.rs.length m.rs.length, .slice (some ⟨B3, 0, none⟩) m.qs.length m.qs.length, .slice (some ⟨B4, 0, none⟩) m.gs.length m.gs.length]) B3 0 m.qs) := A.RowsAt.exq (A.RowsAt.exq ((A.RowsAt.exq Q3.out LT3.out X3.out (by have := HB3.out; omega)).keep (Nat.lt_of_lt_of_le LT3.out X3.out.size) Y4.out) (Nat.lt_of_lt_of_le (Nat.lt_of_lt_of_le LT3.out X3.out.size) Y4.out.size) X4.out (by have := HB3.out; omega)) (Nat.lt_of_lt_of_le (Nat.lt_of_lt_of_le (Nat.lt_of_lt_of_le LT3.out X3.out.size) Y4.out.size) X4.out.size) hx1 (by have := HB3.out; omega)
  have LZ3 : Hid (B3 < w4.heap.size) := Nat.lt_of_lt_of_le (Nat.lt_of_lt_of_le LT3.out X3.out.size) Y4.out.size
  have q2a := RowsAt.exq Q2.out LT2.out X2.out (by have := HB2.out; omega)
  have q2b := q2a.keep (Nat.lt_of_lt_of_le LT2.out X2.out.size) Y3.out
  have z2b : B2 < w3.heap.size := Nat.lt_of_lt_of_le (Nat.lt_of_lt_of_le LT2.out X2.out.size) Y3.out.size
  have q2c := (RowsAt.exq q2b z2b X3.out (by have := HB2.out; omega)).keep (Nat.lt_of_lt_of_le z2b X3.out.size) Y4.out
  have z2c : B2 < w4.heap.size := Nat.lt_of_lt_of_le (Nat.lt_of_lt_of_le z2b X3.out.size) Y4.out.size
  have P2 : Hid (RowsAt (World.setCells (w4.setCell ⟨w.heap.size + 1 + 1, 8, none⟩ (.slice (some ⟨B4, 0, none⟩) m.gs.length m.gs.length)) (w.heap.size + 1) 0 [.string m.nm, .bool m.up, .int .i64 m.ck, .bool m.kn, .int .i64 m.se, .slice (some ⟨B1, 0, none⟩) m.ws.length m.ws.length, .slice (some ⟨B2, 0, none⟩) m.rs.length m.rs.length, .slice (some ⟨B3, 0, none⟩) m.qs.length m.qs.length, .slice (some ⟨B4, 0, none⟩) m.gs.length m.gs.length]) B2 0 m.rs) := RowsAt.exq (RowsAt.exq q2c z2c X4.out (by have := HB2.out; omega)) (Nat.lt_of_lt_of_le z2c X4.out.size) hx1 (by have := HB2.out; omega)
  have q1a := W.RowsAt.exq Q1.out LT1.out X1.out (by have := HB1.out; omega)
  have q1b := q1a.keep (Nat.lt_of_lt_of_le LT1.out X1.out.size) Y2.out
  have z1b : B1 < w2.heap.size := Nat.lt_of_lt_of_le (Nat.lt_of_lt_of_le LT1.out X1.out.size) Y2.out.size
  have q1c := (W.RowsAt.exq q1b z1b X2.out (by have := HB1.out; omega)).keep (Nat.lt_of_lt_of_le z1b X2.out.size) Y3.out
  have z1c : B1 < w3.heap.size := Nat.lt_of_lt_of_le (Nat.lt_of_lt_of_le z1b X2.out.size) Y3.out.size
  have q1d := (W.RowsAt.exq q1c z1c X3.out (by have := HB1.out; omega)).keep (Nat.lt_of_lt_of_le z1c X3.out.size) Y4.out
  have z1d : B1 < w4.heap.size := Nat.lt_of_lt_of_le (Nat.lt_of_lt_of_le z1c X3.out.size) Y4.out.size
  have P1 : Hid (W.RowsAt (World.setCells (w4.setCell ⟨w.heap.size + 1 + 1, 8, none⟩ (.slice (some ⟨B4, 0, none⟩) m.gs.length m.gs.length)) (w.heap.size + 1) 0 [.string m.nm, .bool m.up, .int .i64 m.ck, .bool m.kn, .int .i64 m.se, .slice (some ⟨B1, 0, none⟩) m.ws.length m.ws.length, .slice (some ⟨B2, 0, none⟩) m.rs.length m.rs.length, .slice (some ⟨B3, 0, none⟩) m.qs.length m.qs.length, .slice (some ⟨B4, 0, none⟩) m.gs.length m.gs.length]) B1 0 m.ws) := W.RowsAt.exq (W.RowsAt.exq q1d z1d X4.out (by have := HB1.out; omega)) (Nat.lt_of_lt_of_le z1d X4.out.size) hx1 (by have := HB1.out; omega)
  have zz : w4.heap.size ≤ (World.setCells (w4.setCell ⟨w.heap.size + 1 + 1, 8, none⟩ (.slice (some ⟨B4, 0, none⟩) m.gs.length m.gs.length)) (w.heap.size + 1) 0 [.string m.nm, .bool m.up, .int .i64 m.ck, .bool m.kn, .int .i64 m.se, .slice (some ⟨B1, 0, none⟩) m.ws.length m.ws.length, .slice (some ⟨B2, 0, none⟩) m.rs.length m.rs.length, .slice (some ⟨B3, 0, none⟩) m.qs.length m.qs.length, .slice (some ⟨B4, 0, none⟩) m.gs.length m.gs.length]).heap.size := Nat.le_trans X4.out.size hx1.size
  have LS : Hid (Lists (World.setCells (w4.setCell ⟨w.heap.size + 1 + 1, 8, none⟩ (.slice (some ⟨B4, 0, none⟩) m.gs.length m.gs.length)) (w.heap.size + 1) 0 [.string m.nm, .bool m.up, .int .i64 m.ck, .bool m.kn, .int .i64 m.se, .slice (some ⟨B1, 0, none⟩) m.ws.length m.ws.length, .slice (some ⟨B2, 0, none⟩) m.rs.length m.rs.length, .slice (some ⟨B3, 0, none⟩) m.qs.length m.qs.length, .slice (some ⟨B4, 0, none⟩) m.gs.length m.gs.length]) m B1 B2 B3 B4) := ⟨P1.out, P2.out, P3.out, P4.out, Nat.lt_of_lt_of_le z1d zz, Nat.lt_of_lt_of_le z2c zz, Nat.lt_of_lt_of_le LZ3.out zz, Nat.lt_of_lt_of_le LT4.out zz⟩
  have BE : Hid (Below w.heap.size w (World.setCells (w4.setCell ⟨w.heap.size + 1 + 1, 8, none⟩ (.slice (some ⟨B4, 0, none⟩) m.gs.length m.gs.length)) (w.heap.size + 1) 0 [.string m.nm, .bool m.up, .int .i64 m.ck, .bool m.kn, .int .i64 m.se, .slice (some ⟨B1, 0, none⟩) m.ws.length m.ws.length, .slice (some ⟨B2, 0, none⟩) m.rs.length m.rs.length, .slice (some ⟨B3, 0, none⟩) m.qs.length m.qs.length, .slice (some ⟨B4, 0, none⟩) m.gs.length m.gs.length])) := ⟨hx1.os.trans S4.out.e.os, hx1.tape.trans S4.out.e.tape, hx1.output.trans S4.out.e.output, Nat.le_trans S4.out.e.size hx1.size, fun k hk => (hx1.block k (Nat.lt_of_lt_of_le hk S4.out.e.size) (by omega)).trans (S4.out.e.block k hk)⟩
  have RG : Hid _ := World.rangeAt_setCells_same (w4.setCell ⟨w.heap.size + 1 + 1, 8, none⟩ (.slice (some ⟨B4, 0, none⟩) m.gs.length m.gs.length)) (w.heap.size + 1) 0 [.string m.nm, .bool m.up, .int .i64 m.ck, .bool m.kn, .int .i64 m.se, .slice (some ⟨B1, 0, none⟩) m.ws.length m.ws.length, .slice (some ⟨B2, 0, none⟩) m.rs.length m.rs.length, .slice (some ⟨B3, 0, none⟩) m.qs.length m.qs.length, .slice (some ⟨B4, 0, none⟩) m.gs.length m.gs.length] S4.out.d
  clear q2a q2b q2c z2b z2c q1a q1b q1c q1d z1b z1c z1d zz hx1 P1 P2 P3 P4 LZ3 B4'
  have kd := S4.out.d
  go_wp2_with (refine wpList_store_mid (by rfl) 35 _ _ (by rfl) (w.heap.size + 1) 0 #[.string m.nm, .bool m.up, .int .i64 m.ck, .bool m.kn, .int .i64 m.se, .slice (some ⟨B1, 0, none⟩) m.ws.length m.ws.length, .slice (some ⟨B2, 0, none⟩) m.rs.length m.rs.length, .slice (some ⟨B3, 0, none⟩) m.qs.length m.qs.length, .slice (some ⟨B4, 0, none⟩) m.gs.length m.gs.length] (by rfl) (by rfl) (by exact kd) hinfo (by simp [Value.oneCell']) ?_)
  have hrg := RG.out
  have d0 := hrg 0 _ rfl
  have d1 := hrg 1 _ rfl
  have d2 := hrg 2 _ rfl
  have d3 := hrg 3 _ rfl
  have d4 := hrg 4 _ rfl
  have d5 := hrg 5 _ rfl
  have d6 := hrg 6 _ rfl
  have d7 := hrg 7 _ rfl
  have d8 := hrg 8 _ rfl
  simp only [Nat.zero_add] at d0 d1 d2 d3 d4 d5 d6 d7 d8
  exact bodyPost_ret (v := .agg #[.string m.nm, .bool m.up, .int .i64 m.ck, .bool m.kn, .int .i64 m.se, .slice (some ⟨B1, 0, none⟩) m.ws.length m.ws.length, .slice (some ⟨B2, 0, none⟩) m.rs.length m.rs.length, .slice (some ⟨B3, 0, none⟩) m.qs.length m.qs.length, .slice (some ⟨B4, 0, none⟩) m.gs.length m.gs.length]) (by simp [results, Tryz.results7, go_sem, d0, d1, d2, d3, d4, d5, d6, d7, d8]) rfl ⟨B1, B2, B3, B4, rfl, LS.out, BE.out⟩
end Go.Proofs.YtiogkdafmgdbgaaGreat
