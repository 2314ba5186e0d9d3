/- MateWantsOk: what is asked. -/
import Derived.Test.YteebdpnpeglimaaDoorWRows1
import Derived.Test.YteebdpnpeglimaaDoorWantB
import Derived.Deep.RegionHeld3
namespace Go.Proofs.YteebdpnpeglimaaDoor.W
open Go.RowKit
set_option linter.unusedVariables false

def WantD.ok (r : WantD) : Bool := wantB r.c r.h r.v r.p r.s r.d r.g
def ascB (q r : WantD) : Bool := Op.bytesLess q.c.toList r.c.toList
/-- Two that would hold one thing. -/
def clash (q r : WantD) : Bool := !r.h.toList.isEmpty && (q.h.toList == r.h.toList)
def Each (ws : List WantD) (n : Nat) : Prop := ∀ j r, j < n → ws[j]? = some r → r.ok = true
def Asc (ws : List WantD) (n : Nat) : Prop := ∀ j q r, j + 1 < n → ws[j]? = some q → ws[j + 1]? = some r → ascB q r = true
def NoneOf (ws : List WantD) (r : WantD) (m : Nat) : Prop := ∀ i q, i < m → ws[i]? = some q → clash q r = false
def Diff (ws : List WantD) (n : Nat) : Prop := ∀ j r, j < n → ws[j]? = some r → NoneOf ws r j
def AllW (ws : List WantD) (n : Nat) : Prop := Each ws n ∧ Asc ws n ∧ Diff ws n
/-- What the answer says. -/
def Says (q : Bool) (ws : List WantD) : Prop := q = true ↔ ws.length ≤ 10 ∧ AllW ws ws.length

theorem Each.step {ws : List WantD} {k : Nat} {r : WantD} (h : Each ws k) (hr : ws[k]? = some r) (hs : r.ok = true) : Each ws (k + 1) := by
  intro j q hj hq
  by_cases e : j = k
  · subst e; rw [hr] at hq; cases hq; exact hs
  · exact h j q (by omega) hq
theorem Asc.step {ws : List WantD} {k : Nat} {q r : WantD} (h : Asc ws (k + 1)) (hq : ws[k]? = some q) (hr : ws[k + 1]? = some r) (hs : ascB q r = true) : Asc ws (k + 1 + 1) := by
  intro j q' r' hj hq' hr'
  by_cases e : j = k
  · subst e; rw [hq] at hq'; rw [hr] at hr'; cases hq'; cases hr'; exact hs
  · exact h j q' r' (by omega) hq' hr'
theorem Asc.one {ws : List WantD} : Asc ws 1 := fun j q r hj _ _ => by omega
theorem NoneOf.step {ws : List WantD} {m : Nat} {q r : WantD} (h : NoneOf ws r m) (hq : ws[m]? = some q) (hs : clash q r = false) : NoneOf ws r (m + 1) := by
  intro i q' hi hq'
  by_cases e : i = m
  · subst e; rw [hq] at hq'; cases hq'; exact hs
  · exact h i q' (by omega) hq'
theorem Diff.step {ws : List WantD} {k : Nat} {r : WantD} (h : Diff ws k) (hr : ws[k]? = some r) (hs : NoneOf ws r k) : Diff ws (k + 1) := by
  intro j q hj hq
  by_cases e : j = k
  · subst e; rw [hr] at hq; cases hq; exact hs
  · exact h j q (by omega) hq
theorem says_no {ws : List WantD} (h : ws.length ≤ 10 → AllW ws ws.length → False) : Says false ws := ⟨fun h' => (by cases h'), fun h' => (h h'.1 h'.2).elim⟩
theorem says_yes {ws : List WantD} {k : Nat} (h : AllW ws k) (hk : ws.length ≤ k) (h10 : ws.length ≤ 10) : Says true ws :=
  ⟨fun _ => ⟨h10, fun j r hj hr => h.1 j r (by omega) hr, fun j q r hj hq hr => h.2.1 j q r (by omega) hq hr, fun j r hj hr => h.2.2 j r (by omega) hr⟩, fun _ => rfl⟩

theorem keep1 {x w' : World} {b off k : Nat} {rs : List WantD} {r : WantD} (hk : rs[k]? = some r) (h1 : RowsAt x b off rs) (l1 : b < x.heap.size) (hb : Below x.heap.size x w') :
    Below x.heap.size x w' ∧ (w'.cell? ⟨b, off + k * 7, none⟩ = some (.string r.c) ∧ w'.cell? ⟨b, off + k * 7 + 1, none⟩ = some (.int .i64 r.v) ∧ w'.cell? ⟨b, off + k * 7 + 2, none⟩ = some (.string r.h) ∧ w'.cell? ⟨b, off + k * 7 + 3, none⟩ = some (.int .i64 r.p) ∧ w'.cell? ⟨b, off + k * 7 + 4, none⟩ = some (.int .i64 r.s) ∧ w'.cell? ⟨b, off + k * 7 + 5, none⟩ = some (.int .i64 r.d) ∧ w'.cell? ⟨b, off + k * 7 + 6, none⟩ = some (.int .i64 r.g)) := ⟨hb, (h1.keep l1 hb).at hk⟩
theorem keep2 {x w' : World} {b off k : Nat} {rs : List WantD} {r q : WantD} (hk : rs[k + 1]? = some r) (hq : rs[k]? = some q) (h1 : RowsAt x b off rs) (l1 : b < x.heap.size) (hb : Below x.heap.size x w') :
    Below x.heap.size x w' ∧ (w'.cell? ⟨b, off + (k + 1) * 7, none⟩ = some (.string r.c) ∧ w'.cell? ⟨b, off + (k + 1) * 7 + 1, none⟩ = some (.int .i64 r.v) ∧ w'.cell? ⟨b, off + (k + 1) * 7 + 2, none⟩ = some (.string r.h) ∧ w'.cell? ⟨b, off + (k + 1) * 7 + 3, none⟩ = some (.int .i64 r.p) ∧ w'.cell? ⟨b, off + (k + 1) * 7 + 4, none⟩ = some (.int .i64 r.s) ∧ w'.cell? ⟨b, off + (k + 1) * 7 + 5, none⟩ = some (.int .i64 r.d) ∧ w'.cell? ⟨b, off + (k + 1) * 7 + 6, none⟩ = some (.int .i64 r.g)) ∧ w'.cell? ⟨b, off + k * 7, none⟩ = some (.string q.c) := ⟨hb, (h1.keep l1 hb).at hk, ((h1.keep l1 hb).at hq).1⟩
theorem keep0 {x w' : World} {b off : Nat} {rs : List WantD} {r : WantD} (hk : rs[0]? = some r) (h1 : RowsAt x b off rs) (l1 : b < x.heap.size) (hb : Below x.heap.size x w') :
    Below x.heap.size x w' ∧ (w'.cell? ⟨b, off, none⟩ = some (.string r.c) ∧ w'.cell? ⟨b, off + 1, none⟩ = some (.int .i64 r.v) ∧ w'.cell? ⟨b, off + 2, none⟩ = some (.string r.h) ∧ w'.cell? ⟨b, off + 3, none⟩ = some (.int .i64 r.p) ∧ w'.cell? ⟨b, off + 4, none⟩ = some (.int .i64 r.s) ∧ w'.cell? ⟨b, off + 5, none⟩ = some (.int .i64 r.d) ∧ w'.cell? ⟨b, off + 6, none⟩ = some (.int .i64 r.g)) := by
  have := keep1 (k := 0) hk h1 l1 hb
  simpa using this
theorem hold_at {x : World} {b off k : Nat} {rs : List WantD} {r : WantD} (hk : rs[k]? = some r) (h1 : RowsAt x b off rs) : x.cell? ⟨b, off + k * 7 + 2, none⟩ = some (.string r.h) := (h1.at hk).2.2.1
end Go.Proofs.YteebdpnpeglimaaDoor.W
