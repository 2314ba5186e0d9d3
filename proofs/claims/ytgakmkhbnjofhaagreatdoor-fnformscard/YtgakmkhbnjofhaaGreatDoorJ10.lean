import Derived.Test.YtgakmkhbnjofhaaGreatDoorJ06
import Derived.Test.YtgakmkhbnjofhaaGreatDoorJ09
import Derived.Deep.RegionHeld3
/- MateRunsOk: what is asked. -/
namespace Go.Proofs.YtgakmkhbnjofhaaGreatDoor
open Go.RowKit
set_option linter.unusedVariables false

def RunD.ok (clock : Int) (r : RunD) : Bool := runB r.c r.h r.v r.p r.s r.d r.g r.a r.b r.i r.u clock
def ascB (q r : RunD) : Bool := Op.bytesLess q.c.toList r.c.toList
/-- What is asked of the run at place j. -/
def stepOk (clock : Int) (rs : List RunD) (j : Nat) (r : RunD) : Bool := r.ok clock && (match j with | 0 => true | i + 1 => match rs[i]? with | some q => ascB q r | none => true)
def AllOk (clock : Int) (rs : List RunD) (n : Nat) : Prop := ∀ j r, j < n → rs[j]? = some r → stepOk clock rs j r = true
theorem AllOk.step {clock : Int} {rs : List RunD} {k : Nat} {r : RunD} (h : AllOk clock rs k) (hr : rs[k]? = some r) (hs : stepOk clock rs k r = true) : AllOk clock rs (k + 1) := by
  intro j q hj hq
  by_cases e : j = k
  · subst e; rw [hr] at hq; cases hq; exact hs
  · exact h j q (by omega) hq
theorem AllOk.not {clock : Int} {rs : List RunD} {k : Nat} {r : RunD} (hlt : k < rs.length) (hr : rs[k]? = some r) (hs : stepOk clock rs k r = false) : (false = true ↔ rs.length ≤ 20 ∧ AllOk clock rs rs.length) := by
  constructor
  · intro h; cases h
  · intro h; have := h.2 k r hlt hr; rw [hs] at this; cases this
theorem AllOk.yes {clock : Int} {rs : List RunD} {k : Nat} (h : AllOk clock rs k) (hk : rs.length ≤ k) (h20 : rs.length ≤ 20) : (true = true ↔ rs.length ≤ 20 ∧ AllOk clock rs rs.length) :=
  ⟨fun _ => ⟨h20, fun j r hj hr => h j r (by omega) hr⟩, fun _ => rfl⟩
theorem AllOk.many {clock : Int} {rs : List RunD} (h20 : 20 < rs.length) : (false = true ↔ rs.length ≤ 20 ∧ AllOk clock rs rs.length) :=
  ⟨fun h => (by cases h), fun h => (by omega)⟩

theorem keep1 {x w' : World} {b off k : Nat} {rs : List RunD} {r : RunD} (hk : rs[k]? = some r) (h1 : RowsAt x b off rs) (l1 : b < x.heap.size) (hb : Below x.heap.size x w') :
    Below x.heap.size x w' ∧ (w'.cell? ⟨b, off + k * 11, none⟩ = some (.string r.c) ∧ w'.cell? ⟨b, off + k * 11 + 1, none⟩ = some (.int .i64 r.v) ∧ w'.cell? ⟨b, off + k * 11 + 2, none⟩ = some (.string r.h) ∧ w'.cell? ⟨b, off + k * 11 + 3, none⟩ = some (.int .i64 r.p) ∧ w'.cell? ⟨b, off + k * 11 + 4, none⟩ = some (.int .i64 r.s) ∧ w'.cell? ⟨b, off + k * 11 + 5, none⟩ = some (.int .i64 r.d) ∧ w'.cell? ⟨b, off + k * 11 + 6, none⟩ = some (.int .i64 r.g) ∧ w'.cell? ⟨b, off + k * 11 + 7, none⟩ = some (.int .i64 r.a) ∧ w'.cell? ⟨b, off + k * 11 + 8, none⟩ = some (.int .i64 r.b) ∧ w'.cell? ⟨b, off + k * 11 + 9, none⟩ = some (.int .i64 r.i) ∧ w'.cell? ⟨b, off + k * 11 + 10, none⟩ = some (.int .i64 r.u)) := ⟨hb, (h1.keep l1 hb).at hk⟩
theorem keep2 {x w' : World} {b off k : Nat} {rs : List RunD} {r q : RunD} (hk : rs[k + 1]? = some r) (hq : rs[k]? = some q) (h1 : RowsAt x b off rs) (l1 : b < x.heap.size) (hb : Below x.heap.size x w') :
    Below x.heap.size x w' ∧ (w'.cell? ⟨b, off + (k + 1) * 11, none⟩ = some (.string r.c) ∧ w'.cell? ⟨b, off + (k + 1) * 11 + 1, none⟩ = some (.int .i64 r.v) ∧ w'.cell? ⟨b, off + (k + 1) * 11 + 2, none⟩ = some (.string r.h) ∧ w'.cell? ⟨b, off + (k + 1) * 11 + 3, none⟩ = some (.int .i64 r.p) ∧ w'.cell? ⟨b, off + (k + 1) * 11 + 4, none⟩ = some (.int .i64 r.s) ∧ w'.cell? ⟨b, off + (k + 1) * 11 + 5, none⟩ = some (.int .i64 r.d) ∧ w'.cell? ⟨b, off + (k + 1) * 11 + 6, none⟩ = some (.int .i64 r.g) ∧ w'.cell? ⟨b, off + (k + 1) * 11 + 7, none⟩ = some (.int .i64 r.a) ∧ w'.cell? ⟨b, off + (k + 1) * 11 + 8, none⟩ = some (.int .i64 r.b) ∧ w'.cell? ⟨b, off + (k + 1) * 11 + 9, none⟩ = some (.int .i64 r.i) ∧ w'.cell? ⟨b, off + (k + 1) * 11 + 10, none⟩ = some (.int .i64 r.u)) ∧ w'.cell? ⟨b, off + k * 11, none⟩ = some (.string q.c) := ⟨hb, (h1.keep l1 hb).at hk, ((h1.keep l1 hb).at hq).1⟩
theorem keep0 {x w' : World} {b off : Nat} {rs : List RunD} {r : RunD} (hk : rs[0]? = some r) (h1 : RowsAt x b off rs) (l1 : b < x.heap.size) (hb : Below x.heap.size x w') :
    Below x.heap.size x w' ∧ (w'.cell? ⟨b, off, none⟩ = some (.string r.c) ∧ w'.cell? ⟨b, off + 1, none⟩ = some (.int .i64 r.v) ∧ w'.cell? ⟨b, off + 2, none⟩ = some (.string r.h) ∧ w'.cell? ⟨b, off + 3, none⟩ = some (.int .i64 r.p) ∧ w'.cell? ⟨b, off + 4, none⟩ = some (.int .i64 r.s) ∧ w'.cell? ⟨b, off + 5, none⟩ = some (.int .i64 r.d) ∧ w'.cell? ⟨b, off + 6, none⟩ = some (.int .i64 r.g) ∧ w'.cell? ⟨b, off + 7, none⟩ = some (.int .i64 r.a) ∧ w'.cell? ⟨b, off + 8, none⟩ = some (.int .i64 r.b) ∧ w'.cell? ⟨b, off + 9, none⟩ = some (.int .i64 r.i) ∧ w'.cell? ⟨b, off + 10, none⟩ = some (.int .i64 r.u)) := by
  have := keep1 (k := 0) hk h1 l1 hb
  simpa using this
end Go.Proofs.YtgakmkhbnjofhaaGreatDoor
