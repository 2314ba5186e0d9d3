/- A mate as a value: what is asked of it. -/
import Derived.Test.YtmfcnckhgeggkabWantsB
import Derived.Test.YtmfcnckhgeggkabRunsS
import Derived.Test.YtmfcnckhgeggkabAsksS
namespace Go.Proofs.Ytmfcnckhgeggkab
open Go.RowKit
set_option linter.unusedVariables false

structure MateD where
  nm : ByteArray
  up : Bool
  ck : Int
  kn : Bool
  se : Int
  ws : List W.WantD
  rs : List RunD
  qs : List A.AskD
  gs : List A.AskD
/-- The four lists of a mate, in four blocks. -/
structure Lists (w : World) (m : MateD) (b1 b2 b3 b4 : Nat) : Prop where
  r1 : W.RowsAt w b1 0 m.ws
  r2 : RowsAt w b2 0 m.rs
  r3 : A.RowsAt w b3 0 m.qs
  r4 : A.RowsAt w b4 0 m.gs
  l1 : b1 < w.heap.size
  l2 : b2 < w.heap.size
  l3 : b3 < w.heap.size
  l4 : b4 < w.heap.size
theorem Lists.keep {w w' : World} {m : MateD} {b1 b2 b3 b4 : Nat} (h : Lists w m b1 b2 b3 b4) (hB : Below w.heap.size w w') : Lists w' m b1 b2 b3 b4 :=
  ⟨h.r1.keep h.l1 hB, h.r2.keep h.l2 hB, h.r3.keep h.l3 hB, h.r4.keep h.l4 hB, Nat.lt_of_lt_of_le h.l1 hB.size, Nat.lt_of_lt_of_le h.l2 hB.size, Nat.lt_of_lt_of_le h.l3 hB.size, Nat.lt_of_lt_of_le h.l4 hB.size⟩
structure MateD.fits (m : MateD) : Prop where
  n : m.nm.size ≤ maxLen
  f1 : ∀ r ∈ m.ws, r.fits
  f2 : ∀ r ∈ m.rs, r.fits
  f3 : ∀ r ∈ m.qs, r.fits
  f4 : ∀ r ∈ m.gs, r.fits
  k1 : m.ws.length ≤ 1048576
  k2 : m.rs.length ≤ 1048576
  k3 : m.qs.length ≤ 1048576
  k4 : m.gs.length ≤ 1048576
/-- Is a mate's first part such (the name, the clock, the number)? -/
def partsB (m : MateD) : Bool := nameB m.nm && (inB m.ck 0 1000000 && inB m.se 0 1000000)
def WantsSay (m : MateD) : Prop := m.ws.length ≤ 10 ∧ W.AllW m.ws m.ws.length
def RunsSay (m : MateD) : Prop := m.rs.length ≤ 20 ∧ AllOk m.ck m.rs m.rs.length
def AskSay (c : Int) (l : List A.AskD) : Prop := l.length ≤ 40 ∧ (A.AscN l l.length ∧ ∀ r ∈ l, A.askB c r = true)
def heldB (r : RunD) : Bool := aliveB r.a || !r.h.toList.isEmpty
def DownSay (m : MateD) : Prop := m.kn = false ∧ m.se = 0 ∧ m.ws.length + m.qs.length + m.gs.length = 0 ∧ ∀ r ∈ m.rs, heldB r = true
/-- A mate is valid. -/
def Valid (m : MateD) : Prop := partsB m = true ∧ (WantsSay m ∧ (m.kn = true ∨ m.ws.length = 0)) ∧ RunsSay m ∧ (AskSay m.ck m.qs ∧ AskSay m.ck m.gs) ∧ (∀ r ∈ m.qs, ¬ A.HasA m.gs r.h) ∧ (m.up = true ∨ DownSay m)
end Go.Proofs.Ytmfcnckhgeggkab
