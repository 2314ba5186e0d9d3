import Derived.Test.YtdkjhonaafadjaaGreatJ12
import Derived.Test.YtdkjhonaafadjaaGreatJ04
import Derived.Test.YtdkjhonaafadjaaGreatJ15
import Derived.Test.YtdkjhonaafadjaaGreatJ11
import Derived.Test.YtdkjhonaafadjaaGreatJ08
import Derived.Test.YtdkjhonaafadjaaGreatJ09
import Derived.Test.YtdkjhonaafadjaaGreatJ01
import Derived.Laws.StructEq
import Derived.Maps.OwnSet
import Derived.Sort.KeysCollected
import Derived.Test.YtdkjhonaafadjaaGreatJ13
/- What makes a world ok. -/
namespace Go.Proofs.YtdkjhonaafadjaaGreat
open Go.RowKit
set_option linter.unusedVariables false

def AscM (ms : List MateD) : Prop := ∀ (j : Nat) q r, ms[j]? = some q → ms[j + 1]? = some r → Op.bytesLess q.nm.toList r.nm.toList = true
def MatesSay (ms : List MateD) : Prop := AscM ms ∧ ∀ m ∈ ms, Valid m
def WorldSay (t : Int) (gs : List G.GrantD) (ps : List P.PlaceD) (ms : List MateD) (fs : List ByteArray) : Prop :=
  P.LandSay t gs ps ∧ (1 ≤ ms.length ∧ ms.length ≤ 4) ∧ fs.length ≤ 300 ∧ MatesSay ms
def SaysWd (q : Bool) (t : Int) (gs : List G.GrantD) (ps : List P.PlaceD) (ms : List MateD) (fs : List ByteArray) : Prop := q = true ↔ WorldSay t gs ps ms fs
theorem saysWd_no {t : Int} {gs : List G.GrantD} {ps : List P.PlaceD} {ms : List MateD} {fs : List ByteArray} (h : WorldSay t gs ps ms fs → False) : SaysWd false t gs ps ms fs := ⟨fun h' => (by cases h'), fun h' => (h h').elim⟩
structure WorldFit (gs : List G.GrantD) (ps : List P.PlaceD) (rs : List Mt.MRow) (fs : List ByteArray) : Prop where
  f : P.Fit gs ps
  m : ∀ r ∈ rs, r.m.fits
  l3 : rs.length ≤ 1048576
  l4 : fs.length ≤ 1048576
/-- The first k mates are valid and ascend. -/
def MatesOk (rs : List Mt.MRow) (k : Nat) : Prop := ∀ j r, j < k → rs[j]? = some r → Valid r.m ∧ ∀ i q, j = i + 1 → rs[i]? = some q → Op.bytesLess q.m.nm.toList r.m.nm.toList = true
theorem matesOk_step {rs : List Mt.MRow} {k : Nat} {r : Mt.MRow} (h : MatesOk rs k) (hr : rs[k]? = some r) (hv : Valid r.m) (ha : ∀ i q, k = i + 1 → rs[i]? = some q → Op.bytesLess q.m.nm.toList r.m.nm.toList = true) : MatesOk rs (k + 1) := by
  intro j q hj hq
  by_cases e : j = k
  · subst e; rw [hr] at hq; cases hq; exact ⟨hv, ha⟩
  · exact h j q (by omega) hq
theorem matesOk_iff {rs : List Mt.MRow} : MatesOk rs rs.length ↔ MatesSay (rs.map Mt.MRow.m) := by
  constructor
  · intro h
    constructor
    · intro j q r hq hr
      rw [List.getElem?_map] at hq hr
      obtain ⟨q', hq', rfl⟩ := Option.map_eq_some_iff.1 hq
      obtain ⟨r', hr', rfl⟩ := Option.map_eq_some_iff.1 hr
      exact (h (j + 1) r' (List.getElem?_eq_some_iff.1 hr').1 hr').2 j q' rfl hq'
    · intro m hm
      obtain ⟨r, hr, rfl⟩ := List.mem_map.1 hm
      obtain ⟨j, hj⟩ := List.getElem?_of_mem hr
      exact (h j r (List.getElem?_eq_some_iff.1 hj).1 hj).1
  · intro h j r hj hr
    refine ⟨h.2 r.m (List.mem_map_of_mem (List.mem_of_getElem? hr)), fun i q e hq => ?_⟩
    subst e
    exact h.1 i q.m r.m (by rw [List.getElem?_map, hq]; rfl) (by rw [List.getElem?_map, hr]; rfl)
theorem ascN_iff {rs : List Mt.MRow} : Mt.AscN rs rs.length ↔ AscM (rs.map Mt.MRow.m) := by
  constructor
  · intro h j q r hq hr
    rw [List.getElem?_map] at hq hr
    obtain ⟨q', hq', rfl⟩ := Option.map_eq_some_iff.1 hq
    obtain ⟨r', hr', rfl⟩ := Option.map_eq_some_iff.1 hr
    exact h j q' r' (List.getElem?_eq_some_iff.1 hr').1 hq' hr'
  · intro h j q r _ hq hr
    exact h j q.m r.m (by rw [List.getElem?_map, hq]; rfl) (by rw [List.getElem?_map, hr]; rfl)
theorem inB_len {n : Nat} : inB (n : Int) 1 4 = true ↔ 1 ≤ n ∧ n ≤ 4 := by simp only [inB, Bool.and_eq_true, decide_eq_true_eq]; omega
theorem specValid_t (m : MateD) (b1 b2 b3 b4 : Nat) (w : World) (hL : Lists w m b1 b2 b3 b4) (hf : m.fits) (hv : Valid m) :
    Calls Tryz.prog 36 #[.agg #[.string m.nm, .bool m.up, .int .i64 m.ck, .bool m.kn, .int .i64 m.se, .slice (some ⟨b1, 0, none⟩) m.ws.length m.ws.length, .slice (some ⟨b2, 0, none⟩) m.rs.length m.rs.length, .slice (some ⟨b3, 0, none⟩) m.qs.length m.qs.length, .slice (some ⟨b4, 0, none⟩) m.gs.length m.gs.length]] w fun e w' => e = .returned (.bool true) ∧ Below w.heap.size w w' :=
  (specValid m b1 b2 b3 b4 w hL hf).mono (by rintro e w' ⟨⟨q, rfl, h⟩, hb⟩; exact ⟨by rw [h.2 hv], hb⟩)
theorem specValid_f (m : MateD) (b1 b2 b3 b4 : Nat) (w : World) (hL : Lists w m b1 b2 b3 b4) (hf : m.fits) (hv : ¬ Valid m) :
    Calls Tryz.prog 36 #[.agg #[.string m.nm, .bool m.up, .int .i64 m.ck, .bool m.kn, .int .i64 m.se, .slice (some ⟨b1, 0, none⟩) m.ws.length m.ws.length, .slice (some ⟨b2, 0, none⟩) m.rs.length m.rs.length, .slice (some ⟨b3, 0, none⟩) m.qs.length m.qs.length, .slice (some ⟨b4, 0, none⟩) m.gs.length m.gs.length]] w fun e w' => e = .returned (.bool false) ∧ Below w.heap.size w w' :=
  (specValid m b1 b2 b3 b4 w hL hf).mono (by
    rintro e w' ⟨⟨q, rfl, h⟩, hb⟩
    cases q
    · exact ⟨rfl, hb⟩
    · exact (hv (h.1 rfl)).elim)
theorem rowM {x : World} {b3 k g1 g2 g3 g4 : Nat} {rs : List Mt.MRow} {m : MateD} (h : Mt.RowsAt x b3 0 rs) (hr : rs[k]? = some (⟨m, some ⟨g1, 0, none⟩, m.ws.length, some ⟨g2, 0, none⟩, m.rs.length, some ⟨g3, 0, none⟩, m.qs.length, some ⟨g4, 0, none⟩, m.gs.length⟩ : Mt.MRow)) : x.cell? ⟨b3, k * 9, none⟩ = some (.string m.nm) ∧ x.cell? ⟨b3, k * 9 + 1, none⟩ = some (.bool m.up) ∧ x.cell? ⟨b3, k * 9 + 2, none⟩ = some (.int .i64 m.ck) ∧ x.cell? ⟨b3, k * 9 + 3, none⟩ = some (.bool m.kn) ∧ x.cell? ⟨b3, k * 9 + 4, none⟩ = some (.int .i64 m.se) ∧ x.cell? ⟨b3, k * 9 + 5, none⟩ = some (.slice (some ⟨g1, 0, none⟩) m.ws.length m.ws.length) ∧ x.cell? ⟨b3, k * 9 + 6, none⟩ = some (.slice (some ⟨g2, 0, none⟩) m.rs.length m.rs.length) ∧ x.cell? ⟨b3, k * 9 + 7, none⟩ = some (.slice (some ⟨g3, 0, none⟩) m.qs.length m.qs.length) ∧ x.cell? ⟨b3, k * 9 + 8, none⟩ = some (.slice (some ⟨g4, 0, none⟩) m.gs.length m.gs.length) := by
  have := h.at hr
  simp only [Nat.zero_add] at this
  exact this
theorem rowM0 {x : World} {b3 g1 g2 g3 g4 : Nat} {rs : List Mt.MRow} {m : MateD} (h : Mt.RowsAt x b3 0 rs) (hr : rs[0]? = some (⟨m, some ⟨g1, 0, none⟩, m.ws.length, some ⟨g2, 0, none⟩, m.rs.length, some ⟨g3, 0, none⟩, m.qs.length, some ⟨g4, 0, none⟩, m.gs.length⟩ : Mt.MRow)) : x.cell? ⟨b3, 0, none⟩ = some (.string m.nm) ∧ x.cell? ⟨b3, 1, none⟩ = some (.bool m.up) ∧ x.cell? ⟨b3, 2, none⟩ = some (.int .i64 m.ck) ∧ x.cell? ⟨b3, 3, none⟩ = some (.bool m.kn) ∧ x.cell? ⟨b3, 4, none⟩ = some (.int .i64 m.se) ∧ x.cell? ⟨b3, 5, none⟩ = some (.slice (some ⟨g1, 0, none⟩) m.ws.length m.ws.length) ∧ x.cell? ⟨b3, 6, none⟩ = some (.slice (some ⟨g2, 0, none⟩) m.rs.length m.rs.length) ∧ x.cell? ⟨b3, 7, none⟩ = some (.slice (some ⟨g3, 0, none⟩) m.qs.length m.qs.length) ∧ x.cell? ⟨b3, 8, none⟩ = some (.slice (some ⟨g4, 0, none⟩) m.gs.length m.gs.length) := by
  have := h.at hr
  simp only [Nat.zero_add, Nat.zero_mul] at this
  exact this
theorem rowMn {x : World} {b3 k : Nat} {rs : List Mt.MRow} {q : Mt.MRow} (h : Mt.RowsAt x b3 0 rs) (hr : rs[k]? = some q) : x.cell? ⟨b3, k * 9, none⟩ = some (.string q.m.nm) := by
  have := (h.at hr).1
  simp only [Nat.zero_add] at this
  exact this
theorem wd_box {w w' : World} {t : Int} {gs : List G.GrantD} {ps : List P.PlaceD} {rs : List Mt.MRow} {fs : List ByteArray} {b1 b2 b3 b4 : Nat} (hb : Below (w.alloc (.cells #[.int .i64 t, .slice (some ⟨b1, 0, none⟩) gs.length gs.length, .slice (some ⟨b2, 0, none⟩) ps.length ps.length, .slice (some ⟨b3, 0, none⟩) rs.length rs.length, .slice (some ⟨b4, 0, none⟩) fs.length fs.length] 30)).heap.size (w.alloc (.cells #[.int .i64 t, .slice (some ⟨b1, 0, none⟩) gs.length gs.length, .slice (some ⟨b2, 0, none⟩) ps.length ps.length, .slice (some ⟨b3, 0, none⟩) rs.length rs.length, .slice (some ⟨b4, 0, none⟩) fs.length fs.length] 30)) w') : ∀ k, w'.cell? ⟨w.heap.size, k, none⟩ = (#[.int .i64 t, .slice (some ⟨b1, 0, none⟩) gs.length gs.length, .slice (some ⟨b2, 0, none⟩) ps.length ps.length, .slice (some ⟨b3, 0, none⟩) rs.length rs.length, .slice (some ⟨b4, 0, none⟩) fs.length fs.length] : Array Value)[k]? := by
  intro k
  rw [hb.cell (p := ⟨w.heap.size, k, none⟩) (by simp)]
  simp [go_sem]
end Go.Proofs.YtdkjhonaafadjaaGreat
/- What a world's law carries. -/
namespace Go.Proofs.YtdkjhonaafadjaaGreat
open Go.RowKit
set_option linter.unusedVariables false

theorem world_fit {w : World} {gs : List G.GrantD} {ps : List P.PlaceD} {ms : List Mt.MRow} {fs : List ByteArray} {v1 v2 v3 v4 : Value} (hi : WorldIn w gs ps ms fs v1 v2 v3 v4) (hl : WorldLen gs ps ms fs) : WorldFit gs ps ms fs :=
  ⟨⟨hi.i1.fits, fun p hp => ⟨(hi.i2.inn p hp).1, (hi.i2.inn p hp).2.fits⟩, hl.l1, hl.l2, hl.p⟩,
    fun r hr => ⟨(hi.i3.inn r hr).n, (hi.i3.inn r hr).i1.fits, (hi.i3.inn r hr).i2.fits, (hi.i3.inn r hr).i3.fits, (hi.i3.inn r hr).i4.fits, (hl.m r hr).k1, (hl.m r hr).k2, (hl.m r hr).k3, (hl.m r hr).k4⟩, hl.l3, hl.l4⟩
theorem WorldFit.like {gs : List G.GrantD} {ps qs : List P.PlaceD} {ms rs : List Mt.MRow} {fs : List ByteArray} (h : WorldFit gs ps ms fs) (hp : P.Like qs ps) (hm : Mt.Like rs ms) : WorldFit gs qs rs fs :=
  ⟨h.f.like hp, fun r hr => by obtain ⟨q, hq, e⟩ := hm.mem hr; rw [e]; exact h.m q hq, by rw [hm.len]; exact h.l3, h.l4⟩
theorem world_len {gs : List G.GrantD} {ps : List P.PlaceD} {ms : List Mt.MRow} {fs : List ByteArray} (h : WorldFit gs ps ms fs) : WorldLen gs ps ms fs :=
  ⟨h.f.gl, h.f.pl, h.f.ln, h.l3, fun r hr => ⟨(h.m r hr).k1, (h.m r hr).k2, (h.m r hr).k3, (h.m r hr).k4⟩, h.l4⟩
theorem kWX {X y : World} {t : Int} {gs : List G.GrantD} {qs : List P.PlaceD} {rs : List Mt.MRow} {fs : List ByteArray} {v1 v2 v3 v4 : Value} {e1 e2 e3 e4 : Nat} {B0 B1 : Nat} (h0 : Lx X B0 #[.int .i64 t, v1, v2, v3, v4]) (h1 : Lx X B1 #[.int .i64 t, .slice (some ⟨e1, 0, none⟩) gs.length gs.length, .slice (some ⟨e2, 0, none⟩) qs.length qs.length, .slice (some ⟨e3, 0, none⟩) rs.length rs.length, .slice (some ⟨e4, 0, none⟩) fs.length fs.length]) (hb : Below X.heap.size X y) :
    Below X.heap.size X y ∧ (y.cell? ⟨B0, 0, none⟩ = some (.int .i64 t) ∧ y.cell? ⟨B0, 1, none⟩ = some (v1) ∧ y.cell? ⟨B0, 2, none⟩ = some (v2) ∧ y.cell? ⟨B0, 3, none⟩ = some (v3) ∧ y.cell? ⟨B0, 4, none⟩ = some (v4) ∧ y.cell? ⟨B1, 0, none⟩ = some (.int .i64 t) ∧ y.cell? ⟨B1, 1, none⟩ = some (.slice (some ⟨e1, 0, none⟩) gs.length gs.length) ∧ y.cell? ⟨B1, 2, none⟩ = some (.slice (some ⟨e2, 0, none⟩) qs.length qs.length) ∧ y.cell? ⟨B1, 3, none⟩ = some (.slice (some ⟨e3, 0, none⟩) rs.length rs.length) ∧ y.cell? ⟨B1, 4, none⟩ = some (.slice (some ⟨e4, 0, none⟩) fs.length fs.length)) :=
  ⟨hb, ((h0.keep hb).c 0), ((h0.keep hb).c 1), ((h0.keep hb).c 2), ((h0.keep hb).c 3), ((h0.keep hb).c 4), ((h1.keep hb).c 0), ((h1.keep hb).c 1), ((h1.keep hb).c 2), ((h1.keep hb).c 3), ((h1.keep hb).c 4)⟩
theorem SaysWd.like {q : Bool} {t : Int} {gs : List G.GrantD} {ps qs : List P.PlaceD} {ms : List MateD} {fs : List ByteArray} (h : P.Like ps qs) : WorldSay t gs ps ms fs ↔ WorldSay t gs qs ms fs := by
  unfold WorldSay
  rw [P.like_says h]
end Go.Proofs.YtdkjhonaafadjaaGreat
/- Lists that are given: empty, or they lie in a block. -/
namespace Go.Proofs.YtdkjhonaafadjaaGreat
open Go.RowKit
set_option linter.unusedVariables false

/-- A list of runs that is given: empty, or it lies in a block. -/
def Gv (w : World) (a : Option Addr) (rs : List RunD) : Prop := rs = [] ∨ ∃ b, a = some ⟨b, 0, none⟩ ∧ b < w.heap.size ∧ RowsAt w b 0 rs
theorem Gv.keep {w w' : World} {a : Option Addr} {rs : List RunD} (h : Gv w a rs) (hb : Below w.heap.size w w') : Gv w' a rs := by
  rcases h with h | ⟨b, h1, h2, h3⟩
  · exact Or.inl h
  · exact Or.inr ⟨b, h1, Nat.lt_of_lt_of_le h2 hb.size, h3.keep h2 hb⟩
theorem Sl.gv {w : World} {a : Option Addr} {rs : List RunD} {c B : Nat} (h : Sl w (.slice a rs.length c) rs B) : Gv w a rs := by
  rcases h with ⟨h, rfl⟩ | ⟨g, cap, h0, h1, h2, h3, h4⟩
  · exact Or.inl rfl
  · cases h0; exact Or.inr ⟨g, rfl, h2, h3⟩
def W.Gv (w : World) (a : Option Addr) (ws : List W.WantD) : Prop := ws = [] ∨ ∃ b, a = some ⟨b, 0, none⟩ ∧ b < w.heap.size ∧ W.RowsAt w b 0 ws
theorem W.Gv.keep {w w' : World} {a : Option Addr} {ws : List W.WantD} (h : W.Gv w a ws) (hb : Below w.heap.size w w') : W.Gv w' a ws := by
  rcases h with h | ⟨b, h1, h2, h3⟩
  · exact Or.inl h
  · exact Or.inr ⟨b, h1, Nat.lt_of_lt_of_le h2 hb.size, h3.keep h2 hb⟩
theorem W.Sl.gv {w : World} {a : Option Addr} {rs : List W.WantD} {c B : Nat} (h : W.Sl w (.slice a rs.length c) rs B) : W.Gv w a rs := by
  rcases h with ⟨h, rfl⟩ | ⟨g, cap, h0, h1, h2, h3, h4⟩
  · exact Or.inl rfl
  · cases h0; exact Or.inr ⟨g, rfl, h2, h3⟩
def A.Gv (w : World) (a : Option Addr) (ws : List A.AskD) : Prop := ws = [] ∨ ∃ b, a = some ⟨b, 0, none⟩ ∧ b < w.heap.size ∧ A.RowsAt w b 0 ws
theorem A.Gv.keep {w w' : World} {a : Option Addr} {ws : List A.AskD} (h : A.Gv w a ws) (hb : Below w.heap.size w w') : A.Gv w' a ws := by
  rcases h with h | ⟨b, h1, h2, h3⟩
  · exact Or.inl h
  · exact Or.inr ⟨b, h1, Nat.lt_of_lt_of_le h2 hb.size, h3.keep h2 hb⟩
theorem A.Sl.gv {w : World} {a : Option Addr} {rs : List A.AskD} {c B : Nat} (h : A.Sl w (.slice a rs.length c) rs B) : A.Gv w a rs := by
  rcases h with ⟨h, rfl⟩ | ⟨g, cap, h0, h1, h2, h3, h4⟩
  · exact Or.inl rfl
  · cases h0; exact Or.inr ⟨g, rfl, h2, h3⟩
end Go.Proofs.YtdkjhonaafadjaaGreat
/- The contracts of MateAlive, the program's and the specification's. -/
namespace Go.Proofs.YtdkjhonaafadjaaGreat
open Go.RowKit

theorem implAlive_any (c h : ByteArray) (v p s d g a b i u : Int) (w : World) :
    Calls Tryz.prog 45 #[.agg #[.string c, .int .i64 v, .string h, .int .i64 p, .int .i64 s, .int .i64 d, .int .i64 g, .int .i64 a, .int .i64 b, .int .i64 i, .int .i64 u]] w fun e w' => e = .returned (.bool (aliveB a)) ∧ Below w.heap.size w w' := by
  go_enter Tryz.func45, Tryz.ntmps45
  go_wp2_with (go_at_call 85; refine (alive_any a _).mono ?_; rintro e w' ⟨rfl, rfl⟩)
  go_ret
  exact ⟨rfl, bl_alloc (Below.refl _ _) _⟩

theorem specAlive_any (c h : ByteArray) (v p s d g a b i u : Int) (w : World) :
    Calls Tryz.prog 43 #[.agg #[.string c, .int .i64 v, .string h, .int .i64 p, .int .i64 s, .int .i64 d, .int .i64 g, .int .i64 a, .int .i64 b, .int .i64 i, .int .i64 u]] w fun e w' => e = .returned (.bool (aliveB a)) ∧ Below w.heap.size w w' := by
  by_cases h3 : a = 3
  · subst h3
    go_enter Tryz.func43, Tryz.ntmps43
    go_wp2
    go_ret
    exact ⟨rfl, bl_alloc (Below.refl _ _) _⟩
  · by_cases h4 : a = 4
    · subst h4
      go_enter Tryz.func43, Tryz.ntmps43
      go_wp2
      go_ret
      exact ⟨rfl, bl_alloc (Below.refl _ _) _⟩
    · have e3 : (a == 3) = false := by simpa using h3
      have e4 : (a == 4) = false := by simpa using h4
      have ea : aliveB a = (a == 6) := by simp [aliveB, e3, e4]
      rw [ea]
      clear ea h3 h4
      go_enter Tryz.func43, Tryz.ntmps43
      go_wp2
      go_ret
      exact ⟨rfl, bl_alloc (Below.refl _ _) _⟩
end Go.Proofs.YtdkjhonaafadjaaGreat
/- Lists of runs that are given; those that are alive. -/
namespace Go.Proofs.YtdkjhonaafadjaaGreat
open Go.RowKit
set_option linter.unusedVariables false

theorem filt_no {P : RunD → Bool} {rs : List RunD} {k : Nat} {r : RunD} (hr : rs[k]? = some r) (h : P r = false) : (rs.take (k + 1)).filter P = (rs.take k).filter P := by
  have hlt : k < rs.length := (List.getElem?_eq_some_iff.1 hr).1
  have he : rs[k] = r := by rw [List.getElem?_eq_getElem hlt] at hr; exact Option.some.inj hr
  rw [List.take_succ_eq_append_getElem hlt, List.filter_append, he]
  simp [h]
theorem filt_yes {P : RunD → Bool} {rs : List RunD} {k : Nat} {r : RunD} (hr : rs[k]? = some r) (h : P r = true) : (rs.take (k + 1)).filter P = (rs.take k).filter P ++ [r] := by
  have hlt : k < rs.length := (List.getElem?_eq_some_iff.1 hr).1
  have he : rs[k] = r := by rw [List.getElem?_eq_getElem hlt] at hr; exact Option.some.inj hr
  rw [List.take_succ_eq_append_getElem hlt, List.filter_append, he]
  simp [h]
theorem flatR_append (xs ys : List RunD) : flatR (xs ++ ys) = flatR xs ++ flatR ys := by simp [flatR]

set_option maxRecDepth 4000 in
set_option maxHeartbeats 1000000 in
theorem filterAlive (a : Option Addr) (cap : Nat) (rs : List RunD) (w : World) (hG : Gv w a rs) (hl : rs.length ≤ 1048576) :
    Calls Tryz.prog 44 #[.slice a rs.length cap, .func (.func 45) #[] #[]] w fun e w' => (∃ v, e = .returned v ∧ Sl w' v (rs.filter (fun r => aliveB r.a)) w.heap.size) ∧ Below w.heap.size w w' := by
  obtain ⟨i0, hi, hz0, hz1, hz2⟩ := info_parts infoR
  go_enter Tryz.func44, Tryz.ntmps44
  go_wp2
  go_loopw [5, 10] (fun v i wx => ∃ (k : Nat), k ≤ rs.length ∧ i = .int .i64 k ∧ wx.ownsRow w.heap.size 70 11 v ((rs.take k).filter (fun r => aliveB r.a)).length (flatR ((rs.take k).filter (fun r => aliveB r.a))) ∧ Below w.heap.size w wx) (fun _ i _ => rs.length - (intOf i).toNat)
  case atStart => exact ⟨0, Nat.zero_le _, rfl, World.ownsRow_nil _ _ _ _, Below.refl _ _⟩
  case round =>
    obtain ⟨k, hk, rfl, hown, hB⟩ := hrel
    by_cases hlt : k < rs.length
    · obtain ⟨b, rfl, l1, hR⟩ := hG.resolve_left (fun h => by rw [h] at hlt; simp at hlt)
      obtain ⟨r, hr⟩ : ∃ r, rs[k]? = some r := ⟨rs[k], List.getElem?_eq_getElem hlt⟩
      have Hr : Hid _ := hr
      obtain ⟨c0, c1, c2, c3, c4, c5, c6, c7, c8, c9, c10⟩ := (hR.keep l1 hB).at hr
      simp only [Nat.zero_add] at c0 c1 c2 c3 c4 c5 c6 c7 c8 c9 c10
      obtain ⟨n, hn⟩ : ∃ n, n = ((rs.take k).filter (fun r => aliveB r.a)).length := ⟨_, rfl⟩
      obtain ⟨xs, hxs⟩ : ∃ xs, xs = flatR ((rs.take k).filter (fun r => aliveB r.a)) := ⟨_, rfl⟩
      have hnk : n ≤ 1048576 := by rw [hn]; exact Nat.le_trans (List.length_filter_le _ _) (by rw [List.length_take]; omega)
      rw [← hn, ← hxs] at hown
      have Ho : Hid _ := hown
      have Hn : Hid _ := hn
      have Hx : Hid _ := hxs
      clear hr hown hn hxs hG
      go_wp2_with fail
      refine (implAlive_any r.c r.h r.v r.p r.s r.d r.g r.a r.b r.i r.u _).mono ?_
      rintro e w1 ⟨rfl, hb⟩
      have hB1 := bl_trans (bl_alloc hB _) hb
      have hb2 : Below wr.heap.size wr w1 := bl_trans (bl_alloc (Below.refl _ _) _) hb
      have Ho1 : Hid (w1.ownsRow w.heap.size 70 11 u5 n xs) := owns_below Ho.out hb2
      have kb := box_keep hb
      have kz : wr.heap.size < w1.heap.size := by have := hb.size; simp at this; omega
      have Hb1 : Hid (Below w.heap.size w w1) := hB1
      clear c0 c1 c2 c3 c4 c5 c6 c7 c8 c9 c10 hb hb2 hB1 Ho
      cases hP : aliveB r.a
      · go_wp2
        refine ⟨⟨k + 1, by omega, by go_num, ?_, Hb1.out⟩, by simp [intOf]; omega⟩
        have hr := Hr.out
        rw [filt_no hr (by simp [hP]), ← Hn.out, ← Hx.out]
        exact Ho1.out
      · go_wp2_with (at_builtin; refine wpList_append_own _ rfl _ _ 49 rfl w.heap.size 70 i0 _ 11 104 Tryz.underlying49 hi hz0 hz1 hz2 rfl (by decide) _ n _ rfl (by exact owns_below Ho1.out (bl_alloc (Below.refl _ _) _)) ⟨_, 0, none⟩ 1 1 r.cells rfl rfl (new_cells _ _ (by simp) _ _ _ rfl) (cellsR_one _) (by unfold maxLen; omega) (by omega) (by have := Hb1.out.size; simp; omega) ?_; intro v' w2 ho2 hg2 hn2)
        refine ⟨⟨k + 1, by omega, by go_num, ?_, Below.grown (bl_alloc Hb1.out _) hg2 (by have := Hb1.out.size; simp; omega) (owns_ge Ho1.out)⟩, by simp [intOf]; omega⟩
        have hr := Hr.out
        rw [filt_yes hr (by simp [hP]), List.length_append, flatR_append, ← Hn.out, ← Hx.out]
        simpa [flatR] using ho2
    · go_wp2
      go_ret
      have hk' : k = rs.length := by omega
      subst hk'
      rw [List.take_of_length_le (Nat.le_refl _)] at hown
      exact ⟨⟨_, rfl, Sl.of_owns hown⟩, hB⟩
end Go.Proofs.YtdkjhonaafadjaaGreat
/- What makes a world safe. -/
namespace Go.Proofs.YtdkjhonaafadjaaGreat
open Go.RowKit
set_option linter.unusedVariables false

def wantOf (r : RunD) : W.WantD := ⟨r.c, r.h, r.v, r.p, r.s, r.d, r.g⟩
/-- What is wanted of the runs that are alive. -/
def livesOf (l : List RunD) : List W.WantD := (l.filter (fun r => aliveB r.a)).map wantOf
def living (rs : List Mt.MRow) : List W.WantD := rs.flatMap (fun r => livesOf r.m.rs)
def SafeSay (ms : List MateD) : Prop := (ms.flatMap (fun m => livesOf m.rs)).Pairwise (fun q r => W.clash q r = false)
theorem living_map (rs : List Mt.MRow) : (rs.map Mt.MRow.m).flatMap (fun m => livesOf m.rs) = living rs := by
  unfold living
  induction rs with
  | nil => rfl
  | cons r rs ih => simp only [List.map_cons, List.flatMap_cons, ih]
/-- Those of the first i mates, and of the first k runs of the next. -/
def livK (rs : List Mt.MRow) (l : List RunD) (i k : Nat) : List W.WantD := living (rs.take i) ++ livesOf (l.take k)
theorem livK_zero (rs : List Mt.MRow) (l : List RunD) (i : Nat) : livK rs l i 0 = living (rs.take i) := by simp [livK, livesOf]
theorem livK_no {rs : List Mt.MRow} {l : List RunD} {i k : Nat} {r : RunD} (hr : l[k]? = some r) (h : aliveB r.a = false) : livK rs l i (k + 1) = livK rs l i k := by
  unfold livK livesOf
  rw [filt_no (P := fun r => aliveB r.a) hr h]
theorem livK_yes {rs : List Mt.MRow} {l : List RunD} {i k : Nat} {r : RunD} (hr : l[k]? = some r) (h : aliveB r.a = true) : livK rs l i (k + 1) = livK rs l i k ++ [wantOf r] := by
  unfold livK livesOf
  rw [filt_yes (P := fun r => aliveB r.a) hr h, List.map_append, List.append_assoc]
  rfl
theorem living_step {rs : List Mt.MRow} {i : Nat} {r : Mt.MRow} (hr : rs[i]? = some r) : living (rs.take (i + 1)) = livK rs r.m.rs i r.m.rs.length := by
  have hlt : i < rs.length := (List.getElem?_eq_some_iff.1 hr).1
  have he : rs[i] = r := by rw [List.getElem?_eq_getElem hlt] at hr; exact Option.some.inj hr
  unfold livK living
  rw [List.take_succ_eq_append_getElem hlt, List.flatMap_append, he, List.take_of_length_le (Nat.le_refl _)]
  simp
theorem living_pre {rs : List Mt.MRow} {i k : Nat} {r : Mt.MRow} (hr : rs[i]? = some r) : ∃ z, living rs = livK rs r.m.rs i k ++ z := by
  have hlt : i < rs.length := (List.getElem?_eq_some_iff.1 hr).1
  have he : rs[i] = r := by rw [List.getElem?_eq_getElem hlt] at hr; exact Option.some.inj hr
  refine ⟨livesOf (r.m.rs.drop k) ++ living (rs.drop (i + 1)), ?_⟩
  have h1 : rs = rs.take i ++ (r :: rs.drop (i + 1)) := by
    have := List.take_append_drop i rs
    rw [List.drop_eq_getElem_cons hlt, he] at this
    exact this.symm
  have h2 : livesOf r.m.rs = livesOf (r.m.rs.take k) ++ livesOf (r.m.rs.drop k) := by
    unfold livesOf
    rw [← List.map_append, ← List.filter_append, List.take_append_drop]
  have h3 : living rs = living (rs.take i) ++ (livesOf r.m.rs ++ living (rs.drop (i + 1))) := by
    conv => lhs; rw [h1]
    unfold living
    rw [List.flatMap_append, List.flatMap_cons]
  rw [h3, h2]
  simp [livK, List.append_assoc]
theorem livesOf_len (l : List RunD) : (livesOf l).length ≤ l.length := by
  unfold livesOf
  rw [List.length_map]
  exact List.length_filter_le _ _
theorem living_len (rs : List Mt.MRow) (h : ∀ r ∈ rs, r.m.rs.length ≤ 20) : (living rs).length ≤ rs.length * 20 := by
  induction rs with
  | nil => simp [living]
  | cons r rs ih =>
    have h1 := ih (fun q hq => h q (List.mem_cons_of_mem _ hq))
    have h2 := h r (List.mem_cons_self ..)
    have h3 := livesOf_len r.m.rs
    unfold living at h1 ⊢
    rw [List.flatMap_cons, List.length_append, List.length_cons]
    omega
theorem livK_len {rs : List Mt.MRow} {l : List RunD} {i k : Nat} (h : ∀ r ∈ rs, r.m.rs.length ≤ 20) (h4 : rs.length ≤ 4) (hl : l.length ≤ 20) : (livK rs l i k).length ≤ 100 := by
  unfold livK
  rw [List.length_append]
  have h1 := living_len (rs.take i) (fun r hr => h r (List.mem_of_mem_take hr))
  have h2 := livesOf_len (l.take k)
  rw [List.length_take] at h1 h2
  omega
/-- The holds that are there. -/
def heldOf (l : List W.WantD) : List ByteArray := (l.filter (fun r => !r.h.toList.isEmpty)).map (·.h)
theorem heldOf_no {l : List W.WantD} {r : W.WantD} (h : r.h.toList.isEmpty = true) : heldOf (l ++ [r]) = heldOf l := by simp [heldOf, List.filter_append, h]
theorem heldOf_yes {l : List W.WantD} {r : W.WantD} (h : r.h.toList.isEmpty = false) : heldOf (l ++ [r]) = heldOf l ++ [r.h] := by simp [heldOf, List.filter_append, h]
theorem heldOf_len (l : List W.WantD) : (heldOf l).length ≤ l.length := by
  unfold heldOf
  rw [List.length_map]
  exact List.length_filter_le _ _
def PwN (l : List W.WantD) : Prop := l.Pairwise (fun q r => W.clash q r = false)
theorem pw_snoc {l : List W.WantD} {r : W.WantD} (h : PwN l) (hn : ∀ x ∈ heldOf l, x.toList ≠ r.h.toList) : PwN (l ++ [r]) := by
  unfold PwN at *
  rw [List.pairwise_append]
  refine ⟨h, List.pairwise_singleton _ _, fun q hq x hx => ?_⟩
  obtain rfl := List.mem_singleton.1 hx
  unfold W.clash
  cases hr : x.h.toList.isEmpty
  · cases hqq : q.h.toList == x.h.toList
    · rfl
    · have e := eq_of_beq hqq
      have hm : q.h ∈ heldOf l := List.mem_map_of_mem (List.mem_filter.2 ⟨hq, by rw [e, hr]; rfl⟩)
      exact (hn q.h hm e).elim
  · rfl
theorem pw_snoc_empty {l : List W.WantD} {r : W.WantD} (h : PwN l) (he : r.h.toList.isEmpty = true) : PwN (l ++ [r]) := by
  unfold PwN at *
  rw [List.pairwise_append]
  refine ⟨h, List.pairwise_singleton _ _, fun q hq x hx => ?_⟩
  obtain rfl := List.mem_singleton.1 hx
  simp [W.clash, he]
theorem not_pw {l z : List W.WantD} {r : W.WantD} {x : ByteArray} (hx : x ∈ heldOf l) (he : x.toList = r.h.toList) : ¬ PwN ((l ++ [r]) ++ z) := by
  intro h
  have h1 : PwN (l ++ [r]) := (List.pairwise_append.1 h).1
  obtain ⟨q, hq, rfl⟩ := List.mem_map.1 hx
  obtain ⟨hq1, hq2⟩ := List.mem_filter.1 hq
  have h2 := (List.pairwise_append.1 h1).2.2 q hq1 r (List.mem_singleton.2 rfl)
  have h3 : r.h.toList.isEmpty = false := by rw [← he]; simpa using hq2
  unfold W.clash at h2
  rw [h3, he] at h2
  simp at h2
theorem safe_no {rs : List Mt.MRow} {i k : Nat} {m : Mt.MRow} {r : RunD} {x : ByteArray} (hm : rs[i]? = some m) (hr : m.m.rs[k]? = some r) (ha : aliveB r.a = true) (hx : x ∈ heldOf (livK rs m.m.rs i k)) (he : x.toList = r.h.toList) : ¬ SafeSay (rs.map Mt.MRow.m) := by
  unfold SafeSay
  rw [living_map]
  obtain ⟨z, hz⟩ := living_pre (k := k + 1) hm
  rw [hz, livK_yes hr ha]
  exact not_pw hx he
/-- What the answer says. -/
def SafeOk (t : Int) (gs : List G.GrantD) (ps : List P.PlaceD) (ms : List MateD) (fs : List ByteArray) : Prop := WorldSay t gs ps ms fs ∧ SafeSay ms
theorem world_runs {t : Int} {gs : List G.GrantD} {ps : List P.PlaceD} {rs : List Mt.MRow} {fs : List ByteArray} (h : WorldSay t gs ps (rs.map Mt.MRow.m) fs) : (∀ r ∈ rs, r.m.rs.length ≤ 20) ∧ rs.length ≤ 4 :=
  ⟨fun r hr => (h.2.2.2.2 r.m (List.mem_map_of_mem hr)).2.2.1.1, by have := h.2.1.2; rw [List.length_map] at this; exact this⟩
end Go.Proofs.YtdkjhonaafadjaaGreat
/- Are two wants the same? -/
namespace Go.Proofs.YtdkjhonaafadjaaGreat
open Go.RowKit
set_option linter.unusedVariables false

theorem bytes_ext {a b : ByteArray} (h : a.toList = b.toList) : a = b := by
  rw [ByteArray.toList_eq, ByteArray.toList_eq] at h
  obtain ⟨⟨a⟩⟩ := a
  obtain ⟨⟨b⟩⟩ := b
  simpa using h
/-- Are two wants the same? -/
def sameW (c h c2 h2 : ByteArray) (v p s d g v2 p2 s2 d2 g2 : Int) : Bool := c2.toList == c.toList && (v2 == v && (h2.toList == h.toList && (p2 == p && (s2 == s && (d2 == d && g2 == g)))))
theorem eql_want (c h c2 h2 : ByteArray) (v p s d g v2 p2 s2 d2 g2 : Int) (w : World) : Sem.run Tryz.prog (binOp .eql 68 (.agg #[.string c2, .int .i64 v2, .string h2, .int .i64 p2, .int .i64 s2, .int .i64 d2, .int .i64 g2]) (.agg #[.string c, .int .i64 v, .string h, .int .i64 p, .int .i64 s, .int .i64 d, .int .i64 g])) w = .ok (.bool (sameW c h c2 h2 v p s d g v2 p2 s2 d2 g2)) w := by
  unfold sameW
  rw [run_eql_struct, run_equalIn_agg _ _ _ _ _ (by kernel_rfl) (by kernel_rfl)]
  simp only [Program.fieldsOf, Tryz.underlying68, Op.eqFields]
  simp [go_sem, Tryz.underlying9, Tryz.underlying3]
  (repeat' split) <;> simp_all
theorem neq_want (c h c2 h2 : ByteArray) (v p s d g v2 p2 s2 d2 g2 : Int) (w : World) : Sem.run Tryz.prog (binOp .neq 68 (.agg #[.string c2, .int .i64 v2, .string h2, .int .i64 p2, .int .i64 s2, .int .i64 d2, .int .i64 g2]) (.agg #[.string c, .int .i64 v, .string h, .int .i64 p, .int .i64 s, .int .i64 d, .int .i64 g])) w = .ok (.bool (!sameW c h c2 h2 v p s d g v2 p2 s2 d2 g2)) w := by
  have hq := eql_want c h c2 h2 v p s d g v2 p2 s2 d2 g2 w
  rw [run_eql_struct] at hq
  rw [run_neq_struct]
  cases hr : (Op.equalIn 10000 68 (.agg #[.string c2, .int .i64 v2, .string h2, .int .i64 p2, .int .i64 s2, .int .i64 d2, .int .i64 g2]) (.agg #[.string c, .int .i64 v, .string h, .int .i64 p, .int .i64 s, .int .i64 d, .int .i64 g])).run Tryz.prog w with
  | ok b w1 => rw [hr] at hq; simp at hq ⊢; obtain ⟨rfl, rfl⟩ := hq; simp
  | halt x w1 => rw [hr] at hq; simp [Result.andThen] at hq
theorem same_iff (q r : W.WantD) : sameW r.c r.h q.c q.h r.v r.p r.s r.d r.g q.v q.p q.s q.d q.g = true ↔ q = r := by
  obtain ⟨qc, qh, qv, qp, qs, qd, qg⟩ := q
  obtain ⟨rc, rh, rv, rp, rs, rd, rg⟩ := r
  simp only [sameW, Bool.and_eq_true, beq_iff_eq, W.WantD.mk.injEq]
  constructor
  · rintro ⟨h1, h2, h3, h4, h5, h6, h7⟩
    exact ⟨bytes_ext h1, bytes_ext h3, h2, h4, h5, h6, h7⟩
  · rintro ⟨h1, h2, h3, h4, h5, h6, h7⟩
    exact ⟨by rw [h1], h3, by rw [h2], h4, h5, h6, h7⟩
end Go.Proofs.YtdkjhonaafadjaaGreat
/- Names in order; a list as what a map holds. -/
namespace Go.Proofs.YtdkjhonaafadjaaGreat.Ord
open Go.Maps Go.WideMaps
set_option linter.unusedVariables false
set_option linter.unusedSectionVars false

theorem ba_ext {x y : ByteArray} (h : x.data.toList = y.data.toList) : x = y := by
  obtain ⟨⟨a⟩⟩ := x
  obtain ⟨⟨b⟩⟩ := y
  simp at h
  rw [h]
theorem less_before : ∀ (x y : List UInt8), Op.bytesLess x y = bytesBefore x y
  | [], [] => rfl
  | [], _ :: _ => rfl
  | _ :: _, [] => rfl
  | a :: x, b :: y => by rw [Op.bytesLess, bytesBefore, less_before x y]
theorem lt_of_less : ∀ (x y : List UInt8), Op.bytesLess x y = decide (x < y)
  | [], [] => by simp [Op.bytesLess]
  | _ :: _, [] => by simp [Op.bytesLess]
  | [], _ :: _ => by simp [Op.bytesLess]
  | a :: x, b :: y => by
    rw [Op.bytesLess, lt_of_less x y]
    simp only [List.cons_lt_cons_iff]
    by_cases h1 : a < b <;> by_cases h2 : a = b <;> by_cases h3 : x < y <;> simp [h1, h2, h3]
theorem before_asymm {x y : List UInt8} (h : bytesBefore x y = true) : bytesBefore y x = false := by
  cases h' : bytesBefore y x
  · rfl
  · have := WideShapes.bytes_trans x y x h h'
    rw [WideAt.bytes_irrefl] at this; cases this
theorem before_ne {x y : List UInt8} (h : bytesBefore x y = true) : x ≠ y := fun e => by
  subst e; rw [WideAt.bytes_irrefl] at h; cases h

section
variable {α : Type} (key : α → List UInt8)
/-- Ascending by their names. -/
def Srt (l : List α) : Prop := l.Pairwise (fun q r => bytesBefore (key q) (key r) = true)
/-- What a map holds that a list is put into. -/
def dec (l : List α) : DataW α := .map (l.map fun r => (Lit.string (key r), .held r))
def insL (r : α) : List α → List α
  | [] => [r]
  | y :: l => if bytesBefore (key r) (key y) then r :: y :: l else y :: insL r l
def ins (r : α) (l : List α) : List α := insL key r (l.filter (fun y => !(key y == key r)))
def out (k : List UInt8) (l : List α) : List α := l.filter (fun y => !(key y == k))
theorem insert_dec (r : α) : ∀ l : List α, DataW.insert (Lit.string (key r), .held r) (l.map fun r => (Lit.string (key r), DataW.held r)) = (insL key r l).map fun r => (Lit.string (key r), .held r)
  | [] => rfl
  | y :: l => by
    show (if bytesBefore (key r) (key y) then _ else _) = _
    rw [insL]
    split
    · rfl
    · rw [List.map_cons]; congr 1; exact insert_dec r l
theorem filter_dec (k : List UInt8) (l : List α) : (l.map fun r => (Lit.string (key r), (DataW.held r : DataW α))).filter (fun p => !p.1.sameKey (Lit.string k)) = (out key k l).map fun r => (Lit.string (key r), .held r) := by
  unfold out
  rw [List.filter_map]
  rfl
theorem dec_put (r : α) (l : List α) : (dec key l).put (Lit.string (key r)) (.held r) = dec key (ins key r l) := by
  show DataW.map (DataW.insert _ _) = _
  rw [filter_dec, insert_dec]
  rfl
theorem dec_del (k : List UInt8) (l : List α) : (dec key l).del (Lit.string k) = dec key (out key k l) := by
  show DataW.map _ = _
  rw [filter_dec]
  rfl
theorem dec_has (k : List UInt8) (l : List α) : has (dec key l) (Lit.string k) = l.any (fun y => key y == k) := by
  show (l.map _).any _ = _
  rw [List.any_map]
  rfl
theorem dec_size (l : List α) : size (dec key l) = l.length := by
  show (l.map _).length = _
  simp
theorem dec_at {l : List α} {r : α} (hs : Srt key l) (hr : r ∈ l) (z : DataW α) : (dec key l).atKey (Lit.string (key r)) z = .held r := by
  refine WideAt.atKey_mem z trivial ?_ (List.mem_map.2 ⟨r, hr, rfl⟩)
  rw [List.pairwise_map]
  exact hs.imp (fun h e => before_ne h (Lit.string.inj e))
theorem dec_none {l : List α} {k : List UInt8} (h : l.any (fun y => key y == k) = false) (z : DataW α) : (dec key l).atKey (Lit.string k) z = z :=
  atKey_of_not_has (by rw [dec_has]; exact h) z
theorem ins_last {l : List α} {r : α} (h : ∀ y ∈ l, bytesBefore (key y) (key r) = true) : ins key r l = l ++ [r] := by
  have e : l.filter (fun y => !(key y == key r)) = l := List.filter_eq_self.2 (fun y hy => by simp [before_ne (h y hy)])
  unfold ins
  rw [e]
  clear e
  induction l with
  | nil => rfl
  | cons y l ih =>
    rw [insL, if_neg (by rw [before_asymm (h y (List.mem_cons_self ..))]; simp), ih (fun z hz => h z (List.mem_cons_of_mem _ hz)), List.cons_append]
theorem keys_dec (l : List α) : strKeys (dec key l) = l.map key := by
  show (l.map _).map _ = _
  rw [List.map_map]
  rfl
theorem before_le {x y : List UInt8} (h : bytesBefore x y = true) : x ≤ y := by
  have h1 : Op.bytesLess x y = true := by rw [less_before]; exact h
  rw [lt_of_less] at h1
  exact List.le_of_lt (of_decide_eq_true h1)
theorem sorted_keys {l : List α} (hs : Srt key l) {ss : List (List UInt8)} (hp : ss.Perm (strKeys (dec key l))) : ss.mergeSort (fun x y => decide (x ≤ y)) = l.map key := by
  have h1 : ss.mergeSort leB = (l.map key).mergeSort leB := by rw [← keys_dec key l]; exact mergeSort_of_perm hp
  rw [show ss.mergeSort (fun x y => decide (x ≤ y)) = ss.mergeSort leB from rfl, h1]
  refine List.mergeSort_of_pairwise ?_
  rw [List.pairwise_map]
  exact hs.imp (fun h => by simpa [leB] using before_le h)
theorem take_last {l : List α} {k : Nat} {r : α} (hs : Srt key l) (hr : l[k]? = some r) : ins key r (l.take k) = l.take (k + 1) := by
  have hlt : k < l.length := (List.getElem?_eq_some_iff.1 hr).1
  have he : l[k] = r := by rw [List.getElem?_eq_getElem hlt] at hr; exact Option.some.inj hr
  rw [List.take_succ_eq_append_getElem hlt, he]
  refine ins_last key (fun y hy => ?_)
  obtain ⟨i, hi⟩ := List.getElem?_of_mem hy
  rw [List.getElem?_take] at hi
  split at hi
  · rename_i hik
    obtain ⟨hil, rfl⟩ := List.getElem?_eq_some_iff.1 hi
    have := List.pairwise_iff_getElem.1 hs i k hil hlt hik
    rw [he] at this
    exact this
  · cases hi
theorem srt_of (l : List α) (h : ∀ j q r, l[j]? = some q → l[j + 1]? = some r → bytesBefore (key q) (key r) = true) : Srt key l := by
  induction l with
  | nil => exact List.Pairwise.nil
  | cons x l ih =>
    have ih' := ih (fun j q r hq hr => h (j + 1) q r (by simpa using hq) (by simpa using hr))
    refine List.Pairwise.cons ?_ ih'
    cases l with
    | nil => intro y hy; cases hy
    | cons y l =>
      have hxy := h 0 x y rfl rfl
      intro z hz
      rcases List.mem_cons.1 hz with rfl | hz
      · exact hxy
      · exact WideShapes.bytes_trans _ _ _ hxy (List.rel_of_pairwise_cons ih' hz)
end
end Go.Proofs.YtdkjhonaafadjaaGreat.Ord
/- What makes a world settled. -/
namespace Go.Proofs.YtdkjhonaafadjaaGreat
open Go.RowKit
set_option linter.unusedVariables false

/-- What is wanted at a berth. -/
def wantsAt (ps : List P.PlaceD) (nm : ByteArray) : List W.WantD := ps.foldl (fun acc p => if p.b.toList == nm.toList then p.ws else acc) []
theorem wantsAt_step {ps : List P.PlaceD} {k : Nat} {p : P.PlaceD} (nm : ByteArray) (hp : ps[k]? = some p) : wantsAt (ps.take (k + 1)) nm = if p.b.toList == nm.toList then p.ws else wantsAt (ps.take k) nm := by
  have hlt : k < ps.length := (List.getElem?_eq_some_iff.1 hp).1
  have he : ps[k] = p := by rw [List.getElem?_eq_getElem hlt] at hp; exact Option.some.inj hp
  unfold wantsAt
  rw [List.take_succ_eq_append_getElem hlt, List.foldl_append, he]
  rfl
def SettM (ps : List P.PlaceD) (m : MateD) : Prop := m.up = true ∧ (∀ r ∈ m.rs, r.a = 4) ∧ m.rs.map wantOf = wantsAt ps m.nm
def SettledOk (t : Int) (gs : List G.GrantD) (ps : List P.PlaceD) (ms : List MateD) (fs : List ByteArray) : Prop := WorldSay t gs ps ms fs ∧ ∀ m ∈ ms, SettM ps m
theorem wantsAt_like {ps qs : List P.PlaceD} (h : P.Like ps qs) (nm : ByteArray) : wantsAt ps nm = wantsAt qs nm := by
  have key : ∀ (l : List P.PlaceD) (acc : List W.WantD), l.foldl (fun acc p => if p.b.toList == nm.toList then p.ws else acc) acc = (l.map P.PlaceD.says).foldl (fun acc s => if s.1.toList == nm.toList then s.2.2 else acc) acc := by
    intro l
    induction l with
    | nil => intro acc; rfl
    | cons p l ih => intro acc; simp only [List.foldl_cons, List.map_cons]; exact ih _
  unfold wantsAt
  rw [key ps, key qs, h]
theorem settled_like {t : Int} {gs : List G.GrantD} {ps qs : List P.PlaceD} {ms : List MateD} {fs : List ByteArray} (h : P.Like ps qs) (hw : WorldSay t gs ps ms fs ↔ WorldSay t gs qs ms fs) : SettledOk t gs ps ms fs ↔ SettledOk t gs qs ms fs := by
  unfold SettledOk SettM
  rw [hw]
  simp only [wantsAt_like h]
/-- The places have names of their own. -/
def Apart2 (ps : List P.PlaceD) : Prop := ps.Pairwise (fun p q => p.b.toList ≠ q.b.toList)
theorem wantsAt_none {ps : List P.PlaceD} {nm : ByteArray} (h : ∀ p ∈ ps, p.b.toList ≠ nm.toList) : wantsAt ps nm = [] := by
  unfold wantsAt
  have key : ∀ (l : List P.PlaceD) (acc : List W.WantD), (∀ p ∈ l, p.b.toList ≠ nm.toList) → l.foldl (fun acc p => if p.b.toList == nm.toList then p.ws else acc) acc = acc := by
    intro l
    induction l with
    | nil => intro acc _; rfl
    | cons p l ih =>
      intro acc hh
      have h1 : (p.b.toList == nm.toList) = false := by simpa using hh p (List.mem_cons_self ..)
      simp only [List.foldl_cons, h1, Bool.false_eq_true, if_false]
      exact ih _ (fun q hq => hh q (List.mem_cons_of_mem _ hq))
  exact key ps [] h
theorem wantsAt_mem {ps : List P.PlaceD} {nm : ByteArray} {p : P.PlaceD} (ha : Apart2 ps) (hp : p ∈ ps) (he : p.b.toList = nm.toList) : wantsAt ps nm = p.ws := by
  unfold wantsAt
  have none : ∀ (l : List P.PlaceD) (acc : List W.WantD), (∀ p ∈ l, p.b.toList ≠ nm.toList) → l.foldl (fun acc p => if p.b.toList == nm.toList then p.ws else acc) acc = acc := by
    intro l
    induction l with
    | nil => intro acc _; rfl
    | cons p l ih =>
      intro acc hh
      have h1 : (p.b.toList == nm.toList) = false := by simpa using hh p (List.mem_cons_self ..)
      simp only [List.foldl_cons, h1, Bool.false_eq_true, if_false]
      exact ih _ (fun q hq => hh q (List.mem_cons_of_mem _ hq))
  have key : ∀ (l : List P.PlaceD) (acc : List W.WantD), l.Pairwise (fun p q => p.b.toList ≠ q.b.toList) → p ∈ l → l.foldl (fun acc p => if p.b.toList == nm.toList then p.ws else acc) acc = p.ws := by
    intro l
    induction l with
    | nil => intro acc _ hm; cases hm
    | cons q l ih =>
      intro acc hpw hm
      rw [List.pairwise_cons] at hpw
      simp only [List.foldl_cons]
      rcases List.mem_cons.1 hm with rfl | hm'
      · have h1 : (p.b.toList == nm.toList) = true := by simpa using he
        simp only [h1, if_true]
        exact none l _ (fun x hx hxe => hpw.1 x hx (by rw [he, hxe]))
      · exact ih _ hpw.2 hm'
  exact key ps [] ha hp
theorem less_trans {x y z : List UInt8} (h1 : Op.bytesLess x y = true) (h2 : Op.bytesLess y z = true) : Op.bytesLess x z = true := by
  rw [Ord.less_before] at *
  exact WideShapes.bytes_trans x y z h1 h2
theorem less_irrefl {x : List UInt8} (h : Op.bytesLess x x = true) : False := by
  rw [Ord.less_before, WideAt.bytes_irrefl] at h
  cases h
theorem asc_apart {ps : List P.PlaceD} (h : P.AscN ps ps.length) : Apart2 ps := by
  have hs : ∀ (l : List P.PlaceD), (∀ (j : Nat) q r, l[j]? = some q → l[j + 1]? = some r → Op.bytesLess q.b.toList r.b.toList = true) → l.Pairwise (fun p q => Op.bytesLess p.b.toList q.b.toList = true) := by
    intro l
    induction l with
    | nil => intro _; exact List.Pairwise.nil
    | cons p l ih =>
      intro hh
      have h1 := ih (fun j q r hq hr => hh (j + 1) q r (by simpa using hq) (by simpa using hr))
      refine List.pairwise_cons.2 ⟨fun q hq => ?_, h1⟩
      cases l with
      | nil => cases hq
      | cons p2 l2 =>
        have h2 := hh 0 p p2 rfl rfl
        rcases List.mem_cons.1 hq with rfl | hq'
        · exact h2
        · exact less_trans h2 ((List.pairwise_cons.1 h1).1 q hq')
  refine List.Pairwise.imp ?_ (hs ps (fun j q r hq hr => h j q r (by have := (List.getElem?_eq_some_iff.1 hr).1; omega) hq hr))
  intro p q hpq e
  rw [e] at hpq
  exact less_irrefl hpq
end Go.Proofs.YtdkjhonaafadjaaGreat
/- Books that are ok: the program's look at time and grants. -/
namespace Go.Proofs.YtdkjhonaafadjaaGreat.P
open Go.RowKit
set_option linter.unusedVariables false

theorem timeOk_any (t : Int) (a1 a2 : Option Addr) (n1 c1 n2 c2 : Nat) (w : World) :
    Calls Tryz.prog 104 #[.agg #[.int .i64 t, .slice a1 n1 c1, .slice a2 n2 c2]] w fun e w' => e = .returned (.bool (timeB t)) ∧ Below w.heap.size w w' := by
  cases q1 : inB t 0 2000000
  · go_enter Tryz.func104, Tryz.ntmps104
    go_wp2_with (go_at_call 81; refine (within_any _ _ _ _).mono ?_; rintro e w' ⟨rfl, rfl⟩)
    go_ret
    exact ⟨ret_b (by simp [timeB, q1]), bl_alloc (Below.refl _ _) _⟩
  · have h0 : 0 ≤ t := by simp [inB] at q1; omega
    by_cases q2 : t % 2 = 0
    · go_enter Tryz.func104, Tryz.ntmps104
      go_wp2_with (go_at_call 81; refine (within_any _ _ _ _).mono ?_; rintro e w' ⟨rfl, rfl⟩)
      go_ret
      exact ⟨ret_b (by simp [timeB, q1, q2]), bl_alloc (Below.refl _ _) _⟩
    · go_enter Tryz.func104, Tryz.ntmps104
      go_wp2_with (go_at_call 81; refine (within_any _ _ _ _).mono ?_; rintro e w' ⟨rfl, rfl⟩)
      go_ret
      exact ⟨ret_b (by simp [timeB, q1, q2]), bl_alloc (Below.refl _ _) _⟩

set_option maxRecDepth 4000 in
set_option maxHeartbeats 1000000 in
theorem grantOk_any (r : G.GrantD) (t : Int) (w : World) (hf : r.fits) (h0 : 0 ≤ t) (h1 : t ≤ 2000000) :
    Calls Tryz.prog 129 #[.agg #[.string r.h, .string r.b, .string r.c, .int .i64 r.t, .int .i64 r.u], .int .i64 t] w fun e w' => e = .returned (.bool (grantB t r)) ∧ Below w.heap.size w w' := by
  cases q1 : holdB r.h
  · skip
    go_enter Tryz.func129, Tryz.ntmps129
    go_wp2_with (first | (go_at_call 144; refine (implHold_any r.h _ hf.1).mono ?_; rintro e w' ⟨rfl, rfl⟩) | (go_at_call 133; refine (implName_any _ _ (by first | exact hf.2.1 | exact hf.2.2)).mono ?_; rintro e w' ⟨rfl, rfl⟩) | (go_at_call 81; refine (within_any _ _ _ _).mono ?_; rintro e w' ⟨rfl, rfl⟩))
    go_ret
    exact ⟨ret_b (by simp [grantB, *]), bl_alloc (Below.refl _ _) _⟩
  cases q2 : nameB r.b
  · skip
    go_enter Tryz.func129, Tryz.ntmps129
    go_wp2_with (first | (go_at_call 144; refine (implHold_any r.h _ hf.1).mono ?_; rintro e w' ⟨rfl, rfl⟩) | (go_at_call 133; refine (implName_any _ _ (by first | exact hf.2.1 | exact hf.2.2)).mono ?_; rintro e w' ⟨rfl, rfl⟩) | (go_at_call 81; refine (within_any _ _ _ _).mono ?_; rintro e w' ⟨rfl, rfl⟩))
    go_ret
    exact ⟨ret_b (by simp [grantB, *]), bl_alloc (Below.refl _ _) _⟩
  cases q3 : nameB r.c
  · skip
    go_enter Tryz.func129, Tryz.ntmps129
    go_wp2_with (first | (go_at_call 144; refine (implHold_any r.h _ hf.1).mono ?_; rintro e w' ⟨rfl, rfl⟩) | (go_at_call 133; refine (implName_any _ _ (by first | exact hf.2.1 | exact hf.2.2)).mono ?_; rintro e w' ⟨rfl, rfl⟩) | (go_at_call 81; refine (within_any _ _ _ _).mono ?_; rintro e w' ⟨rfl, rfl⟩))
    go_ret
    exact ⟨ret_b (by simp [grantB, *]), bl_alloc (Below.refl _ _) _⟩
  cases q4 : inB r.t 0 1000000
  · skip
    go_enter Tryz.func129, Tryz.ntmps129
    go_wp2_with (first | (go_at_call 144; refine (implHold_any r.h _ hf.1).mono ?_; rintro e w' ⟨rfl, rfl⟩) | (go_at_call 133; refine (implName_any _ _ (by first | exact hf.2.1 | exact hf.2.2)).mono ?_; rintro e w' ⟨rfl, rfl⟩) | (go_at_call 81; refine (within_any _ _ _ _).mono ?_; rintro e w' ⟨rfl, rfl⟩))
    go_ret
    exact ⟨ret_b (by simp [grantB, *]), bl_alloc (Below.refl _ _) _⟩
  go_enter Tryz.func129, Tryz.ntmps129
  go_wp2_with (first | (go_at_call 144; refine (implHold_any r.h _ hf.1).mono ?_; rintro e w' ⟨rfl, rfl⟩) | (go_at_call 133; refine (implName_any _ _ (by first | exact hf.2.1 | exact hf.2.2)).mono ?_; rintro e w' ⟨rfl, rfl⟩) | (go_at_call 81; refine (within_any _ _ _ _).mono ?_; rintro e w' ⟨rfl, rfl⟩))
  go_ret
  exact ⟨ret_b (by simp [grantB, *]), bl_alloc (Below.refl _ _) _⟩
theorem closGrant (r : G.GrantD) (t : Int) (bk : Nat) (w : World) (hc : w.cell? ⟨bk, 0, none⟩ = some (.int .i64 t)) (lk : bk < w.heap.size) (hf : r.fits) (h0 : 0 ≤ t) (h1 : t ≤ 2000000) :
    Calls Tryz.prog 128 #[.agg #[.string r.h, .string r.b, .string r.c, .int .i64 r.t, .int .i64 r.u], .pointer (some ⟨bk, 0, none⟩)] w fun e w' => e = .returned (.bool (grantB t r)) ∧ Below w.heap.size w w' := by
  go_enter Tryz.func128, Tryz.ntmps128
  go_wp2_with (go_at_call 129; refine (grantOk_any r t _ hf h0 h1).mono ?_; rintro e w' ⟨rfl, hx⟩)
  go_ret
  exact ⟨rfl, bl_trans (bl_alloc (Below.refl _ _) _) hx⟩
end Go.Proofs.YtdkjhonaafadjaaGreat.P
/- Books that are ok: the program's look at grants and places. -/
namespace Go.Proofs.YtdkjhonaafadjaaGreat.P
open Go.RowKit
set_option linter.unusedVariables false

def SaysG (q : Bool) (t : Int) (gs : List G.GrantD) : Prop := q = true ↔ GrantsSay t gs
def SaysP (q : Bool) (ps : List PlaceD) : Prop := q = true ↔ PlacesSay ps
def SaysF (q : Bool) (b : ByteArray) (s : Int) (ws : List W.WantD) : Prop := q = true ↔ nameB b = true ∧ (inB s 1 1000000 = true ∧ (ws.length ≤ 10 ∧ W.AllW ws ws.length))
theorem ml_box {w w' : World} {t : Int} {gs : List G.GrantD} {ps : List PlaceD} {b1 b2 : Nat} (hb : Below (w.alloc (.cells #[.int .i64 t, .slice (some ⟨b1, 0, none⟩) gs.length gs.length, .slice (some ⟨b2, 0, none⟩) ps.length ps.length] 27)).heap.size (w.alloc (.cells #[.int .i64 t, .slice (some ⟨b1, 0, none⟩) gs.length gs.length, .slice (some ⟨b2, 0, none⟩) ps.length ps.length] 27)) w') : (∀ k, w'.cell? ⟨w.heap.size, k, none⟩ = (#[.int .i64 t, .slice (some ⟨b1, 0, none⟩) gs.length gs.length, .slice (some ⟨b2, 0, none⟩) ps.length ps.length] : Array Value)[k]?) ∧ w.heap.size < w'.heap.size := by
  constructor
  · intro k
    rw [hb.cell (p := ⟨w.heap.size, k, none⟩) (by simp)]
    simp [go_sem]
  · have := hb.size; simp at this; omega

set_option maxRecDepth 4000 in
set_option maxHeartbeats 1000000 in
theorem grantsOk_any (t : Int) (gs : List G.GrantD) (ps : List PlaceD) (b1 b2 : Nat) (w : World) (hA : LandAt w gs ps b1 b2) (hF : Fit gs ps) (h0 : 0 ≤ t) (h1 : t ≤ 2000000) :
    Calls Tryz.prog 105 #[.agg #[.int .i64 t, .slice (some ⟨b1, 0, none⟩) gs.length gs.length, .slice (some ⟨b2, 0, none⟩) ps.length ps.length]] w fun e w' => (∃ q : Bool, e = .returned (.bool q) ∧ SaysG q t gs) ∧ Below w.heap.size w w' := by
  have HA : Hid (LandAt w gs ps b1 b2) := hA
  have HF : Hid (Fit gs ps) := hF
  have hgl := hF.gl
  clear hA hF
  by_cases h40 : gs.length ≤ 40
  · have hi40 : (gs.length : Int) ≤ 40 := by omega
    go_enter Tryz.func105, Tryz.ntmps105
    go_wp2_with fail
    have hb0 : Below w.heap.size w (w.alloc (.cells #[.int .i64 t, .slice (some ⟨b1, 0, none⟩) gs.length gs.length, .slice (some ⟨b2, 0, none⟩) ps.length ps.length] 27)) := bl_alloc (Below.refl _ _) _
    refine (G.ascends b1 0 gs.length gs _ (HA.out.keep hb0).g (HA.out.keep hb0).g1 hgl).mono ?_
    rintro e w1 ⟨⟨q1, rfl, k1⟩, c1⟩
    have B1 : Hid (Below w.heap.size w w1) := bl_trans hb0 c1
    have H0 : Hid _ := k1
    obtain ⟨kb, kz⟩ := ml_box c1
    clear k1 hb0 c1
    cases q1
    · go_wp2
      go_ret
      exact ⟨⟨false, rfl, ⟨fun h => (by cases h), fun h => by have := H0.out.2 h.2.1; cases this⟩⟩, B1.out⟩
    · have H1 : Hid _ := H0.out.1 rfl
      have Hck : Hid (w1.cell? ⟨w.heap.size, 0, none⟩ = some (.int .i64 t)) := kb 0
      clear H0
      go_wp2_with fail
      refine (G.allOk w.heap.size (grantB t) b1 0 gs.length gs w1 (HA.out.keep B1.out).g (HA.out.keep B1.out).g1 hgl (fun r hr x hx => closGrant r t w.heap.size x ((hx.cell (p := ⟨w.heap.size, 0, none⟩) kz).trans Hck.out) (Nat.lt_of_lt_of_le kz hx.size) (HF.out.g r hr) h0 h1)).mono ?_
      rintro e w2 ⟨⟨q2, rfl, k2⟩, c2⟩
      have B2 : Hid _ := bl_trans B1.out c2
      have H2 : Hid _ := k2
      clear c2 k2 kb
      go_wp2
      go_ret
      exact ⟨⟨q2, rfl, ⟨fun h => ⟨h40, H1.out, H2.out.1 h⟩, fun h => H2.out.2 h.2.2⟩⟩, B2.out⟩
  · have hi40 : (40 : Int) < (gs.length : Int) := by omega
    have H40 : Hid _ := h40
    clear h40
    go_enter Tryz.func105, Tryz.ntmps105
    go_wp2
    go_ret
    first
    | exact ⟨Or.inl ⟨rfl, ⟨fun h => (by cases h), fun h => absurd h.1 H40.out⟩⟩, bl_alloc (Below.refl _ _) _⟩
    | exact ⟨⟨false, rfl, ⟨fun h => (by cases h), fun h => absurd h.1 H40.out⟩⟩, bl_alloc (Below.refl _ _) _⟩

set_option maxRecDepth 4000 in
set_option maxHeartbeats 1000000 in
theorem placeOk_q (b : ByteArray) (s : Int) (g : Nat) (ws : List W.WantD) (w : World) (hb : b.size ≤ maxLen) (hg : g < w.heap.size) (hR : W.RowsAt w g 0 ws) (hfit : ∀ r ∈ ws, r.fits) (hl : ws.length ≤ 1048576) :
    Calls Tryz.prog 132 #[.agg #[.string b, .int .i64 s, .slice (some ⟨g, 0, none⟩) ws.length ws.length]] w fun e w' => (∃ q : Bool, e = .returned (.bool q) ∧ SaysF q b s ws) ∧ Below w.heap.size w w' := by
  have HR : Hid (W.RowsAt w g 0 ws) := hR
  have HF : Hid _ := hfit
  clear hR hfit
  have hb0 : Hid (Below w.heap.size w (w.alloc (.cells #[.string b, .int .i64 s, .slice (some ⟨g, 0, none⟩) ws.length ws.length] 75))) := bl_alloc (Below.refl _ _) _
  cases q1 : nameB b
  · go_enter Tryz.func132, Tryz.ntmps132
    go_wp2_with (first | (go_at_call 133; refine (implName_any _ _ hb).mono ?_; rintro e w' ⟨rfl, rfl⟩) | (go_at_call 81; refine (within_any _ _ _ _).mono ?_; rintro e w' ⟨rfl, rfl⟩))
    go_ret
    exact ⟨⟨false, rfl, ⟨fun h => (by cases h), fun h => by have := h.1; rw [q1] at this; cases this⟩⟩, hb0.out⟩
  cases q2 : inB s 1 1000000
  · go_enter Tryz.func132, Tryz.ntmps132
    go_wp2_with (first | (go_at_call 133; refine (implName_any _ _ hb).mono ?_; rintro e w' ⟨rfl, rfl⟩) | (go_at_call 81; refine (within_any _ _ _ _).mono ?_; rintro e w' ⟨rfl, rfl⟩))
    go_ret
    exact ⟨⟨false, rfl, ⟨fun h => (by cases h), fun h => by have := h.2.1; rw [q2] at this; cases this⟩⟩, hb0.out⟩
  · go_enter Tryz.func132, Tryz.ntmps132
    go_wp2_with (first | (go_at_call 133; refine (implName_any _ _ hb).mono ?_; rintro e w' ⟨rfl, rfl⟩) | (go_at_call 81; refine (within_any _ _ _ _).mono ?_; rintro e w' ⟨rfl, rfl⟩))
    refine (W.implWantsOk g 0 ws _ (HR.out.keep hg hb0.out) (Nat.lt_of_lt_of_le hg hb0.out.size) HF.out hl).mono ?_
    rintro e w1 ⟨⟨q, rfl, k⟩, c⟩
    have K : Hid _ := k
    have B1 : Hid _ := bl_trans hb0.out c
    clear k c
    go_wp2
    go_ret
    exact ⟨⟨q, rfl, ⟨fun h => ⟨q1, q2, K.out.1 h⟩, fun h => K.out.2 h.2.2⟩⟩, B1.out⟩
open Classical in
noncomputable def fineB (r : PlaceD) : Bool := decide r.fine
theorem fineB_iff (r : PlaceD) : fineB r = true ↔ r.fine := by
  classical
  unfold fineB
  exact decide_eq_true_iff
theorem fineB_of {r : PlaceD} {q : Bool} (k : q = true ↔ r.fine) : q = fineB r := by
  have h := k.trans (fineB_iff r).symm
  cases q <;> cases hf : fineB r <;> simp_all
theorem placeOk_any (r : PlaceD) (w : World) (hk : r.blk 0 w) (hb : r.b.size ≤ maxLen) (hfit : ∀ q ∈ r.ws, q.fits) (hl : r.ws.length ≤ 1048576) :
    Calls Tryz.prog 132 #[.agg #[.string r.b, .int .i64 r.s, .slice r.a r.ws.length r.c]] w fun e w' => e = .returned (.bool (fineB r)) ∧ Below w.heap.size w w' := by
  obtain ⟨b, s, a, c, ws⟩ := r
  obtain ⟨g, e1, e2, -, h3, h4⟩ := hk
  simp only at e1 e2 hb hfit hl h4
  subst e1 e2
  refine (placeOk_q b s g ws w hb h3 h4 hfit hl).mono ?_
  rintro e w' ⟨⟨q, rfl, k⟩, c⟩
  refine ⟨?_, c⟩
  have : q = fineB ⟨b, s, some ⟨g, 0, none⟩, ws.length, ws⟩ := fineB_of k
  rw [this]

set_option maxRecDepth 4000 in
set_option maxHeartbeats 1000000 in
theorem placesOk_any (t : Int) (gs : List G.GrantD) (ps : List PlaceD) (b1 b2 : Nat) (w : World) (hA : LandAt w gs ps b1 b2) (hF : Fit gs ps) :
    Calls Tryz.prog 106 #[.agg #[.int .i64 t, .slice (some ⟨b1, 0, none⟩) gs.length gs.length, .slice (some ⟨b2, 0, none⟩) ps.length ps.length]] w fun e w' => (∃ q : Bool, e = .returned (.bool q) ∧ SaysP q ps) ∧ Below w.heap.size w w' := by
  have HA : Hid (LandAt w gs ps b1 b2) := hA
  have HF : Hid (Fit gs ps) := hF
  have hpl := hF.pl
  clear hA hF
  by_cases h4 : ps.length ≤ 4
  · have hi4 : (ps.length : Int) ≤ 4 := by omega
    go_enter Tryz.func106, Tryz.ntmps106
    go_wp2_with fail
    have hb0 : Below w.heap.size w (w.alloc (.cells #[.int .i64 t, .slice (some ⟨b1, 0, none⟩) gs.length gs.length, .slice (some ⟨b2, 0, none⟩) ps.length ps.length] 27)) := bl_alloc (Below.refl _ _) _
    refine (ascends b2 0 ps.length ps _ (HA.out.keep hb0).p (HA.out.keep hb0).p1 hpl).mono ?_
    rintro e w1 ⟨⟨q1, rfl, k1⟩, c1⟩
    have B1 : Hid (Below w.heap.size w w1) := bl_trans hb0 c1
    have H0 : Hid _ := k1
    obtain ⟨kb, kz⟩ := ml_box c1
    clear k1 hb0 c1
    cases q1
    · go_wp2
      go_ret
      exact ⟨⟨false, rfl, ⟨fun h => (by cases h), fun h => by have := H0.out.2 h.2.1; cases this⟩⟩, B1.out⟩
    · have H1 : Hid _ := H0.out.1 rfl
      clear H0
      go_wp2_with fail
      refine (allOk fineB b2 0 ps.length ps w1 (HA.out.keep B1.out).p (HA.out.keep B1.out).p1 hpl (fun r hr x hx => placeOk_any r x (((HA.out.keep B1.out).k r hr).keep hx) (HF.out.p r hr).1 (HF.out.p r hr).2 (HF.out.ln r hr))).mono ?_
      rintro e w2 ⟨⟨q2, rfl, k2⟩, c2⟩
      have B2 : Hid _ := bl_trans B1.out c2
      have H2 : Hid _ := k2
      clear c2 k2 kb
      go_wp2
      go_ret
      exact ⟨⟨q2, rfl, ⟨fun h => ⟨h4, H1.out, fun p hp => (fineB_iff p).1 (H2.out.1 h p hp)⟩, fun h => H2.out.2 (fun p hp => (fineB_iff p).2 (h.2.2 p hp))⟩⟩, B2.out⟩
  · have hi4 : (4 : Int) < (ps.length : Int) := by omega
    have H4 : Hid _ := h4
    clear h4
    go_enter Tryz.func106, Tryz.ntmps106
    go_wp2
    go_ret
    first
    | exact ⟨Or.inl ⟨rfl, ⟨fun h => (by cases h), fun h => absurd h.1 H4.out⟩⟩, bl_alloc (Below.refl _ _) _⟩
    | exact ⟨⟨false, rfl, ⟨fun h => (by cases h), fun h => absurd h.1 H4.out⟩⟩, bl_alloc (Below.refl _ _) _⟩
end Go.Proofs.YtdkjhonaafadjaaGreat.P
/- A list's cells, one behind the other. -/
namespace Go.Proofs.YtdkjhonaafadjaaGreat.W
open Go.RowKit
set_option linter.unusedVariables false

theorem flat_cells {w : World} {g : Nat} {l : List WantD} (h : RowsAt w g 0 l) : ∀ j u, (flatR l)[j]? = some u → w.cell? ((⟨g, 0, none⟩ : Addr).add j) = some u := by
  intro j u hj
  have hlt : j < l.length * 7 := by rw [← flatR_len]; exact (List.getElem?_eq_some_iff.1 hj).1
  have hk : j / 7 < l.length := by omega
  have hr : j % 7 < 7 := Nat.mod_lt _ (by decide)
  have e : j / 7 * 7 + j % 7 = j := by omega
  have h1 := flatR_at l (j / 7) l[j / 7] (List.getElem?_eq_getElem hk) (j % 7) hr
  rw [e, hj] at h1
  have h2 := h (j / 7) l[j / 7] (List.getElem?_eq_getElem hk) (j % 7) u h1.symm
  rw [Addr.add_mid]
  rw [show 0 + j / 7 * 7 + j % 7 = 0 + j from by omega] at h2
  exact h2
end Go.Proofs.YtdkjhonaafadjaaGreat.W
