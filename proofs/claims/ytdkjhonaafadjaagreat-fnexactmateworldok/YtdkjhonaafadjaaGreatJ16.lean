import Derived.Test.YtdkjhonaafadjaaGreatJ12
import Derived.Test.YtdkjhonaafadjaaGreatJ04
import Derived.Test.YtdkjhonaafadjaaGreatJ15
import Derived.Test.YtdkjhonaafadjaaGreatJ11
/- What makes a world ok. -/
namespace Go.Proofs.YtdkjhonaafadjaaGreat
open Go.RowKit
set_option linter.unusedVariables false

def AscM (ms : List MateD) : Prop := ∀ (j : Nat) q r, ms[j]? = some q → ms[j + 1]? = some r → Op.bytesLess q.nm.toList r.nm.toList = true
def MatesSay (ms : List MateD) : Prop := AscM ms ∧ ∀ m ∈ ms, Valid m
def WorldSay (t : Int) (gs : List G.GrantD) (ps : List P.PlaceD) (ms : List MateD) (fs : List ByteArray) : Prop :=
  P.LandSay t gs ps ∧ (1 ≤ ms.length ∧ ms.length ≤ 4) ∧ fs.length ≤ 300 ∧ MatesSay ms
def SaysWd (q : Bool) (t : Int) (gs : List G.GrantD) (ps : List P.PlaceD) (ms : List MateD) (fs : List ByteArray) : Prop := q = true ↔ WorldSay t gs ps ms fs
theorem saysWd_no {t : Int} {gs : List G.GrantD} {ps : List P.PlaceD} {ms : List MateD} {fs : List ByteArray} (h : WorldSay t gs ps ms fs → False) : SaysWd false t gs ps ms fs := ⟨fun h' => (by cases h'), fun h' => (h h').elim⟩
structure WorldFit (gs : List G.GrantD) (ps : List P.PlaceD) (rs : List Mt.MRow) (fs : List ByteArray) : Prop where
  f : P.Fit gs ps
  m : ∀ r ∈ rs, r.m.fits
  l3 : rs.length ≤ 1048576
  l4 : fs.length ≤ 1048576
/-- The first k mates are valid and ascend. -/
def MatesOk (rs : List Mt.MRow) (k : Nat) : Prop := ∀ j r, j < k → rs[j]? = some r → Valid r.m ∧ ∀ i q, j = i + 1 → rs[i]? = some q → Op.bytesLess q.m.nm.toList r.m.nm.toList = true
theorem matesOk_step {rs : List Mt.MRow} {k : Nat} {r : Mt.MRow} (h : MatesOk rs k) (hr : rs[k]? = some r) (hv : Valid r.m) (ha : ∀ i q, k = i + 1 → rs[i]? = some q → Op.bytesLess q.m.nm.toList r.m.nm.toList = true) : MatesOk rs (k + 1) := by
  intro j q hj hq
  by_cases e : j = k
  · subst e; rw [hr] at hq; cases hq; exact ⟨hv, ha⟩
  · exact h j q (by omega) hq
theorem matesOk_iff {rs : List Mt.MRow} : MatesOk rs rs.length ↔ MatesSay (rs.map Mt.MRow.m) := by
  constructor
  · intro h
    constructor
    · intro j q r hq hr
      rw [List.getElem?_map] at hq hr
      obtain ⟨q', hq', rfl⟩ := Option.map_eq_some_iff.1 hq
      obtain ⟨r', hr', rfl⟩ := Option.map_eq_some_iff.1 hr
      exact (h (j + 1) r' (List.getElem?_eq_some_iff.1 hr').1 hr').2 j q' rfl hq'
    · intro m hm
      obtain ⟨r, hr, rfl⟩ := List.mem_map.1 hm
      obtain ⟨j, hj⟩ := List.getElem?_of_mem hr
      exact (h j r (List.getElem?_eq_some_iff.1 hj).1 hj).1
  · intro h j r hj hr
    refine ⟨h.2 r.m (List.mem_map_of_mem (List.mem_of_getElem? hr)), fun i q e hq => ?_⟩
    subst e
    exact h.1 i q.m r.m (by rw [List.getElem?_map, hq]; rfl) (by rw [List.getElem?_map, hr]; rfl)
theorem ascN_iff {rs : List Mt.MRow} : Mt.AscN rs rs.length ↔ AscM (rs.map Mt.MRow.m) := by
  constructor
  · intro h j q r hq hr
    rw [List.getElem?_map] at hq hr
    obtain ⟨q', hq', rfl⟩ := Option.map_eq_some_iff.1 hq
    obtain ⟨r', hr', rfl⟩ := Option.map_eq_some_iff.1 hr
    exact h j q' r' (List.getElem?_eq_some_iff.1 hr').1 hq' hr'
  · intro h j q r _ hq hr
    exact h j q.m r.m (by rw [List.getElem?_map, hq]; rfl) (by rw [List.getElem?_map, hr]; rfl)
theorem inB_len {n : Nat} : inB (n : Int) 1 4 = true ↔ 1 ≤ n ∧ n ≤ 4 := by simp only [inB, Bool.and_eq_true, decide_eq_true_eq]; omega
theorem specValid_t (m : MateD) (b1 b2 b3 b4 : Nat) (w : World) (hL : Lists w m b1 b2 b3 b4) (hf : m.fits) (hv : Valid m) :
    Calls Tryz.prog 36 #[.agg #[.string m.nm, .bool m.up, .int .i64 m.ck, .bool m.kn, .int .i64 m.se, .slice (some ⟨b1, 0, none⟩) m.ws.length m.ws.length, .slice (some ⟨b2, 0, none⟩) m.rs.length m.rs.length, .slice (some ⟨b3, 0, none⟩) m.qs.length m.qs.length, .slice (some ⟨b4, 0, none⟩) m.gs.length m.gs.length]] w fun e w' => e = .returned (.bool true) ∧ Below w.heap.size w w' :=
  (specValid m b1 b2 b3 b4 w hL hf).mono (by rintro e w' ⟨⟨q, rfl, h⟩, hb⟩; exact ⟨by rw [h.2 hv], hb⟩)
theorem specValid_f (m : MateD) (b1 b2 b3 b4 : Nat) (w : World) (hL : Lists w m b1 b2 b3 b4) (hf : m.fits) (hv : ¬ Valid m) :
    Calls Tryz.prog 36 #[.agg #[.string m.nm, .bool m.up, .int .i64 m.ck, .bool m.kn, .int .i64 m.se, .slice (some ⟨b1, 0, none⟩) m.ws.length m.ws.length, .slice (some ⟨b2, 0, none⟩) m.rs.length m.rs.length, .slice (some ⟨b3, 0, none⟩) m.qs.length m.qs.length, .slice (some ⟨b4, 0, none⟩) m.gs.length m.gs.length]] w fun e w' => e = .returned (.bool false) ∧ Below w.heap.size w w' :=
  (specValid m b1 b2 b3 b4 w hL hf).mono (by
    rintro e w' ⟨⟨q, rfl, h⟩, hb⟩
    cases q
    · exact ⟨rfl, hb⟩
    · exact (hv (h.1 rfl)).elim)
theorem rowM {x : World} {b3 k g1 g2 g3 g4 : Nat} {rs : List Mt.MRow} {m : MateD} (h : Mt.RowsAt x b3 0 rs) (hr : rs[k]? = some (⟨m, some ⟨g1, 0, none⟩, m.ws.length, some ⟨g2, 0, none⟩, m.rs.length, some ⟨g3, 0, none⟩, m.qs.length, some ⟨g4, 0, none⟩, m.gs.length⟩ : Mt.MRow)) : x.cell? ⟨b3, k * 9, none⟩ = some (.string m.nm) ∧ x.cell? ⟨b3, k * 9 + 1, none⟩ = some (.bool m.up) ∧ x.cell? ⟨b3, k * 9 + 2, none⟩ = some (.int .i64 m.ck) ∧ x.cell? ⟨b3, k * 9 + 3, none⟩ = some (.bool m.kn) ∧ x.cell? ⟨b3, k * 9 + 4, none⟩ = some (.int .i64 m.se) ∧ x.cell? ⟨b3, k * 9 + 5, none⟩ = some (.slice (some ⟨g1, 0, none⟩) m.ws.length m.ws.length) ∧ x.cell? ⟨b3, k * 9 + 6, none⟩ = some (.slice (some ⟨g2, 0, none⟩) m.rs.length m.rs.length) ∧ x.cell? ⟨b3, k * 9 + 7, none⟩ = some (.slice (some ⟨g3, 0, none⟩) m.qs.length m.qs.length) ∧ x.cell? ⟨b3, k * 9 + 8, none⟩ = some (.slice (some ⟨g4, 0, none⟩) m.gs.length m.gs.length) := by
  have := h.at hr
  simp only [Nat.zero_add] at this
  exact this
theorem rowM0 {x : World} {b3 g1 g2 g3 g4 : Nat} {rs : List Mt.MRow} {m : MateD} (h : Mt.RowsAt x b3 0 rs) (hr : rs[0]? = some (⟨m, some ⟨g1, 0, none⟩, m.ws.length, some ⟨g2, 0, none⟩, m.rs.length, some ⟨g3, 0, none⟩, m.qs.length, some ⟨g4, 0, none⟩, m.gs.length⟩ : Mt.MRow)) : x.cell? ⟨b3, 0, none⟩ = some (.string m.nm) ∧ x.cell? ⟨b3, 1, none⟩ = some (.bool m.up) ∧ x.cell? ⟨b3, 2, none⟩ = some (.int .i64 m.ck) ∧ x.cell? ⟨b3, 3, none⟩ = some (.bool m.kn) ∧ x.cell? ⟨b3, 4, none⟩ = some (.int .i64 m.se) ∧ x.cell? ⟨b3, 5, none⟩ = some (.slice (some ⟨g1, 0, none⟩) m.ws.length m.ws.length) ∧ x.cell? ⟨b3, 6, none⟩ = some (.slice (some ⟨g2, 0, none⟩) m.rs.length m.rs.length) ∧ x.cell? ⟨b3, 7, none⟩ = some (.slice (some ⟨g3, 0, none⟩) m.qs.length m.qs.length) ∧ x.cell? ⟨b3, 8, none⟩ = some (.slice (some ⟨g4, 0, none⟩) m.gs.length m.gs.length) := by
  have := h.at hr
  simp only [Nat.zero_add, Nat.zero_mul] at this
  exact this
theorem rowMn {x : World} {b3 k : Nat} {rs : List Mt.MRow} {q : Mt.MRow} (h : Mt.RowsAt x b3 0 rs) (hr : rs[k]? = some q) : x.cell? ⟨b3, k * 9, none⟩ = some (.string q.m.nm) := by
  have := (h.at hr).1
  simp only [Nat.zero_add] at this
  exact this
theorem wd_box {w w' : World} {t : Int} {gs : List G.GrantD} {ps : List P.PlaceD} {rs : List Mt.MRow} {fs : List ByteArray} {b1 b2 b3 b4 : Nat} (hb : Below (w.alloc (.cells #[.int .i64 t, .slice (some ⟨b1, 0, none⟩) gs.length gs.length, .slice (some ⟨b2, 0, none⟩) ps.length ps.length, .slice (some ⟨b3, 0, none⟩) rs.length rs.length, .slice (some ⟨b4, 0, none⟩) fs.length fs.length] 30)).heap.size (w.alloc (.cells #[.int .i64 t, .slice (some ⟨b1, 0, none⟩) gs.length gs.length, .slice (some ⟨b2, 0, none⟩) ps.length ps.length, .slice (some ⟨b3, 0, none⟩) rs.length rs.length, .slice (some ⟨b4, 0, none⟩) fs.length fs.length] 30)) w') : ∀ k, w'.cell? ⟨w.heap.size, k, none⟩ = (#[.int .i64 t, .slice (some ⟨b1, 0, none⟩) gs.length gs.length, .slice (some ⟨b2, 0, none⟩) ps.length ps.length, .slice (some ⟨b3, 0, none⟩) rs.length rs.length, .slice (some ⟨b4, 0, none⟩) fs.length fs.length] : Array Value)[k]? := by
  intro k
  rw [hb.cell (p := ⟨w.heap.size, k, none⟩) (by simp)]
  simp [go_sem]
end Go.Proofs.YtdkjhonaafadjaaGreat
/- What a world's law carries. -/
namespace Go.Proofs.YtdkjhonaafadjaaGreat
open Go.RowKit
set_option linter.unusedVariables false

theorem world_fit {w : World} {gs : List G.GrantD} {ps : List P.PlaceD} {ms : List Mt.MRow} {fs : List ByteArray} {v1 v2 v3 v4 : Value} (hi : WorldIn w gs ps ms fs v1 v2 v3 v4) (hl : WorldLen gs ps ms fs) : WorldFit gs ps ms fs :=
  ⟨⟨hi.i1.fits, fun p hp => ⟨(hi.i2.inn p hp).1, (hi.i2.inn p hp).2.fits⟩, hl.l1, hl.l2, hl.p⟩,
    fun r hr => ⟨(hi.i3.inn r hr).n, (hi.i3.inn r hr).i1.fits, (hi.i3.inn r hr).i2.fits, (hi.i3.inn r hr).i3.fits, (hi.i3.inn r hr).i4.fits, (hl.m r hr).k1, (hl.m r hr).k2, (hl.m r hr).k3, (hl.m r hr).k4⟩, hl.l3, hl.l4⟩
theorem WorldFit.like {gs : List G.GrantD} {ps qs : List P.PlaceD} {ms rs : List Mt.MRow} {fs : List ByteArray} (h : WorldFit gs ps ms fs) (hp : P.Like qs ps) (hm : Mt.Like rs ms) : WorldFit gs qs rs fs :=
  ⟨h.f.like hp, fun r hr => by obtain ⟨q, hq, e⟩ := hm.mem hr; rw [e]; exact h.m q hq, by rw [hm.len]; exact h.l3, h.l4⟩
theorem world_len {gs : List G.GrantD} {ps : List P.PlaceD} {ms : List Mt.MRow} {fs : List ByteArray} (h : WorldFit gs ps ms fs) : WorldLen gs ps ms fs :=
  ⟨h.f.gl, h.f.pl, h.f.ln, h.l3, fun r hr => ⟨(h.m r hr).k1, (h.m r hr).k2, (h.m r hr).k3, (h.m r hr).k4⟩, h.l4⟩
theorem kWX {X y : World} {t : Int} {gs : List G.GrantD} {qs : List P.PlaceD} {rs : List Mt.MRow} {fs : List ByteArray} {v1 v2 v3 v4 : Value} {e1 e2 e3 e4 : Nat} {B0 B1 : Nat} (h0 : Lx X B0 #[.int .i64 t, v1, v2, v3, v4]) (h1 : Lx X B1 #[.int .i64 t, .slice (some ⟨e1, 0, none⟩) gs.length gs.length, .slice (some ⟨e2, 0, none⟩) qs.length qs.length, .slice (some ⟨e3, 0, none⟩) rs.length rs.length, .slice (some ⟨e4, 0, none⟩) fs.length fs.length]) (hb : Below X.heap.size X y) :
    Below X.heap.size X y ∧ (y.cell? ⟨B0, 0, none⟩ = some (.int .i64 t) ∧ y.cell? ⟨B0, 1, none⟩ = some (v1) ∧ y.cell? ⟨B0, 2, none⟩ = some (v2) ∧ y.cell? ⟨B0, 3, none⟩ = some (v3) ∧ y.cell? ⟨B0, 4, none⟩ = some (v4) ∧ y.cell? ⟨B1, 0, none⟩ = some (.int .i64 t) ∧ y.cell? ⟨B1, 1, none⟩ = some (.slice (some ⟨e1, 0, none⟩) gs.length gs.length) ∧ y.cell? ⟨B1, 2, none⟩ = some (.slice (some ⟨e2, 0, none⟩) qs.length qs.length) ∧ y.cell? ⟨B1, 3, none⟩ = some (.slice (some ⟨e3, 0, none⟩) rs.length rs.length) ∧ y.cell? ⟨B1, 4, none⟩ = some (.slice (some ⟨e4, 0, none⟩) fs.length fs.length)) :=
  ⟨hb, ((h0.keep hb).c 0), ((h0.keep hb).c 1), ((h0.keep hb).c 2), ((h0.keep hb).c 3), ((h0.keep hb).c 4), ((h1.keep hb).c 0), ((h1.keep hb).c 1), ((h1.keep hb).c 2), ((h1.keep hb).c 3), ((h1.keep hb).c 4)⟩
theorem SaysWd.like {q : Bool} {t : Int} {gs : List G.GrantD} {ps qs : List P.PlaceD} {ms : List MateD} {fs : List ByteArray} (h : P.Like ps qs) : WorldSay t gs ps ms fs ↔ WorldSay t gs qs ms fs := by
  unfold WorldSay
  rw [P.like_says h]
end Go.Proofs.YtdkjhonaafadjaaGreat
