import Derived.Test.YtdkjhonaafadjaaGreatJ12
import Derived.Test.YtdkjhonaafadjaaGreatJ04
import Derived.Test.YtdkjhonaafadjaaGreatJ15
import Derived.Test.YtdkjhonaafadjaaGreatJ08
import Derived.Test.YtdkjhonaafadjaaGreatJ09
import Derived.Test.YtdkjhonaafadjaaGreatJ13
import Derived.Test.YtdkjhonaafadjaaGreatJ07
/- What makes a world ok. -/
namespace Go.Proofs.YtdkjhonaafadjaaGreat
open Go.RowKit
set_option linter.unusedVariables false

def AscM (ms : List MateD) : Prop := ∀ (j : Nat) q r, ms[j]? = some q → ms[j + 1]? = some r → Op.bytesLess q.nm.toList r.nm.toList = true
def MatesSay (ms : List MateD) : Prop := AscM ms ∧ ∀ m ∈ ms, Valid m
def WorldSay (t : Int) (gs : List G.GrantD) (ps : List P.PlaceD) (ms : List MateD) (fs : List ByteArray) : Prop :=
  P.LandSay t gs ps ∧ (1 ≤ ms.length ∧ ms.length ≤ 4) ∧ fs.length ≤ 300 ∧ MatesSay ms
def SaysWd (q : Bool) (t : Int) (gs : List G.GrantD) (ps : List P.PlaceD) (ms : List MateD) (fs : List ByteArray) : Prop := q = true ↔ WorldSay t gs ps ms fs
theorem saysWd_no {t : Int} {gs : List G.GrantD} {ps : List P.PlaceD} {ms : List MateD} {fs : List ByteArray} (h : WorldSay t gs ps ms fs → False) : SaysWd false t gs ps ms fs := ⟨fun h' => (by cases h'), fun h' => (h h').elim⟩
structure WorldFit (gs : List G.GrantD) (ps : List P.PlaceD) (rs : List Mt.MRow) (fs : List ByteArray) : Prop where
  f : P.Fit gs ps
  m : ∀ r ∈ rs, r.m.fits
  l3 : rs.length ≤ 1048576
  l4 : fs.length ≤ 1048576
/-- The first k mates are valid and ascend. -/
def MatesOk (rs : List Mt.MRow) (k : Nat) : Prop := ∀ j r, j < k → rs[j]? = some r → Valid r.m ∧ ∀ i q, j = i + 1 → rs[i]? = some q → Op.bytesLess q.m.nm.toList r.m.nm.toList = true
theorem matesOk_step {rs : List Mt.MRow} {k : Nat} {r : Mt.MRow} (h : MatesOk rs k) (hr : rs[k]? = some r) (hv : Valid r.m) (ha : ∀ i q, k = i + 1 → rs[i]? = some q → Op.bytesLess q.m.nm.toList r.m.nm.toList = true) : MatesOk rs (k + 1) := by
  intro j q hj hq
  by_cases e : j = k
  · subst e; rw [hr] at hq; cases hq; exact ⟨hv, ha⟩
  · exact h j q (by omega) hq
theorem matesOk_iff {rs : List Mt.MRow} : MatesOk rs rs.length ↔ MatesSay (rs.map Mt.MRow.m) := by
  constructor
  · intro h
    constructor
    · intro j q r hq hr
      rw [List.getElem?_map] at hq hr
      obtain ⟨q', hq', rfl⟩ := Option.map_eq_some_iff.1 hq
      obtain ⟨r', hr', rfl⟩ := Option.map_eq_some_iff.1 hr
      exact (h (j + 1) r' (List.getElem?_eq_some_iff.1 hr').1 hr').2 j q' rfl hq'
    · intro m hm
      obtain ⟨r, hr, rfl⟩ := List.mem_map.1 hm
      obtain ⟨j, hj⟩ := List.getElem?_of_mem hr
      exact (h j r (List.getElem?_eq_some_iff.1 hj).1 hj).1
  · intro h j r hj hr
    refine ⟨h.2 r.m (List.mem_map_of_mem (List.mem_of_getElem? hr)), fun i q e hq => ?_⟩
    subst e
    exact h.1 i q.m r.m (by rw [List.getElem?_map, hq]; rfl) (by rw [List.getElem?_map, hr]; rfl)
theorem ascN_iff {rs : List Mt.MRow} : Mt.AscN rs rs.length ↔ AscM (rs.map Mt.MRow.m) := by
  constructor
  · intro h j q r hq hr
    rw [List.getElem?_map] at hq hr
    obtain ⟨q', hq', rfl⟩ := Option.map_eq_some_iff.1 hq
    obtain ⟨r', hr', rfl⟩ := Option.map_eq_some_iff.1 hr
    exact h j q' r' (List.getElem?_eq_some_iff.1 hr').1 hq' hr'
  · intro h j q r _ hq hr
    exact h j q.m r.m (by rw [List.getElem?_map, hq]; rfl) (by rw [List.getElem?_map, hr]; rfl)
theorem inB_len {n : Nat} : inB (n : Int) 1 4 = true ↔ 1 ≤ n ∧ n ≤ 4 := by simp only [inB, Bool.and_eq_true, decide_eq_true_eq]; omega
theorem specValid_t (m : MateD) (b1 b2 b3 b4 : Nat) (w : World) (hL : Lists w m b1 b2 b3 b4) (hf : m.fits) (hv : Valid m) :
    Calls Tryz.prog 36 #[.agg #[.string m.nm, .bool m.up, .int .i64 m.ck, .bool m.kn, .int .i64 m.se, .slice (some ⟨b1, 0, none⟩) m.ws.length m.ws.length, .slice (some ⟨b2, 0, none⟩) m.rs.length m.rs.length, .slice (some ⟨b3, 0, none⟩) m.qs.length m.qs.length, .slice (some ⟨b4, 0, none⟩) m.gs.length m.gs.length]] w fun e w' => e = .returned (.bool true) ∧ Below w.heap.size w w' :=
  (specValid m b1 b2 b3 b4 w hL hf).mono (by rintro e w' ⟨⟨q, rfl, h⟩, hb⟩; exact ⟨by rw [h.2 hv], hb⟩)
theorem specValid_f (m : MateD) (b1 b2 b3 b4 : Nat) (w : World) (hL : Lists w m b1 b2 b3 b4) (hf : m.fits) (hv : ¬ Valid m) :
    Calls Tryz.prog 36 #[.agg #[.string m.nm, .bool m.up, .int .i64 m.ck, .bool m.kn, .int .i64 m.se, .slice (some ⟨b1, 0, none⟩) m.ws.length m.ws.length, .slice (some ⟨b2, 0, none⟩) m.rs.length m.rs.length, .slice (some ⟨b3, 0, none⟩) m.qs.length m.qs.length, .slice (some ⟨b4, 0, none⟩) m.gs.length m.gs.length]] w fun e w' => e = .returned (.bool false) ∧ Below w.heap.size w w' :=
  (specValid m b1 b2 b3 b4 w hL hf).mono (by
    rintro e w' ⟨⟨q, rfl, h⟩, hb⟩
    cases q
    · exact ⟨rfl, hb⟩
    · exact (hv (h.1 rfl)).elim)
theorem rowM {x : World} {b3 k g1 g2 g3 g4 : Nat} {rs : List Mt.MRow} {m : MateD} (h : Mt.RowsAt x b3 0 rs) (hr : rs[k]? = some (⟨m, some ⟨g1, 0, none⟩, m.ws.length, some ⟨g2, 0, none⟩, m.rs.length, some ⟨g3, 0, none⟩, m.qs.length, some ⟨g4, 0, none⟩, m.gs.length⟩ : Mt.MRow)) : x.cell? ⟨b3, k * 9, none⟩ = some (.string m.nm) ∧ x.cell? ⟨b3, k * 9 + 1, none⟩ = some (.bool m.up) ∧ x.cell? ⟨b3, k * 9 + 2, none⟩ = some (.int .i64 m.ck) ∧ x.cell? ⟨b3, k * 9 + 3, none⟩ = some (.bool m.kn) ∧ x.cell? ⟨b3, k * 9 + 4, none⟩ = some (.int .i64 m.se) ∧ x.cell? ⟨b3, k * 9 + 5, none⟩ = some (.slice (some ⟨g1, 0, none⟩) m.ws.length m.ws.length) ∧ x.cell? ⟨b3, k * 9 + 6, none⟩ = some (.slice (some ⟨g2, 0, none⟩) m.rs.length m.rs.length) ∧ x.cell? ⟨b3, k * 9 + 7, none⟩ = some (.slice (some ⟨g3, 0, none⟩) m.qs.length m.qs.length) ∧ x.cell? ⟨b3, k * 9 + 8, none⟩ = some (.slice (some ⟨g4, 0, none⟩) m.gs.length m.gs.length) := by
  have := h.at hr
  simp only [Nat.zero_add] at this
  exact this
theorem rowM0 {x : World} {b3 g1 g2 g3 g4 : Nat} {rs : List Mt.MRow} {m : MateD} (h : Mt.RowsAt x b3 0 rs) (hr : rs[0]? = some (⟨m, some ⟨g1, 0, none⟩, m.ws.length, some ⟨g2, 0, none⟩, m.rs.length, some ⟨g3, 0, none⟩, m.qs.length, some ⟨g4, 0, none⟩, m.gs.length⟩ : Mt.MRow)) : x.cell? ⟨b3, 0, none⟩ = some (.string m.nm) ∧ x.cell? ⟨b3, 1, none⟩ = some (.bool m.up) ∧ x.cell? ⟨b3, 2, none⟩ = some (.int .i64 m.ck) ∧ x.cell? ⟨b3, 3, none⟩ = some (.bool m.kn) ∧ x.cell? ⟨b3, 4, none⟩ = some (.int .i64 m.se) ∧ x.cell? ⟨b3, 5, none⟩ = some (.slice (some ⟨g1, 0, none⟩) m.ws.length m.ws.length) ∧ x.cell? ⟨b3, 6, none⟩ = some (.slice (some ⟨g2, 0, none⟩) m.rs.length m.rs.length) ∧ x.cell? ⟨b3, 7, none⟩ = some (.slice (some ⟨g3, 0, none⟩) m.qs.length m.qs.length) ∧ x.cell? ⟨b3, 8, none⟩ = some (.slice (some ⟨g4, 0, none⟩) m.gs.length m.gs.length) := by
  have := h.at hr
  simp only [Nat.zero_add, Nat.zero_mul] at this
  exact this
theorem rowMn {x : World} {b3 k : Nat} {rs : List Mt.MRow} {q : Mt.MRow} (h : Mt.RowsAt x b3 0 rs) (hr : rs[k]? = some q) : x.cell? ⟨b3, k * 9, none⟩ = some (.string q.m.nm) := by
  have := (h.at hr).1
  simp only [Nat.zero_add] at this
  exact this
theorem wd_box {w w' : World} {t : Int} {gs : List G.GrantD} {ps : List P.PlaceD} {rs : List Mt.MRow} {fs : List ByteArray} {b1 b2 b3 b4 : Nat} (hb : Below (w.alloc (.cells #[.int .i64 t, .slice (some ⟨b1, 0, none⟩) gs.length gs.length, .slice (some ⟨b2, 0, none⟩) ps.length ps.length, .slice (some ⟨b3, 0, none⟩) rs.length rs.length, .slice (some ⟨b4, 0, none⟩) fs.length fs.length] 30)).heap.size (w.alloc (.cells #[.int .i64 t, .slice (some ⟨b1, 0, none⟩) gs.length gs.length, .slice (some ⟨b2, 0, none⟩) ps.length ps.length, .slice (some ⟨b3, 0, none⟩) rs.length rs.length, .slice (some ⟨b4, 0, none⟩) fs.length fs.length] 30)) w') : ∀ k, w'.cell? ⟨w.heap.size, k, none⟩ = (#[.int .i64 t, .slice (some ⟨b1, 0, none⟩) gs.length gs.length, .slice (some ⟨b2, 0, none⟩) ps.length ps.length, .slice (some ⟨b3, 0, none⟩) rs.length rs.length, .slice (some ⟨b4, 0, none⟩) fs.length fs.length] : Array Value)[k]? := by
  intro k
  rw [hb.cell (p := ⟨w.heap.size, k, none⟩) (by simp)]
  simp [go_sem]
end Go.Proofs.YtdkjhonaafadjaaGreat
/- Lists that are given: empty, or they lie in a block. -/
namespace Go.Proofs.YtdkjhonaafadjaaGreat
open Go.RowKit
set_option linter.unusedVariables false

/-- A list of runs that is given: empty, or it lies in a block. -/
def Gv (w : World) (a : Option Addr) (rs : List RunD) : Prop := rs = [] ∨ ∃ b, a = some ⟨b, 0, none⟩ ∧ b < w.heap.size ∧ RowsAt w b 0 rs
theorem Gv.keep {w w' : World} {a : Option Addr} {rs : List RunD} (h : Gv w a rs) (hb : Below w.heap.size w w') : Gv w' a rs := by
  rcases h with h | ⟨b, h1, h2, h3⟩
  · exact Or.inl h
  · exact Or.inr ⟨b, h1, Nat.lt_of_lt_of_le h2 hb.size, h3.keep h2 hb⟩
theorem Sl.gv {w : World} {a : Option Addr} {rs : List RunD} {c B : Nat} (h : Sl w (.slice a rs.length c) rs B) : Gv w a rs := by
  rcases h with ⟨h, rfl⟩ | ⟨g, cap, h0, h1, h2, h3, h4⟩
  · exact Or.inl rfl
  · cases h0; exact Or.inr ⟨g, rfl, h2, h3⟩
def W.Gv (w : World) (a : Option Addr) (ws : List W.WantD) : Prop := ws = [] ∨ ∃ b, a = some ⟨b, 0, none⟩ ∧ b < w.heap.size ∧ W.RowsAt w b 0 ws
theorem W.Gv.keep {w w' : World} {a : Option Addr} {ws : List W.WantD} (h : W.Gv w a ws) (hb : Below w.heap.size w w') : W.Gv w' a ws := by
  rcases h with h | ⟨b, h1, h2, h3⟩
  · exact Or.inl h
  · exact Or.inr ⟨b, h1, Nat.lt_of_lt_of_le h2 hb.size, h3.keep h2 hb⟩
theorem W.Sl.gv {w : World} {a : Option Addr} {rs : List W.WantD} {c B : Nat} (h : W.Sl w (.slice a rs.length c) rs B) : W.Gv w a rs := by
  rcases h with ⟨h, rfl⟩ | ⟨g, cap, h0, h1, h2, h3, h4⟩
  · exact Or.inl rfl
  · cases h0; exact Or.inr ⟨g, rfl, h2, h3⟩
def A.Gv (w : World) (a : Option Addr) (ws : List A.AskD) : Prop := ws = [] ∨ ∃ b, a = some ⟨b, 0, none⟩ ∧ b < w.heap.size ∧ A.RowsAt w b 0 ws
theorem A.Gv.keep {w w' : World} {a : Option Addr} {ws : List A.AskD} (h : A.Gv w a ws) (hb : Below w.heap.size w w') : A.Gv w' a ws := by
  rcases h with h | ⟨b, h1, h2, h3⟩
  · exact Or.inl h
  · exact Or.inr ⟨b, h1, Nat.lt_of_lt_of_le h2 hb.size, h3.keep h2 hb⟩
theorem A.Sl.gv {w : World} {a : Option Addr} {rs : List A.AskD} {c B : Nat} (h : A.Sl w (.slice a rs.length c) rs B) : A.Gv w a rs := by
  rcases h with ⟨h, rfl⟩ | ⟨g, cap, h0, h1, h2, h3, h4⟩
  · exact Or.inl rfl
  · cases h0; exact Or.inr ⟨g, rfl, h2, h3⟩
end Go.Proofs.YtdkjhonaafadjaaGreat
/- The specification's checks of lists that are given, or nil. -/
namespace Go.Proofs.YtdkjhonaafadjaaGreat
open Go.RowKit
set_option linter.unusedVariables false

theorem W.specWants_zero (a : Option Addr) (cap : Nat) (w : World) :
    Calls Tryz.prog 73 #[.slice a 0 cap] w fun e w' => e = .returned (.bool true) ∧ w' = w := by
  go_enter Tryz.func73, Tryz.ntmps73
  go_wp2
  refine wp_loop_rounds 1 ?_
  rw [rounds_succ]
  go_wp2
  go_ret
  exact ⟨rfl, rfl⟩
theorem specRuns_zero (a : Option Addr) (cap : Nat) (clock : Int) (w : World) :
    Calls Tryz.prog 74 #[.slice a 0 cap, .int .i64 clock] w fun e w' => e = .returned (.bool true) ∧ w' = w := by
  go_enter Tryz.func74, Tryz.ntmps74
  go_wp2
  refine wp_loop_rounds 1 ?_
  rw [rounds_succ]
  go_wp2
  go_ret
  exact ⟨rfl, rfl⟩
theorem A.specAsks_zero (a : Option Addr) (cap : Nat) (clock : Int) (w : World) :
    Calls Tryz.prog 75 #[.slice a 0 cap, .int .i64 clock] w fun e w' => e = .returned (.bool true) ∧ w' = w := by
  go_enter Tryz.func75, Tryz.ntmps75
  go_wp2
  refine wp_loop_rounds 1 ?_
  rw [rounds_succ]
  go_wp2
  go_ret
  exact ⟨rfl, rfl⟩
theorem A.specAsk_zero (a : Option Addr) (cap : Nat) (x : ByteArray) (w : World) :
    Calls Tryz.prog 76 #[.slice a 0 cap, .string x] w fun e w' => e = .returned (.int .i64 (-1)) ∧ w' = w := by
  go_enter Tryz.func76, Tryz.ntmps76
  go_wp2
  refine wp_loop_rounds 1 ?_
  rw [rounds_succ]
  go_wp2
  go_ret
  exact ⟨rfl, rfl⟩
theorem W.specWantsOk_gv (a : Option Addr) (cap : Nat) (ws : List W.WantD) (w : World) (h : W.Gv w a ws) (hfit : ∀ r ∈ ws, r.fits) (hl : ws.length ≤ 1048576) :
    Calls Tryz.prog 73 #[.slice a ws.length cap] w fun e w' => (∃ q : Bool, e = .returned (.bool q) ∧ W.Says q ws) ∧ Below w.heap.size w w' := by
  rcases h with rfl | ⟨b, rfl, hb, hR⟩
  · refine (W.specWants_zero a cap w).mono ?_
    rintro e w' ⟨rfl, rfl⟩
    exact ⟨⟨true, rfl, ⟨fun _ => ⟨by simp, (fun j r hj hr => by simp at hr), (fun j q r hj hq hr => by simp at hq), (fun j r hj hr => by simp at hr)⟩, fun _ => rfl⟩⟩, Below.refl _ _⟩
  · exact W.specWantsOk b 0 cap ws w hR hb hfit hl
theorem specRunsOk_gv (a : Option Addr) (cap : Nat) (rs : List RunD) (clock : Int) (w : World) (h : Gv w a rs) (hfit : ∀ r ∈ rs, r.fits) (hl : rs.length ≤ 1048576) :
    Calls Tryz.prog 74 #[.slice a rs.length cap, .int .i64 clock] w fun e w' => (∃ q : Bool, e = .returned (.bool q) ∧ (q = true ↔ rs.length ≤ 20 ∧ AllOk clock rs rs.length)) ∧ Below w.heap.size w w' := by
  rcases h with rfl | ⟨b, rfl, hb, hR⟩
  · refine (specRuns_zero a cap clock w).mono ?_
    rintro e w' ⟨rfl, rfl⟩
    exact ⟨⟨true, rfl, ⟨fun _ => ⟨by simp, (fun j r hj hr => by simp at hr)⟩, fun _ => rfl⟩⟩, Below.refl _ _⟩
  · exact specRunsOk b 0 cap rs clock w hR hb hfit hl
theorem A.specAsksOk_gv (a : Option Addr) (cap : Nat) (rs : List A.AskD) (clock : Int) (w : World) (h : A.Gv w a rs) (hfit : ∀ r ∈ rs, r.fits) (hl : rs.length ≤ 1048576) :
    Calls Tryz.prog 75 #[.slice a rs.length cap, .int .i64 clock] w fun e w' => (∃ q : Bool, e = .returned (.bool q) ∧ A.SaysA q clock rs) ∧ Below w.heap.size w w' := by
  rcases h with rfl | ⟨b, rfl, hb, hR⟩
  · refine (A.specAsks_zero a cap clock w).mono ?_
    rintro e w' ⟨rfl, rfl⟩
    exact ⟨⟨true, rfl, ⟨fun _ => ⟨by simp, (fun j q r hj hq hr => by simp at hq), (fun r hr => by simp at hr)⟩, fun _ => rfl⟩⟩, Below.refl _ _⟩
  · exact A.specAsksOk b 0 cap rs clock w hR hb hfit hl
theorem A.specAsk_gv (a : Option Addr) (cap : Nat) (rs : List A.AskD) (x : ByteArray) (w : World) (h : A.Gv w a rs) (hl : rs.length ≤ 1048576) :
    Calls Tryz.prog 76 #[.slice a rs.length cap, .string x] w fun e w' => e = .returned (.int .i64 (A.askAt rs x)) ∧ w' = w := by
  rcases h with rfl | ⟨b, rfl, hb, hR⟩
  · refine (A.specAsk_zero a cap x w).mono ?_
    rintro e w' ⟨rfl, rfl⟩
    exact ⟨rfl, rfl⟩
  · exact A.specAsk_x b 0 cap rs x w hR hb hl
/-- A mate's lists, each given or nil. -/
structure ListsX (w : World) (m : MateD) (a1 a2 a3 a4 : Option Addr) : Prop where
  r1 : W.Gv w a1 m.ws
  r2 : Gv w a2 m.rs
  r3 : A.Gv w a3 m.qs
  r4 : A.Gv w a4 m.gs
theorem ListsX.keep {w w' : World} {m : MateD} {a1 a2 a3 a4 : Option Addr} (h : ListsX w m a1 a2 a3 a4) (hB : Below w.heap.size w w') : ListsX w' m a1 a2 a3 a4 := ⟨h.r1.keep hB, h.r2.keep hB, h.r3.keep hB, h.r4.keep hB⟩
end Go.Proofs.YtdkjhonaafadjaaGreat
/- Books that are ok: the program's look at time and grants. -/
namespace Go.Proofs.YtdkjhonaafadjaaGreat.P
open Go.RowKit
set_option linter.unusedVariables false

theorem timeOk_any (t : Int) (a1 a2 : Option Addr) (n1 c1 n2 c2 : Nat) (w : World) :
    Calls Tryz.prog 104 #[.agg #[.int .i64 t, .slice a1 n1 c1, .slice a2 n2 c2]] w fun e w' => e = .returned (.bool (timeB t)) ∧ Below w.heap.size w w' := by
  cases q1 : inB t 0 2000000
  · go_enter Tryz.func104, Tryz.ntmps104
    go_wp2_with (go_at_call 81; refine (within_any _ _ _ _).mono ?_; rintro e w' ⟨rfl, rfl⟩)
    go_ret
    exact ⟨ret_b (by simp [timeB, q1]), bl_alloc (Below.refl _ _) _⟩
  · have h0 : 0 ≤ t := by simp [inB] at q1; omega
    by_cases q2 : t % 2 = 0
    · go_enter Tryz.func104, Tryz.ntmps104
      go_wp2_with (go_at_call 81; refine (within_any _ _ _ _).mono ?_; rintro e w' ⟨rfl, rfl⟩)
      go_ret
      exact ⟨ret_b (by simp [timeB, q1, q2]), bl_alloc (Below.refl _ _) _⟩
    · go_enter Tryz.func104, Tryz.ntmps104
      go_wp2_with (go_at_call 81; refine (within_any _ _ _ _).mono ?_; rintro e w' ⟨rfl, rfl⟩)
      go_ret
      exact ⟨ret_b (by simp [timeB, q1, q2]), bl_alloc (Below.refl _ _) _⟩

set_option maxRecDepth 4000 in
set_option maxHeartbeats 1000000 in
theorem grantOk_any (r : G.GrantD) (t : Int) (w : World) (hf : r.fits) (h0 : 0 ≤ t) (h1 : t ≤ 2000000) :
    Calls Tryz.prog 129 #[.agg #[.string r.h, .string r.b, .string r.c, .int .i64 r.t, .int .i64 r.u], .int .i64 t] w fun e w' => e = .returned (.bool (grantB t r)) ∧ Below w.heap.size w w' := by
  cases q1 : holdB r.h
  · skip
    go_enter Tryz.func129, Tryz.ntmps129
    go_wp2_with (first | (go_at_call 144; refine (implHold_any r.h _ hf.1).mono ?_; rintro e w' ⟨rfl, rfl⟩) | (go_at_call 133; refine (implName_any _ _ (by first | exact hf.2.1 | exact hf.2.2)).mono ?_; rintro e w' ⟨rfl, rfl⟩) | (go_at_call 81; refine (within_any _ _ _ _).mono ?_; rintro e w' ⟨rfl, rfl⟩))
    go_ret
    exact ⟨ret_b (by simp [grantB, *]), bl_alloc (Below.refl _ _) _⟩
  cases q2 : nameB r.b
  · skip
    go_enter Tryz.func129, Tryz.ntmps129
    go_wp2_with (first | (go_at_call 144; refine (implHold_any r.h _ hf.1).mono ?_; rintro e w' ⟨rfl, rfl⟩) | (go_at_call 133; refine (implName_any _ _ (by first | exact hf.2.1 | exact hf.2.2)).mono ?_; rintro e w' ⟨rfl, rfl⟩) | (go_at_call 81; refine (within_any _ _ _ _).mono ?_; rintro e w' ⟨rfl, rfl⟩))
    go_ret
    exact ⟨ret_b (by simp [grantB, *]), bl_alloc (Below.refl _ _) _⟩
  cases q3 : nameB r.c
  · skip
    go_enter Tryz.func129, Tryz.ntmps129
    go_wp2_with (first | (go_at_call 144; refine (implHold_any r.h _ hf.1).mono ?_; rintro e w' ⟨rfl, rfl⟩) | (go_at_call 133; refine (implName_any _ _ (by first | exact hf.2.1 | exact hf.2.2)).mono ?_; rintro e w' ⟨rfl, rfl⟩) | (go_at_call 81; refine (within_any _ _ _ _).mono ?_; rintro e w' ⟨rfl, rfl⟩))
    go_ret
    exact ⟨ret_b (by simp [grantB, *]), bl_alloc (Below.refl _ _) _⟩
  cases q4 : inB r.t 0 1000000
  · skip
    go_enter Tryz.func129, Tryz.ntmps129
    go_wp2_with (first | (go_at_call 144; refine (implHold_any r.h _ hf.1).mono ?_; rintro e w' ⟨rfl, rfl⟩) | (go_at_call 133; refine (implName_any _ _ (by first | exact hf.2.1 | exact hf.2.2)).mono ?_; rintro e w' ⟨rfl, rfl⟩) | (go_at_call 81; refine (within_any _ _ _ _).mono ?_; rintro e w' ⟨rfl, rfl⟩))
    go_ret
    exact ⟨ret_b (by simp [grantB, *]), bl_alloc (Below.refl _ _) _⟩
  go_enter Tryz.func129, Tryz.ntmps129
  go_wp2_with (first | (go_at_call 144; refine (implHold_any r.h _ hf.1).mono ?_; rintro e w' ⟨rfl, rfl⟩) | (go_at_call 133; refine (implName_any _ _ (by first | exact hf.2.1 | exact hf.2.2)).mono ?_; rintro e w' ⟨rfl, rfl⟩) | (go_at_call 81; refine (within_any _ _ _ _).mono ?_; rintro e w' ⟨rfl, rfl⟩))
  go_ret
  exact ⟨ret_b (by simp [grantB, *]), bl_alloc (Below.refl _ _) _⟩
theorem closGrant (r : G.GrantD) (t : Int) (bk : Nat) (w : World) (hc : w.cell? ⟨bk, 0, none⟩ = some (.int .i64 t)) (lk : bk < w.heap.size) (hf : r.fits) (h0 : 0 ≤ t) (h1 : t ≤ 2000000) :
    Calls Tryz.prog 128 #[.agg #[.string r.h, .string r.b, .string r.c, .int .i64 r.t, .int .i64 r.u], .pointer (some ⟨bk, 0, none⟩)] w fun e w' => e = .returned (.bool (grantB t r)) ∧ Below w.heap.size w w' := by
  go_enter Tryz.func128, Tryz.ntmps128
  go_wp2_with (go_at_call 129; refine (grantOk_any r t _ hf h0 h1).mono ?_; rintro e w' ⟨rfl, hx⟩)
  go_ret
  exact ⟨rfl, bl_trans (bl_alloc (Below.refl _ _) _) hx⟩
end Go.Proofs.YtdkjhonaafadjaaGreat.P
/- Books that are ok: the program's look at grants and places. -/
namespace Go.Proofs.YtdkjhonaafadjaaGreat.P
open Go.RowKit
set_option linter.unusedVariables false

def SaysG (q : Bool) (t : Int) (gs : List G.GrantD) : Prop := q = true ↔ GrantsSay t gs
def SaysP (q : Bool) (ps : List PlaceD) : Prop := q = true ↔ PlacesSay ps
def SaysF (q : Bool) (b : ByteArray) (s : Int) (ws : List W.WantD) : Prop := q = true ↔ nameB b = true ∧ (inB s 1 1000000 = true ∧ (ws.length ≤ 10 ∧ W.AllW ws ws.length))
theorem ml_box {w w' : World} {t : Int} {gs : List G.GrantD} {ps : List PlaceD} {b1 b2 : Nat} (hb : Below (w.alloc (.cells #[.int .i64 t, .slice (some ⟨b1, 0, none⟩) gs.length gs.length, .slice (some ⟨b2, 0, none⟩) ps.length ps.length] 27)).heap.size (w.alloc (.cells #[.int .i64 t, .slice (some ⟨b1, 0, none⟩) gs.length gs.length, .slice (some ⟨b2, 0, none⟩) ps.length ps.length] 27)) w') : (∀ k, w'.cell? ⟨w.heap.size, k, none⟩ = (#[.int .i64 t, .slice (some ⟨b1, 0, none⟩) gs.length gs.length, .slice (some ⟨b2, 0, none⟩) ps.length ps.length] : Array Value)[k]?) ∧ w.heap.size < w'.heap.size := by
  constructor
  · intro k
    rw [hb.cell (p := ⟨w.heap.size, k, none⟩) (by simp)]
    simp [go_sem]
  · have := hb.size; simp at this; omega

set_option maxRecDepth 4000 in
set_option maxHeartbeats 1000000 in
theorem grantsOk_any (t : Int) (gs : List G.GrantD) (ps : List PlaceD) (b1 b2 : Nat) (w : World) (hA : LandAt w gs ps b1 b2) (hF : Fit gs ps) (h0 : 0 ≤ t) (h1 : t ≤ 2000000) :
    Calls Tryz.prog 105 #[.agg #[.int .i64 t, .slice (some ⟨b1, 0, none⟩) gs.length gs.length, .slice (some ⟨b2, 0, none⟩) ps.length ps.length]] w fun e w' => (∃ q : Bool, e = .returned (.bool q) ∧ SaysG q t gs) ∧ Below w.heap.size w w' := by
  have HA : Hid (LandAt w gs ps b1 b2) := hA
  have HF : Hid (Fit gs ps) := hF
  have hgl := hF.gl
  clear hA hF
  by_cases h40 : gs.length ≤ 40
  · have hi40 : (gs.length : Int) ≤ 40 := by omega
    go_enter Tryz.func105, Tryz.ntmps105
    go_wp2_with fail
    have hb0 : Below w.heap.size w (w.alloc (.cells #[.int .i64 t, .slice (some ⟨b1, 0, none⟩) gs.length gs.length, .slice (some ⟨b2, 0, none⟩) ps.length ps.length] 27)) := bl_alloc (Below.refl _ _) _
    refine (G.ascends b1 0 gs.length gs _ (HA.out.keep hb0).g (HA.out.keep hb0).g1 hgl).mono ?_
    rintro e w1 ⟨⟨q1, rfl, k1⟩, c1⟩
    have B1 : Hid (Below w.heap.size w w1) := bl_trans hb0 c1
    have H0 : Hid _ := k1
    obtain ⟨kb, kz⟩ := ml_box c1
    clear k1 hb0 c1
    cases q1
    · go_wp2
      go_ret
      exact ⟨⟨false, rfl, ⟨fun h => (by cases h), fun h => by have := H0.out.2 h.2.1; cases this⟩⟩, B1.out⟩
    · have H1 : Hid _ := H0.out.1 rfl
      have Hck : Hid (w1.cell? ⟨w.heap.size, 0, none⟩ = some (.int .i64 t)) := kb 0
      clear H0
      go_wp2_with fail
      refine (G.allOk w.heap.size (grantB t) b1 0 gs.length gs w1 (HA.out.keep B1.out).g (HA.out.keep B1.out).g1 hgl (fun r hr x hx => closGrant r t w.heap.size x ((hx.cell (p := ⟨w.heap.size, 0, none⟩) kz).trans Hck.out) (Nat.lt_of_lt_of_le kz hx.size) (HF.out.g r hr) h0 h1)).mono ?_
      rintro e w2 ⟨⟨q2, rfl, k2⟩, c2⟩
      have B2 : Hid _ := bl_trans B1.out c2
      have H2 : Hid _ := k2
      clear c2 k2 kb
      go_wp2
      go_ret
      exact ⟨⟨q2, rfl, ⟨fun h => ⟨h40, H1.out, H2.out.1 h⟩, fun h => H2.out.2 h.2.2⟩⟩, B2.out⟩
  · have hi40 : (40 : Int) < (gs.length : Int) := by omega
    have H40 : Hid _ := h40
    clear h40
    go_enter Tryz.func105, Tryz.ntmps105
    go_wp2
    go_ret
    first
    | exact ⟨Or.inl ⟨rfl, ⟨fun h => (by cases h), fun h => absurd h.1 H40.out⟩⟩, bl_alloc (Below.refl _ _) _⟩
    | exact ⟨⟨false, rfl, ⟨fun h => (by cases h), fun h => absurd h.1 H40.out⟩⟩, bl_alloc (Below.refl _ _) _⟩

set_option maxRecDepth 4000 in
set_option maxHeartbeats 1000000 in
theorem placeOk_q (b : ByteArray) (s : Int) (g : Nat) (ws : List W.WantD) (w : World) (hb : b.size ≤ maxLen) (hg : g < w.heap.size) (hR : W.RowsAt w g 0 ws) (hfit : ∀ r ∈ ws, r.fits) (hl : ws.length ≤ 1048576) :
    Calls Tryz.prog 132 #[.agg #[.string b, .int .i64 s, .slice (some ⟨g, 0, none⟩) ws.length ws.length]] w fun e w' => (∃ q : Bool, e = .returned (.bool q) ∧ SaysF q b s ws) ∧ Below w.heap.size w w' := by
  have HR : Hid (W.RowsAt w g 0 ws) := hR
  have HF : Hid _ := hfit
  clear hR hfit
  have hb0 : Hid (Below w.heap.size w (w.alloc (.cells #[.string b, .int .i64 s, .slice (some ⟨g, 0, none⟩) ws.length ws.length] 75))) := bl_alloc (Below.refl _ _) _
  cases q1 : nameB b
  · go_enter Tryz.func132, Tryz.ntmps132
    go_wp2_with (first | (go_at_call 133; refine (implName_any _ _ hb).mono ?_; rintro e w' ⟨rfl, rfl⟩) | (go_at_call 81; refine (within_any _ _ _ _).mono ?_; rintro e w' ⟨rfl, rfl⟩))
    go_ret
    exact ⟨⟨false, rfl, ⟨fun h => (by cases h), fun h => by have := h.1; rw [q1] at this; cases this⟩⟩, hb0.out⟩
  cases q2 : inB s 1 1000000
  · go_enter Tryz.func132, Tryz.ntmps132
    go_wp2_with (first | (go_at_call 133; refine (implName_any _ _ hb).mono ?_; rintro e w' ⟨rfl, rfl⟩) | (go_at_call 81; refine (within_any _ _ _ _).mono ?_; rintro e w' ⟨rfl, rfl⟩))
    go_ret
    exact ⟨⟨false, rfl, ⟨fun h => (by cases h), fun h => by have := h.2.1; rw [q2] at this; cases this⟩⟩, hb0.out⟩
  · go_enter Tryz.func132, Tryz.ntmps132
    go_wp2_with (first | (go_at_call 133; refine (implName_any _ _ hb).mono ?_; rintro e w' ⟨rfl, rfl⟩) | (go_at_call 81; refine (within_any _ _ _ _).mono ?_; rintro e w' ⟨rfl, rfl⟩))
    refine (W.implWantsOk g 0 ws _ (HR.out.keep hg hb0.out) (Nat.lt_of_lt_of_le hg hb0.out.size) HF.out hl).mono ?_
    rintro e w1 ⟨⟨q, rfl, k⟩, c⟩
    have K : Hid _ := k
    have B1 : Hid _ := bl_trans hb0.out c
    clear k c
    go_wp2
    go_ret
    exact ⟨⟨q, rfl, ⟨fun h => ⟨q1, q2, K.out.1 h⟩, fun h => K.out.2 h.2.2⟩⟩, B1.out⟩
open Classical in
noncomputable def fineB (r : PlaceD) : Bool := decide r.fine
theorem fineB_iff (r : PlaceD) : fineB r = true ↔ r.fine := by
  classical
  unfold fineB
  exact decide_eq_true_iff
theorem fineB_of {r : PlaceD} {q : Bool} (k : q = true ↔ r.fine) : q = fineB r := by
  have h := k.trans (fineB_iff r).symm
  cases q <;> cases hf : fineB r <;> simp_all
theorem placeOk_any (r : PlaceD) (w : World) (hk : r.blk 0 w) (hb : r.b.size ≤ maxLen) (hfit : ∀ q ∈ r.ws, q.fits) (hl : r.ws.length ≤ 1048576) :
    Calls Tryz.prog 132 #[.agg #[.string r.b, .int .i64 r.s, .slice r.a r.ws.length r.c]] w fun e w' => e = .returned (.bool (fineB r)) ∧ Below w.heap.size w w' := by
  obtain ⟨b, s, a, c, ws⟩ := r
  obtain ⟨g, e1, e2, -, h3, h4⟩ := hk
  simp only at e1 e2 hb hfit hl h4
  subst e1 e2
  refine (placeOk_q b s g ws w hb h3 h4 hfit hl).mono ?_
  rintro e w' ⟨⟨q, rfl, k⟩, c⟩
  refine ⟨?_, c⟩
  have : q = fineB ⟨b, s, some ⟨g, 0, none⟩, ws.length, ws⟩ := fineB_of k
  rw [this]

set_option maxRecDepth 4000 in
set_option maxHeartbeats 1000000 in
theorem placesOk_any (t : Int) (gs : List G.GrantD) (ps : List PlaceD) (b1 b2 : Nat) (w : World) (hA : LandAt w gs ps b1 b2) (hF : Fit gs ps) :
    Calls Tryz.prog 106 #[.agg #[.int .i64 t, .slice (some ⟨b1, 0, none⟩) gs.length gs.length, .slice (some ⟨b2, 0, none⟩) ps.length ps.length]] w fun e w' => (∃ q : Bool, e = .returned (.bool q) ∧ SaysP q ps) ∧ Below w.heap.size w w' := by
  have HA : Hid (LandAt w gs ps b1 b2) := hA
  have HF : Hid (Fit gs ps) := hF
  have hpl := hF.pl
  clear hA hF
  by_cases h4 : ps.length ≤ 4
  · have hi4 : (ps.length : Int) ≤ 4 := by omega
    go_enter Tryz.func106, Tryz.ntmps106
    go_wp2_with fail
    have hb0 : Below w.heap.size w (w.alloc (.cells #[.int .i64 t, .slice (some ⟨b1, 0, none⟩) gs.length gs.length, .slice (some ⟨b2, 0, none⟩) ps.length ps.length] 27)) := bl_alloc (Below.refl _ _) _
    refine (ascends b2 0 ps.length ps _ (HA.out.keep hb0).p (HA.out.keep hb0).p1 hpl).mono ?_
    rintro e w1 ⟨⟨q1, rfl, k1⟩, c1⟩
    have B1 : Hid (Below w.heap.size w w1) := bl_trans hb0 c1
    have H0 : Hid _ := k1
    obtain ⟨kb, kz⟩ := ml_box c1
    clear k1 hb0 c1
    cases q1
    · go_wp2
      go_ret
      exact ⟨⟨false, rfl, ⟨fun h => (by cases h), fun h => by have := H0.out.2 h.2.1; cases this⟩⟩, B1.out⟩
    · have H1 : Hid _ := H0.out.1 rfl
      clear H0
      go_wp2_with fail
      refine (allOk fineB b2 0 ps.length ps w1 (HA.out.keep B1.out).p (HA.out.keep B1.out).p1 hpl (fun r hr x hx => placeOk_any r x (((HA.out.keep B1.out).k r hr).keep hx) (HF.out.p r hr).1 (HF.out.p r hr).2 (HF.out.ln r hr))).mono ?_
      rintro e w2 ⟨⟨q2, rfl, k2⟩, c2⟩
      have B2 : Hid _ := bl_trans B1.out c2
      have H2 : Hid _ := k2
      clear c2 k2 kb
      go_wp2
      go_ret
      exact ⟨⟨q2, rfl, ⟨fun h => ⟨h4, H1.out, fun p hp => (fineB_iff p).1 (H2.out.1 h p hp)⟩, fun h => H2.out.2 (fun p hp => (fineB_iff p).2 (h.2.2 p hp))⟩⟩, B2.out⟩
  · have hi4 : (4 : Int) < (ps.length : Int) := by omega
    have H4 : Hid _ := h4
    clear h4
    go_enter Tryz.func106, Tryz.ntmps106
    go_wp2
    go_ret
    first
    | exact ⟨Or.inl ⟨rfl, ⟨fun h => (by cases h), fun h => absurd h.1 H4.out⟩⟩, bl_alloc (Below.refl _ _) _⟩
    | exact ⟨⟨false, rfl, ⟨fun h => (by cases h), fun h => absurd h.1 H4.out⟩⟩, bl_alloc (Below.refl _ _) _⟩
end Go.Proofs.YtdkjhonaafadjaaGreat.P
/- A list's cells, one behind the other. -/
namespace Go.Proofs.YtdkjhonaafadjaaGreat.W
open Go.RowKit
set_option linter.unusedVariables false

theorem flat_cells {w : World} {g : Nat} {l : List WantD} (h : RowsAt w g 0 l) : ∀ j u, (flatR l)[j]? = some u → w.cell? ((⟨g, 0, none⟩ : Addr).add j) = some u := by
  intro j u hj
  have hlt : j < l.length * 7 := by rw [← flatR_len]; exact (List.getElem?_eq_some_iff.1 hj).1
  have hk : j / 7 < l.length := by omega
  have hr : j % 7 < 7 := Nat.mod_lt _ (by decide)
  have e : j / 7 * 7 + j % 7 = j := by omega
  have h1 := flatR_at l (j / 7) l[j / 7] (List.getElem?_eq_getElem hk) (j % 7) hr
  rw [e, hj] at h1
  have h2 := h (j / 7) l[j / 7] (List.getElem?_eq_getElem hk) (j % 7) u h1.symm
  rw [Addr.add_mid]
  rw [show 0 + j / 7 * 7 + j % 7 = 0 + j from by omega] at h2
  exact h2
end Go.Proofs.YtdkjhonaafadjaaGreat.W
/- Books that are ok: holds at all places; the program's side. -/
namespace Go.Proofs.YtdkjhonaafadjaaGreat.W
open Go.RowKit
set_option linter.unusedVariables false

set_option maxHeartbeats 1000000 in
theorem holdsDiffer2 (a : Option Addr) (cap : Nat) (ws : List WantD) (w : World) (hG : Gv w a ws) (hc : ws.length ≤ cap) (hl : ws.length ≤ 1048576) :
    Calls Tryz.prog 46 #[.slice a ws.length cap] w fun e w' => (∃ q : Bool, e = .returned (.bool q) ∧ (q = true ↔ Diff ws ws.length)) ∧ Below w.heap.size w w' := by
  go_enter Tryz.func46, Tryz.ntmps46
  go_wp2
  go_loopw [9] (fun i wx => ∃ (k : Nat), k ≤ ws.length ∧ i = .int .i64 k ∧ Hid (Diff ws k) ∧ Below w.heap.size w wx) (fun i _ => ws.length - (intOf i).toNat)
  case atStart => exact ⟨0, Nat.zero_le _, rfl, fun j r h => by omega, Below.refl _ _⟩
  case round =>
    obtain ⟨k, hk, rfl, Ha, hB⟩ := hrel
    by_cases hlt : k < ws.length
    · obtain ⟨b, rfl, l1, hR⟩ := hG.resolve_left (fun h => by rw [h] at hlt; simp at hlt)
      have hkc : (k : Int) ≤ (cap : Int) := by omega
      obtain ⟨r, hr⟩ : ∃ r, ws[k]? = some r := ⟨ws[k], List.getElem?_eq_getElem hlt⟩
      have Hr : Hid _ := hr
      clear hr
      have i0 : (0 : Int) ≤ (k : Int) := by omega
      have i1 : (k : Int) ≤ (ws.length : Int) := by omega
      obtain ⟨c0, c1, c2, c3, c4, c5, c6⟩ := (hR.keep l1 hB).at Hr.out
      simp only [Nat.zero_add] at c0 c1 c2 c3 c4 c5 c6
      obtain ⟨wo, rfl⟩ : ∃ wo : World, wo = wr := ⟨_, rfl⟩
      go_wp2_with fail
      clear c0 c1 c2 c3 c4 c5 c6
      go_loopw [18] (fun j wx => ∃ (n : Nat), n ≤ k ∧ j = .int .i64 n ∧ Hid (NoneOf ws r n) ∧ Below (wo.alloc (.cells #[.string r.c, .int .i64 r.v, .string r.h, .int .i64 r.p, .int .i64 r.s, .int .i64 r.d, .int .i64 r.g] 68)).heap.size (wo.alloc (.cells #[.string r.c, .int .i64 r.v, .string r.h, .int .i64 r.p, .int .i64 r.s, .int .i64 r.d, .int .i64 r.g] 68)) wx) (fun j _ => k - (intOf j).toNat)
      case atStart => exact ⟨0, Nat.zero_le _, rfl, fun i q h => by omega, Below.refl _ _⟩
      case round =>
        obtain ⟨n, hn, rfl, Hn, hBn⟩ := hrel
        have bo : Below w.heap.size w wr := bl_trans (bl_trans hB (bl_alloc (Below.refl _ _) _)) hBn
        by_cases hnl : n < k
        · obtain ⟨t, ht⟩ : ∃ t, ws[n]? = some t := ⟨ws[n], List.getElem?_eq_getElem (by omega)⟩
          have Ht : Hid _ := ht
          clear ht
          have j0 : (0 : Int) ≤ (n : Int) := by omega
          have j1 : (n : Int) < (k : Int) := by omega
          obtain ⟨c0, c1, c2, c3, c4, c5, c6⟩ := (hR.keep l1 bo).at Ht.out
          simp only [Nat.zero_add] at c0 c1 c2 c3 c4 c5 c6
          have hkb := box_keep hBn
          have hzb := boxlt hBn
          cases he : r.h.toList.isEmpty
          · cases hcl : (t.h.toList == r.h.toList)
            · go_wp2
              exact ⟨⟨n + 1, by omega, by go_num, NoneOf.step Hn.out Ht.out (by simp [clash, he, hcl]), bl_trans hBn (bl_alloc (Below.refl _ _) _)⟩, by simp [intOf]; omega⟩
            · go_wp2
              go_ret
              exact ⟨⟨false, rfl, ⟨fun h => (by cases h), fun h => by have := h k r hlt Hr.out n t hnl Ht.out; simp [clash, he, hcl] at this⟩⟩, bl_alloc bo _⟩
          · go_wp2
            exact ⟨⟨n + 1, by omega, by go_num, NoneOf.step Hn.out Ht.out (by simp [clash, he]), bl_trans hBn (bl_alloc (Below.refl _ _) _)⟩, by simp [intOf]; omega⟩
        · have hne : n = k := by omega
          subst hne
          go_wp2
          exact ⟨⟨n + 1, by omega, by go_num, Ha.out.step Hr.out Hn.out, bo⟩, by simp [intOf]; omega⟩
    · go_wp2
      go_ret
      exact ⟨⟨true, rfl, ⟨fun _ j r hj hr => Ha.out j r (by omega) hr, fun _ => rfl⟩⟩, hB⟩
end Go.Proofs.YtdkjhonaafadjaaGreat.W
namespace Go.Proofs.YtdkjhonaafadjaaGreat.P
open Go.RowKit
set_option linter.unusedVariables false

def SaysH (q : Bool) (ps : List PlaceD) : Prop := q = true ↔ W.Diff (ps.flatMap (·.ws)) (ps.flatMap (·.ws)).length
theorem flat_len (ps : List PlaceD) (h : ∀ p ∈ ps, p.ws.length ≤ 10) : (ps.flatMap (·.ws)).length ≤ ps.length * 10 := by
  induction ps with
  | nil => simp
  | cons p ps ih =>
    rw [List.flatMap_cons, List.length_append, List.length_cons]
    have h1 := h p (List.mem_cons_self ..)
    have h2 := ih (fun q hq => h q (List.mem_cons_of_mem _ hq))
    omega
theorem flatW_append (xs ys : List W.WantD) : W.flatR (xs ++ ys) = W.flatR xs ++ W.flatR ys := by simp [W.flatR]
theorem flat_step {ps : List PlaceD} {k : Nat} {p : PlaceD} (hp : ps[k]? = some p) : (ps.take (k + 1)).flatMap (·.ws) = (ps.take k).flatMap (·.ws) ++ p.ws := by
  have hlt : k < ps.length := (List.getElem?_eq_some_iff.1 hp).1
  have he : ps[k] = p := by rw [List.getElem?_eq_getElem hlt] at hp; exact Option.some.inj hp
  rw [List.take_succ_eq_append_getElem hlt, List.flatMap_append, he]
  simp
theorem sl_gv {w : World} {v : Value} {ws : List W.WantD} {B : Nat} (h : w.ownsRow B 68 7 v ws.length (W.flatR ws)) : ∃ a c, v = .slice a ws.length c ∧ ws.length ≤ c ∧ W.Gv w a ws := by
  have hs : W.Sl w v ws B := W.Sl.of_owns h
  rcases h.2 with ⟨h1, h2⟩ | ⟨g, cap, cur, h1, -, -, h4, -⟩
  · exact ⟨none, 0, by rw [h2]; exact h1, by omega, Or.inl (List.eq_nil_of_length_eq_zero h2)⟩
  · refine ⟨_, cap, h1, h4, ?_⟩
    rcases hs with ⟨-, h⟩ | ⟨g', cap', e, h1', h2', h3', h4'⟩
    · exact Or.inl h
    · rw [h1] at e; cases e; exact Or.inr ⟨g, rfl, h2', h3'⟩

set_option maxRecDepth 4000 in
set_option maxHeartbeats 1000000 in
theorem holdApart_any (t : Int) (gs : List G.GrantD) (ps : List PlaceD) (b1 b2 : Nat) (w : World) (hA : LandAt w gs ps b1 b2) (hF : Fit gs ps) (h4 : ps.length ≤ 4) (h10 : ∀ p ∈ ps, p.ws.length ≤ 10) :
    Calls Tryz.prog 107 #[.agg #[.int .i64 t, .slice (some ⟨b1, 0, none⟩) gs.length gs.length, .slice (some ⟨b2, 0, none⟩) ps.length ps.length]] w fun e w' => (∃ q : Bool, e = .returned (.bool q) ∧ SaysH q ps) ∧ Below w.heap.size w w' := by
  have HA : Hid (LandAt w gs ps b1 b2) := hA
  have H10 : Hid _ := h10
  obtain ⟨i0, hi, hz0, hz1, hz2⟩ := info_parts W.infoR
  clear hA hF h10
  go_enter Tryz.func107, Tryz.ntmps107
  go_wp2
  go_loopw [3, 9] (fun v i wx => ∃ (k : Nat), k ≤ ps.length ∧ i = .int .i64 k ∧ wx.ownsRow (w.heap.size + 1) 68 7 v ((ps.take k).flatMap (·.ws)).length (W.flatR ((ps.take k).flatMap (·.ws))) ∧ Below (w.alloc (.cells #[.int .i64 t, .slice (some ⟨b1, 0, none⟩) gs.length gs.length, .slice (some ⟨b2, 0, none⟩) ps.length ps.length] 27)).heap.size (w.alloc (.cells #[.int .i64 t, .slice (some ⟨b1, 0, none⟩) gs.length gs.length, .slice (some ⟨b2, 0, none⟩) ps.length ps.length] 27)) wx) (fun _ i _ => ps.length - (intOf i).toNat)
  case atStart => exact ⟨0, Nat.zero_le _, rfl, World.ownsRow_nil _ _ _ _, Below.refl _ _⟩
  case round =>
    obtain ⟨k, hk, rfl, hown, hB⟩ := hrel
    by_cases hlt : k < ps.length
    · obtain ⟨p, hp⟩ : ∃ p, ps[k]? = some p := ⟨ps[k], List.getElem?_eq_getElem hlt⟩
      have Hp : Hid _ := hp
      have hA1 := HA.out.keep (bl_trans (bl_alloc (Below.refl _ _) _) hB)
      obtain ⟨c0, c1, c2⟩ := hA1.p.at hp
      simp only [Nat.zero_add] at c0 c1 c2
      obtain ⟨g, e1, e2, -, hg, hrw⟩ := hA1.k p (List.mem_of_getElem? hp)
      have hw10 : p.ws.length ≤ 10 := H10.out p (List.mem_of_getElem? hp)
      rw [e1, e2] at c2
      obtain ⟨n, hn⟩ : ∃ n, n = ((ps.take k).flatMap (·.ws)).length := ⟨_, rfl⟩
      obtain ⟨xs, hxs⟩ : ∃ xs, xs = W.flatR ((ps.take k).flatMap (·.ws)) := ⟨_, rfl⟩
      have hnk : n ≤ 40 := by
        rw [hn]
        have h1 := flat_len (ps.take k) (fun q hq => H10.out q (List.mem_of_mem_take hq))
        have h2 : (ps.take k).length ≤ 4 := by rw [List.length_take]; omega
        omega
      rw [← hn, ← hxs] at hown
      have Ho : Hid (wr.ownsRow (w.heap.size + 1) 68 7 _ n xs) := hown
      have Hn : Hid _ := hn
      have Hx : Hid _ := hxs
      have Hrw : Hid (W.RowsAt wr g 0 p.ws) := hrw
      have hz : w.heap.size + 1 ≤ wr.heap.size := by have := hB.size; simpa using this
      clear hp hown hn hxs hrw hA1
      go_wp2_with (at_builtin; refine wpList_append_own _ rfl _ _ 48 rfl (w.heap.size + 1) 68 i0 _ 7 72 Tryz.underlying48 hi hz0 hz1 hz2 rfl (by decide) _ n _ rfl (by exact owns_below Ho.out (by repeat (first | exact Below.refl _ _ | refine bl_alloc ?_ _))) ⟨g, 0, none⟩ p.ws.length p.ws.length (W.flatR p.ws) (by first | rfl | simp [Act.eval]) (W.flatR_len _) (W.flat_cells (Hrw.out.keep hg (by repeat (first | exact Below.refl _ _ | refine bl_alloc ?_ _)))) (W.flatR_one _) (by unfold maxLen; omega) (by omega) (by simp; omega) ?_; intro v' w2 ho2 hg2 hn2)
      refine ⟨⟨k + 1, by omega, by go_num, ?_, Below.grown (by repeat (first | exact hB | refine bl_alloc ?_ _)) hg2 (by simp; omega) (fun j hj => by have := owns_ge Ho.out j hj; simpa using this)⟩, by simp [intOf]; omega⟩
      rw [flat_step Hp.out, List.length_append, flatW_append, ← Hn.out, ← Hx.out]
      exact ho2
    · have hk' : k = ps.length := by omega
      subst hk'
      rw [List.take_of_length_le (Nat.le_refl _)] at hown
      obtain ⟨a, c, rfl, hc, hG⟩ := sl_gv hown
      have HG : Hid _ := hG
      have hlen : (ps.flatMap (·.ws)).length ≤ 1048576 := by
        have h1 := flat_len ps H10.out
        omega
      obtain ⟨l, hl⟩ : ∃ l, l = ps.flatMap (·.ws) := ⟨_, rfl⟩
      have Hl : Hid _ := hl
      rw [← hl] at hc hlen ⊢
      have HG2 : Hid (W.Gv wr a l) := by rw [hl]; exact HG.out
      have HB : Hid (Below w.heap.size w wr) := bl_trans (bl_alloc (Below.refl _ _) _) hB
      clear hl hown hG HG hB
      go_wp2_with fail
      refine (W.holdsDiffer2 a c l _ HG2.out hc hlen).mono ?_
      rintro e w3 ⟨⟨q, rfl, kq⟩, c3⟩
      have K : Hid _ := kq
      have B3 : Hid (Below w.heap.size w w3) := bl_trans HB.out c3
      clear kq c3
      go_wp2
      go_ret
      exact ⟨⟨q, rfl, by unfold SaysH; rw [← Hl.out]; exact K.out⟩, B3.out⟩
end Go.Proofs.YtdkjhonaafadjaaGreat.P
/- The program's checks of lists that are given, or nil. -/
namespace Go.Proofs.YtdkjhonaafadjaaGreat
open Go.RowKit
set_option linter.unusedVariables false

theorem W.all_zero (a : Option Addr) (cap : Nat) (v : Value) (w : World) :
    Calls Tryz.prog 157 #[.slice a 0 cap, v] w fun e w' => e = .returned (.bool true) ∧ w' = w := by
  go_enter Tryz.func157, Tryz.ntmps157
  go_wp2
  refine wp_loop_rounds 1 ?_
  rw [rounds_succ]
  go_wp2
  go_ret
  exact ⟨rfl, rfl⟩
theorem W.asc_zero (a : Option Addr) (cap : Nat) (v : Value) (w : World) :
    Calls Tryz.prog 159 #[.slice a 0 cap, v] w fun e w' => e = .returned (.bool true) ∧ w' = w := by
  go_enter Tryz.func159, Tryz.ntmps159
  go_wp2
  refine wp_loop_rounds 1 ?_
  rw [rounds_succ]
  go_wp2
  go_ret
  exact ⟨rfl, rfl⟩
theorem all_zero (a : Option Addr) (cap : Nat) (v : Value) (w : World) :
    Calls Tryz.prog 141 #[.slice a 0 cap, v] w fun e w' => e = .returned (.bool true) ∧ w' = w := by
  go_enter Tryz.func141, Tryz.ntmps141
  go_wp2
  refine wp_loop_rounds 1 ?_
  rw [rounds_succ]
  go_wp2
  go_ret
  exact ⟨rfl, rfl⟩
theorem asc_zero (a : Option Addr) (cap : Nat) (v : Value) (w : World) :
    Calls Tryz.prog 149 #[.slice a 0 cap, v] w fun e w' => e = .returned (.bool true) ∧ w' = w := by
  go_enter Tryz.func149, Tryz.ntmps149
  go_wp2
  refine wp_loop_rounds 1 ?_
  rw [rounds_succ]
  go_wp2
  go_ret
  exact ⟨rfl, rfl⟩
theorem A.all_zero (a : Option Addr) (cap : Nat) (v : Value) (w : World) :
    Calls Tryz.prog 139 #[.slice a 0 cap, v] w fun e w' => e = .returned (.bool true) ∧ w' = w := by
  go_enter Tryz.func139, Tryz.ntmps139
  go_wp2
  refine wp_loop_rounds 1 ?_
  rw [rounds_succ]
  go_wp2
  go_ret
  exact ⟨rfl, rfl⟩
theorem A.asc_zero (a : Option Addr) (cap : Nat) (v : Value) (w : World) :
    Calls Tryz.prog 154 #[.slice a 0 cap, v] w fun e w' => e = .returned (.bool true) ∧ w' = w := by
  go_enter Tryz.func154, Tryz.ntmps154
  go_wp2
  refine wp_loop_rounds 1 ?_
  rw [rounds_succ]
  go_wp2
  go_ret
  exact ⟨rfl, rfl⟩
theorem allDown_gv (P : RunD → Bool) (a : Option Addr) (cap : Nat) (rs : List RunD) (w : World) (h : Gv w a rs) (hl : rs.length ≤ 1048576)
    (hF : ∀ r ∈ rs, ∀ x, Below w.heap.size w x → Calls Tryz.prog 142 #[.agg #[.string r.c, .int .i64 r.v, .string r.h, .int .i64 r.p, .int .i64 r.s, .int .i64 r.d, .int .i64 r.g, .int .i64 r.a, .int .i64 r.b, .int .i64 r.i, .int .i64 r.u]] x fun e x' => e = .returned (.bool (P r)) ∧ Below x.heap.size x x') :
    Calls Tryz.prog 141 #[.slice a rs.length cap, .func (.func 142) #[] #[]] w fun e w' => (∃ q : Bool, e = .returned (.bool q) ∧ (q = true ↔ ∀ r ∈ rs, P r = true)) ∧ Below w.heap.size w w' := by
  rcases h with rfl | ⟨b, rfl, hb, hR⟩
  · refine (all_zero a cap _ w).mono ?_
    rintro e w' ⟨rfl, rfl⟩
    exact ⟨⟨true, rfl, ⟨fun _ r hr => (by cases hr), fun _ => rfl⟩⟩, Below.refl _ _⟩
  · exact allDown P b 0 cap rs w hR hb hl hF
theorem A.allGiven_gv (bk : Nat) (P : A.AskD → Bool) (a : Option Addr) (cap : Nat) (rs : List A.AskD) (w : World) (h : A.Gv w a rs) (hl : rs.length ≤ 1048576)
    (hF : ∀ r ∈ rs, ∀ x, Below w.heap.size w x → Calls Tryz.prog 140 #[.agg #[.string r.h, .string r.c, .int .i64 r.f, .int .i64 r.t], .pointer (some ⟨bk, 0, none⟩)] x fun e x' => e = .returned (.bool (P r)) ∧ Below x.heap.size x x') :
    Calls Tryz.prog 139 #[.slice a rs.length cap, .func (.func 140) #[] #[.pointer (some ⟨bk, 0, none⟩)]] w fun e w' => (∃ q : Bool, e = .returned (.bool q) ∧ (q = true ↔ ∀ r ∈ rs, P r = true)) ∧ Below w.heap.size w w' := by
  rcases h with rfl | ⟨b, rfl, hb, hR⟩
  · refine (A.all_zero a cap _ w).mono ?_
    rintro e w' ⟨rfl, rfl⟩
    exact ⟨⟨true, rfl, ⟨fun _ r hr => (by cases hr), fun _ => rfl⟩⟩, Below.refl _ _⟩
  · exact A.allGiven bk P b 0 cap rs w hR hb hl hF
theorem implRunsOk_gv (a : Option Addr) (cap : Nat) (rs : List RunD) (clock : Int) (w : World) (h : Gv w a rs) (hfit : ∀ r ∈ rs, r.fits) (hl : rs.length ≤ 1048576) :
    Calls Tryz.prog 135 #[.slice a rs.length cap, .int .i64 clock] w fun e w' => (∃ q : Bool, e = .returned (.bool q) ∧ (q = true ↔ rs.length ≤ 20 ∧ AllOk clock rs rs.length)) ∧ Below w.heap.size w w' := by
  rcases h with rfl | ⟨b, rfl, hb, hR⟩
  · show Calls Tryz.prog _ #[.slice a 0 cap, .int .i64 clock] w _
    go_enter Tryz.func135, Tryz.ntmps135
    go_wp2_with (first | (go_at_call 149; refine (asc_zero _ _ _ _).mono ?_; rintro e w' ⟨rfl, rfl⟩) | (go_at_call 141; refine (all_zero _ _ _ _).mono ?_; rintro e w' ⟨rfl, rfl⟩))
    go_ret
    exact ⟨⟨true, rfl, ⟨fun _ => ⟨by simp, (fun j r hj hr => by simp at hr)⟩, fun _ => rfl⟩⟩, bl_alloc (Below.refl _ _) _⟩
  · exact implRunsOk b 0 cap rs clock w hR hb hfit hl
theorem A.implAsksOk_gv (a : Option Addr) (cap : Nat) (rs : List A.AskD) (clock : Int) (w : World) (h : A.Gv w a rs) (hfit : ∀ r ∈ rs, r.fits) (hl : rs.length ≤ 1048576) :
    Calls Tryz.prog 136 #[.slice a rs.length cap, .int .i64 clock] w fun e w' => (∃ q : Bool, e = .returned (.bool q) ∧ A.SaysA q clock rs) ∧ Below w.heap.size w w' := by
  rcases h with rfl | ⟨b, rfl, hb, hR⟩
  · show Calls Tryz.prog _ #[.slice a 0 cap, .int .i64 clock] w _
    go_enter Tryz.func136, Tryz.ntmps136
    go_wp2_with (first | (go_at_call 154; refine (A.asc_zero _ _ _ _).mono ?_; rintro e w' ⟨rfl, rfl⟩) | (go_at_call 139; refine (A.all_zero _ _ _ _).mono ?_; rintro e w' ⟨rfl, rfl⟩))
    go_ret
    exact ⟨⟨true, rfl, ⟨fun _ => ⟨by simp, (fun j q r hj hq hr => by simp at hq), (fun r hr => by cases hr)⟩, fun _ => rfl⟩⟩, bl_alloc (Below.refl _ _) _⟩
  · exact A.implAsksOk b 0 cap rs clock w hR hb hfit hl
theorem A.byName_gv (a : Option Addr) (cap : Nat) (rs : List A.AskD) (w : World) (h : A.Gv w a rs) (hfit : ∀ r ∈ rs, r.fits) (hl : rs.length ≤ 1048576) :
    Calls Tryz.prog 137 #[.slice a rs.length cap, .func (.func 138) #[] #[]] w fun e w' => e = .returned (.map (some w.heap.size)) ∧ w'.ownsMap Tryz.prog 9 A.RU w.heap.size rs.length (A.mapD rs) ∧ Below w.heap.size w w' := by
  rcases h with rfl | ⟨b, rfl, hb, hR⟩
  · have hmm : ∀ w : World, Sem.run Tryz.prog (Instr.makeMap 160 (some (.int .i64 0))) w = .ok (.map (some w.heap.size)) (w.alloc (.map #[] 0)) := fun w => A.make_map 0 w
    show Calls Tryz.prog _ #[.slice a 0 cap, .func (.func 138) #[] #[]] w _
    go_enter Tryz.func137, Tryz.ntmps137
    go_wp2
    refine wp_loop_rounds 1 ?_
    rw [rounds_succ]
    go_wp2
    go_ret
    exact ⟨rfl, World.ownsMap_made _ _ _ _, bl_alloc (Below.refl _ _) _⟩
  · exact A.byName b 0 cap rs w hR hb hfit hl
end Go.Proofs.YtdkjhonaafadjaaGreat
namespace Go.Proofs.YtdkjhonaafadjaaGreat.W
open Go.RowKit
theorem eachWant_gv (a : Option Addr) (cap : Nat) (ws : List WantD) (w : World) (h : Gv w a ws) (hfit : ∀ r ∈ ws, r.fits) (hl : ws.length ≤ 10) :
    Calls Tryz.prog 147 #[.slice a ws.length cap] w fun e w' => (∃ q : Bool, e = .returned (.bool q) ∧ (q = true ↔ Each ws ws.length)) ∧ Below w.heap.size w w' := by
  rcases h with rfl | ⟨b, rfl, hb, hR⟩
  · show Calls Tryz.prog _ #[.slice a 0 cap] w _
    go_enter Tryz.func147, Tryz.ntmps147
    go_wp2_with (go_at_call 157; refine (all_zero _ _ _ _).mono ?_; rintro e w' ⟨rfl, rfl⟩)
    go_ret
    exact ⟨⟨true, rfl, ⟨fun _ j r hj hr => (by simp at hr), fun _ => rfl⟩⟩, Below.refl _ _⟩
  · exact eachWant b 0 cap ws w hR hb hfit hl
theorem ascendWants_gv (a : Option Addr) (cap : Nat) (ws : List WantD) (w : World) (h : Gv w a ws) (hl : ws.length ≤ 10) :
    Calls Tryz.prog 148 #[.slice a ws.length cap] w fun e w' => (∃ q : Bool, e = .returned (.bool q) ∧ (q = true ↔ Asc ws ws.length)) ∧ Below w.heap.size w w' := by
  rcases h with rfl | ⟨b, rfl, hb, hR⟩
  · show Calls Tryz.prog _ #[.slice a 0 cap] w _
    go_enter Tryz.func148, Tryz.ntmps148
    go_wp2_with (go_at_call 159; refine (asc_zero _ _ _ _).mono ?_; rintro e w' ⟨rfl, rfl⟩)
    go_ret
    exact ⟨⟨true, rfl, ⟨fun _ j q r hj hq hr => (by simp at hq), fun _ => rfl⟩⟩, Below.refl _ _⟩
  · exact ascendWants b 0 cap ws w hR hb hl
set_option maxHeartbeats 1000000 in
theorem implWantsOk_gv (a : Option Addr) (cap : Nat) (ws : List WantD) (w : World) (hG : Gv w a ws) (hc : ws.length ≤ cap) (hfit : ∀ r ∈ ws, r.fits) (hl : ws.length ≤ 1048576) :
    Calls Tryz.prog 134 #[.slice a ws.length cap] w fun e w' => (∃ q : Bool, e = .returned (.bool q) ∧ Says q ws) ∧ Below w.heap.size w w' := by
  have hba := build_all
  by_cases h10 : ws.length ≤ 10
  · go_enter Tryz.func134, Tryz.ntmps134
    go_wp2_with go_in
    clear hba
    refine wp_loop_rounds 5 ?_
    rw [rounds_succ]
    go_wp2_with fail
    refine (fewWants_any _ _ _ _).mono ?_
    rintro e w1 ⟨rfl, rfl⟩
    have d10 : decide (ws.length ≤ 10) = true := by simpa using h10
    go_wp2_with fail
    rw [rounds_succ]
    go_wp2_with fail
    have R0 := hG.keep (bl_alloc (Below.refl _ _) (.cells #[.func (.func 146) #[] #[], .func (.func 147) #[] #[], .func (.func 148) #[] #[], .func (.func 46) #[] #[]] 73))
    refine (eachWant_gv a _ ws _ R0 hfit h10).mono ?_
    rintro e w2 ⟨⟨q2, rfl, h2⟩, b2⟩
    have k2 := box_keep b2
    cases q2
    · go_wp2
      go_ret
      exact ⟨⟨false, rfl, says_no (fun _ h => by have := h2.2 h.1; cases this)⟩, bl_trans (bl_alloc (Below.refl _ _) _) b2⟩
    have e2 : Hid _ := h2.1 rfl
    clear h2
    go_wp2_with fail
    rw [rounds_succ]
    go_wp2_with fail
    have R2 := R0.keep b2
    refine (ascendWants_gv a _ ws _ R2 h10).mono ?_
    rintro e w3 ⟨⟨q3, rfl, h3⟩, b3⟩
    have b3' := bl_trans b2 b3
    clear k2
    have k3 := box_keep b3'
    cases q3
    · go_wp2
      go_ret
      exact ⟨⟨false, rfl, says_no (fun _ h => by have := h3.2 h.2.1; cases this)⟩, bl_trans (bl_alloc (Below.refl _ _) _) b3'⟩
    have e3 : Hid _ := h3.1 rfl
    clear h3
    go_wp2_with fail
    rw [rounds_succ]
    go_wp2_with fail
    have R3 := R2.keep b3
    refine (holdsDiffer2 a cap ws _ R3 hc (by omega)).mono ?_
    rintro e w4 ⟨⟨q4, rfl, h4⟩, b4⟩
    have b4' := bl_trans b3' b4
    clear k3
    cases q4
    · go_wp2
      go_ret
      exact ⟨⟨false, rfl, says_no (fun _ h => by have := h4.2 h.2.2; cases this)⟩, bl_trans (bl_alloc (Below.refl _ _) _) b4'⟩
    have e4 : Hid _ := h4.1 rfl
    clear h4
    go_wp2_with fail
    rw [rounds_succ]
    go_wp2
    go_ret
    exact ⟨⟨true, rfl, says_yes ⟨e2.out, e3.out, e4.out⟩ (Nat.le_refl _) h10⟩, bl_trans (bl_alloc (Below.refl _ _) _) b4'⟩
  · go_enter Tryz.func134, Tryz.ntmps134
    go_wp2_with go_in
    clear hba
    refine wp_loop_rounds 1 ?_
    rw [rounds_succ]
    go_wp2_with fail
    refine (fewWants_any _ _ _ _).mono ?_
    rintro e w1 ⟨rfl, rfl⟩
    have d10 : decide (ws.length ≤ 10) = false := by simpa using h10
    go_wp2
    go_ret
    exact ⟨⟨false, rfl, says_no (fun h _ => h10 h)⟩, bl_alloc (Below.refl _ _) _⟩
end Go.Proofs.YtdkjhonaafadjaaGreat.W
