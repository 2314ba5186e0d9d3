import Derived.Test.YtefkdohkjdopeaaGreatDoorJ09
import Derived.Deep.MidRow
import Derived.Test.YtefkdohkjdopeaaGreatDoorJ02
import Derived.Test.YtefkdohkjdopeaaGreatDoorJ05
import Derived.Deep.RegionHeld3
import Derived.Laws.Pointers
import Derived.StillTactics
import Derived.Test.YtefkdohkjdopeaaGreatDoorJ01
import Derived.Laws.BytesString
import Derived.Test.YtefkdohkjdopeaaGreatDoorJ03
import Derived.Laws.AppendOwn
namespace Go.Proofs.YtefkdohkjdopeaaGreatDoor
open Go.RowKit Go.Maps Go.WideMaps
set_option linter.unusedVariables false
def OG (B : Nat) (gs : List G.GrantD) (w : World) (v : Value) : Prop := w.ownsRow B 61 5 v gs.length (G.flatR gs)
def OQ (B : Nat) (ps : List Pr.PlRaw) (w : World) (v : Value) : Prop := w.ownsRow B 90 3 v ps.length (Pr.flatR ps)
theorem OG.keep {B : Nat} {gs : List G.GrantD} {w w' : World} {v : Value} (h : OG B gs w v) (hb : Below w.heap.size w w') : OG B gs w' v := G.owns_below h hb
theorem OQ.keep {B : Nat} {gs : List Pr.PlRaw} {w w' : World} {v : Value} (h : OQ B gs w v) (hb : Below w.heap.size w w') : OQ B gs w' v := Pr.owns_below h hb
theorem OG.shape {B : Nat} {gs : List G.GrantD} {w : World} {v : Value} (h : OG B gs w v) : ∃ a c, v = .slice a gs.length c := (G.Sl.of_owns h).shape
theorem OQ.shape {B : Nat} {gs : List Pr.PlRaw} {w : World} {v : Value} (h : OQ B gs w v) : ∃ a c, v = .slice a gs.length c := (Pr.Sl.of_owns h).shape
def Ld0 (B : Nat) (t : Int) (gs : List G.GrantD) (ps : List Pr.PlRaw) (w : World) (v : Value) : Prop := ∃ a1 c1 a2 c2, v = .agg #[.int .i64 t, .slice a1 gs.length c1, .slice a2 ps.length c2] ∧ OG B gs w (.slice a1 gs.length c1) ∧ OQ B ps w (.slice a2 ps.length c2)
theorem Ld0.keep {B : Nat} {t : Int} {gs : List G.GrantD} {ps : List Pr.PlRaw} {w w' : World} {v : Value} (h : Ld0 B t gs ps w v) (hb : Below w.heap.size w w') : Ld0 B t gs ps w' v := by
 obtain ⟨a1, c1, a2, c2, h1, h2, h3⟩ := h
 exact ⟨a1, c1, a2, c2, h1, h2.keep hb, h3.keep hb⟩
def Bx (B : Nat) (w : World) (v : Value) : Prop := ∃ lb, v = .pointer (some ⟨lb, 0, none⟩) ∧ B ≤ lb ∧ lb < w.heap.size ∧ w.heap[lb]? = some (.cells #[.int .i64 0, .slice none 0 0, .slice none 0 0] 34 (0, 0))
theorem Bx.keep {B : Nat} {w w' : World} {v : Value} (h : Bx B w v) (hb : Below w.heap.size w w') : Bx B w' v := by
 obtain ⟨lb, h1, h2, h3, h4⟩ := h
 exact ⟨lb, h1, h2, Nat.lt_of_lt_of_le h3 hb.size, (hb.block lb h3).trans h4⟩
def slTo : Nat → Nat
 | 0 => 6
 | 1 => 7
 | 2 => 8
 | 3 => 9
 | 4 => 10
 | 5 => 11
 | 6 => 12
 | 7 => 13
 | 8 => 14
 | 9 => 15
 | 10 => 16
 | 11 => 17
 | 12 => 18
 | 13 => 19
 | 14 => 20
 | 15 => 3
 | _ => 0
theorem slTo_inj (i : Nat) (hi : i < 16) : ∀ j, j < 16 → slTo j = slTo i → j = i := by
 have h : ∀ a : _root_.Fin 16, ∀ b : _root_.Fin 16, slTo b.1 = slTo a.1 → b.1 = a.1 := by decide
 intro j hj e
 exact h ⟨i, hi⟩ ⟨j, hj⟩ e
theorem slTo_far : ∀ j, j ≠ 3 → (j < 6 ∨ 6 + 15 ≤ j) → ∀ i, i < 16 → slTo i ≠ j := by
 intro j h1 h2 i hi
 match i, hi with
 | 0, _ => show 6 ≠ j; omega
 | 1, _ => show 7 ≠ j; omega
 | 2, _ => show 8 ≠ j; omega
 | 3, _ => show 9 ≠ j; omega
 | 4, _ => show 10 ≠ j; omega
 | 5, _ => show 11 ≠ j; omega
 | 6, _ => show 12 ≠ j; omega
 | 7, _ => show 13 ≠ j; omega
 | 8, _ => show 14 ≠ j; omega
 | 9, _ => show 15 ≠ j; omega
 | 10, _ => show 16 ≠ j; omega
 | 11, _ => show 17 ≠ j; omega
 | 12, _ => show 18 ≠ j; omega
 | 13, _ => show 19 ≠ j; omega
 | 14, _ => show 20 ≠ j; omega
 | 15, _ => show 3 ≠ j; omega
 | m + 16, h => exact absurd h (by omega)
def GTo (d m1 m2 B : Nat) (t : Int) (gs : List G.GrantD) (ps : List Pr.PlRaw) (w : World) : Nat → Value → Prop
 | 0, v => v = .pointer (some ⟨d, 0, none⟩)
 | 1, v => v = .pointer (some ⟨d, 0, none⟩)
 | 2, v => v = .pointer (some ⟨d, 0, none⟩)
 | 3, v => v = .int .i64 t
 | 4, v => v = .pointer (some ⟨d, 0, none⟩)
 | 5, v => v = .pointer (some ⟨d, 0, none⟩)
 | 6, v => v = .pointer (some ⟨d, 1, none⟩)
 | 7, v => v = .map (some m1)
 | 8, v => OG B gs w v
 | 9, v => v = .pointer (some ⟨d, 0, none⟩)
 | 10, v => v = .pointer (some ⟨d, 0, none⟩)
 | 11, v => v = .pointer (some ⟨d, 2, none⟩)
 | 12, v => v = .map (some m2)
 | 13, v => OQ B ps w v
 | 14, v => Ld0 B t gs ps w v
 | 15, v => Bx B w v
 | _, _ => True
theorem GTo.keep {d m1 m2 B : Nat} {t : Int} {gs : List G.GrantD} {ps : List Pr.PlRaw} {w w' : World} (hb : Below w.heap.size w w') : ∀ j v, GTo d m1 m2 B t gs ps w j v → GTo d m1 m2 B t gs ps w' j v
 | 0, _, h => h
 | 1, _, h => h
 | 2, _, h => h
 | 3, _, h => h
 | 4, _, h => h
 | 5, _, h => h
 | 6, _, h => h
 | 7, _, h => h
 | 8, _, h => OG.keep h hb
 | 9, _, h => h
 | 10, _, h => h
 | 11, _, h => h
 | 12, _, h => h
 | 13, _, h => OQ.keep h hb
 | 14, _, h => Ld0.keep h hb
 | 15, _, h => Bx.keep h hb
 | _ + 16, _, h => h
structure Ld (w : World) (B lb : Nat) (t : Int) (gs : List G.GrantD) (ps : List Pr.PlRaw) (s1 s2 : Value) : Prop where
 c : w.rangeAt lb 0 [.int .i64 t, s1, s2]
 f : w.there lb 0 3
 z : B ≤ lb ∧ lb < w.heap.size
 g : OG B gs w s1
 p : OQ B ps w s2
 n1 : s1.ownBlock ≠ some lb
 n2 : s2.ownBlock ≠ some lb
theorem og_ne {B : Nat} {gs : List G.GrantD} {w : World} {v : Value} {lb : Nat} {c0 : Array Value} (h : OG B gs w v) (hl : w.heap[lb]? = some (.cells c0 34 (0, 0))) : v.ownBlock ≠ some lb := by
 intro e
 obtain ⟨-, ⟨rfl, -⟩ | ⟨g, cap, cur, rfl, -, hg, -⟩⟩ := h
 ·
  cases e
 ·
  have e1 : g = lb := Option.some.inj e
  rw [e1, hl] at hg
  have e2 : 34 = 61 := by
   have := Option.some.inj hg
   injection this
  exact absurd e2 (by decide)
theorem oq_ne {B : Nat} {gs : List Pr.PlRaw} {w : World} {v : Value} {lb : Nat} {c0 : Array Value} (h : OQ B gs w v) (hl : w.heap[lb]? = some (.cells c0 34 (0, 0))) : v.ownBlock ≠ some lb := by
 intro e
 obtain ⟨-, ⟨rfl, -⟩ | ⟨g, cap, cur, rfl, -, hg, -⟩⟩ := h
 ·
  cases e
 ·
  have e1 : g = lb := Option.some.inj e
  rw [e1, hl] at hg
  have e2 : 34 = 90 := by
   have := Option.some.inj hg
   injection this
  exact absurd e2 (by decide)
theorem OG.grown {B : Nat} {gs : List G.GrantD} {w w' : World} {v : Value} {row : Option Nat} (h : OG B gs w v) (hg : w.grownBy w' row) (hne : v.ownBlock = none ∨ v.ownBlock ≠ row) : OG B gs w' v := by
 obtain ⟨h0, h1 | ⟨g, cap, cur, rfl, hb, hgg, hr⟩⟩ := h
 ·
  exact ⟨h0, Or.inl h1⟩
 ·
  have hn : some g ≠ row := by simpa [Value.ownBlock] using hne
  exact ⟨h0, Or.inr ⟨g, cap, cur, rfl, hb, (hg.block g (Array.getElem?_eq_some_iff.1 hgg).1 hn).trans hgg, hr⟩⟩
theorem OQ.grown {B : Nat} {gs : List Pr.PlRaw} {w w' : World} {v : Value} {row : Option Nat} (h : OQ B gs w v) (hg : w.grownBy w' row) (hne : v.ownBlock = none ∨ v.ownBlock ≠ row) : OQ B gs w' v := by
 obtain ⟨h0, h1 | ⟨g, cap, cur, rfl, hb, hgg, hr⟩⟩ := h
 ·
  exact ⟨h0, Or.inl h1⟩
 ·
  have hn : some g ≠ row := by simpa [Value.ownBlock] using hne
  exact ⟨h0, Or.inr ⟨g, cap, cur, rfl, hb, (hg.block g (Array.getElem?_eq_some_iff.1 hgg).1 hn).trans hgg, hr⟩⟩
theorem there_land {w : World} {lb : Nat} (h : w.heap[lb]? = some (.cells #[.int .i64 0, .slice none 0 0, .slice none 0 0] 34 (0, 0))) : w.there lb 0 3 := fun j hj => by
 refine ⟨?_, ?_⟩
 ·
  simp [World.cell?, h]; omega
 ·
  simp [World.frozen?, h]
theorem ld_put {w : World} {B lb : Nat} {t : Int} {gs : List G.GrantD} {ps : List Pr.PlRaw} {s1 s2 : Value} (hz : B ≤ lb ∧ lb < w.heap.size) (hl : w.heap[lb]? = some (.cells #[.int .i64 0, .slice none 0 0, .slice none 0 0] 34 (0, 0))) (hg : OG B gs w s1) (hp : OQ B ps w s2) : Ld (w.setCells lb 0 [.int .i64 t, s1, s2]) B lb t gs ps s1 s2 := by
 have he : Ex lb w (w.setCells lb 0 [.int .i64 t, s1, s2]) := (Ex.refl _ _).cells _ _
 have hgr := (⟨he.os, he.tape, he.output, he.size, fun k hk hne => he.block k hk (fun e => hne (by rw [e]))⟩ : w.grownBy _ (some lb))
 have n1 := og_ne hg hl
 have n2 := oq_ne hp hl
 exact ⟨World.rangeAt_setCells_same w lb 0 _ (there_land hl), World.there_setCells (there_land hl) lb 0 _, ⟨hz.1, Nat.lt_of_lt_of_le hz.2 he.size⟩, hg.grown hgr (Or.inr n1), hp.grown hgr (Or.inr n2), n1, n2⟩
theorem keepR {x w' : World} {b1 o1 b2 o2 k : Nat} {rs : List RunD} {r : RunD} (hk : rs[k]? = some r) (h1 : RowsAt x b1 o1 rs) (h2 : RowsAt x b2 o2 rs) (l1 : b1 < x.heap.size) (l2 : b2 < x.heap.size) (hb : Below x.heap.size x w') :
  Below x.heap.size x w' ∧ (w'.cell? ⟨b1, o1 + k * 11, none⟩ = some (.string r.c) ∧ w'.cell? ⟨b1, o1 + k * 11 + 1, none⟩ = some (.int .i64 r.v) ∧ w'.cell? ⟨b1, o1 + k * 11 + 2, none⟩ = some (.string r.h) ∧ w'.cell? ⟨b1, o1 + k * 11 + 3, none⟩ = some (.int .i64 r.p) ∧ w'.cell? ⟨b1, o1 + k * 11 + 4, none⟩ = some (.int .i64 r.s) ∧ w'.cell? ⟨b1, o1 + k * 11 + 5, none⟩ = some (.int .i64 r.d) ∧ w'.cell? ⟨b1, o1 + k * 11 + 6, none⟩ = some (.int .i64 r.g) ∧ w'.cell? ⟨b1, o1 + k * 11 + 7, none⟩ = some (.int .i64 r.a) ∧ w'.cell? ⟨b1, o1 + k * 11 + 8, none⟩ = some (.int .i64 r.b) ∧ w'.cell? ⟨b1, o1 + k * 11 + 9, none⟩ = some (.int .i64 r.i) ∧ w'.cell? ⟨b1, o1 + k * 11 + 10, none⟩ = some (.int .i64 r.u)) ∧ (w'.cell? ⟨b2, o2 + k * 11, none⟩ = some (.string r.c) ∧ w'.cell? ⟨b2, o2 + k * 11 + 1, none⟩ = some (.int .i64 r.v) ∧ w'.cell? ⟨b2, o2 + k * 11 + 2, none⟩ = some (.string r.h) ∧ w'.cell? ⟨b2, o2 + k * 11 + 3, none⟩ = some (.int .i64 r.p) ∧ w'.cell? ⟨b2, o2 + k * 11 + 4, none⟩ = some (.int .i64 r.s) ∧ w'.cell? ⟨b2, o2 + k * 11 + 5, none⟩ = some (.int .i64 r.d) ∧ w'.cell? ⟨b2, o2 + k * 11 + 6, none⟩ = some (.int .i64 r.g) ∧ w'.cell? ⟨b2, o2 + k * 11 + 7, none⟩ = some (.int .i64 r.a) ∧ w'.cell? ⟨b2, o2 + k * 11 + 8, none⟩ = some (.int .i64 r.b) ∧ w'.cell? ⟨b2, o2 + k * 11 + 9, none⟩ = some (.int .i64 r.i) ∧ w'.cell? ⟨b2, o2 + k * 11 + 10, none⟩ = some (.int .i64 r.u)) :=
 ⟨hb, (h1.keep l1 hb).at hk, (h2.keep l2 hb).at hk⟩
def mkGo : Nat → Int → ByteArray → ByteArray
 | 0, _, s => s
 | f + 1, k, s => if 0 < k then mkGo f (k / 10) ({ data := #[UInt8.ofNat (48 + k % 10).toNat] } ++ s) else s
def markB (k : Int) : ByteArray := if k ≤ 0 then { data := #[109, 48] } else { data := #[109] } ++ mkGo 16 k { data := #[] }
theorem mkGo_end (f : Nat) (k : Int) (s : ByteArray) (h : k ≤ 0) : mkGo f k s = s := by
 cases f with
 | zero => rfl
 | succ f => exact if_neg (by omega)
theorem mkGo_step (f : Nat) (k : Int) (s : ByteArray) (h : 0 < k) : mkGo (f + 1) k s = mkGo f (k / 10) ({ data := #[UInt8.ofNat (48 + k % 10).toNat] } ++ s) := if_pos h
theorem size_front (c : UInt8) (t : ByteArray) : (({ data := #[c] } : ByteArray) ++ t).size = 1 + t.size := by rw [ByteArray.size_append']; rfl
theorem build_byte (n : Int) (w : World) : Sem.run Tryz.prog (Instr.buildSlice 103 1 #[(0, .int .u8 n)]) w = .ok (.slice (some ⟨w.heap.size, 0, none⟩) 1 1) (w.alloc (.cells #[.int .u8 n] 5)) := by kernel_rfl
theorem conv_byte (n : Int) (w : World) : Sem.run Tryz.prog (convert 103 9 (.slice (some ⟨w.heap.size, 0, none⟩) 1 1)) (w.alloc (.cells #[.int .u8 n] 5)) = .ok (.string ⟨#[UInt8.ofNat n.toNat]⟩) (w.alloc (.cells #[.int .u8 n] 5)) := by
 rw [run_convert_bytes_string _ _ _ 5 _ _ _ Tryz.underlying103 Tryz.underlying5 Tryz.underlying9]
 rw [run_bytesToString _ _ _ _ [n] (by simp [loadCells, go_sem])]
 rfl
theorem markText_any (k : Int) (hk : k ≤ 1000000000000000) (w : World) : Calls Tryz.prog 40 #[.int .i64 k] w fun e w' => e = .returned (.string (markB k)) ∧ Below w.heap.size w w' := by
 by_cases h0 : k ≤ 0
 ·
  have Hm : Hid (markB k = { data := #[109, 48] }) := if_pos h0
  go_enter Tryz.func40, Tryz.ntmps40
  go_wp2
  go_ret
  exact ⟨by rw [Hm.out]; rfl, Below.refl _ _⟩
 ·
  have Hm : Hid (markB k = { data := #[109] } ++ mkGo 16 k { data := #[] }) := if_neg h0
  have hb := build_byte
  have hc := conv_byte
  go_enter Tryz.func40, Tryz.ntmps40
  go_wp2
  go_loopw [0, 3] (fun i s wx => ∃ (n : Int) (t : ByteArray), 0 ≤ n ∧ n ≤ 1000000000000000 ∧ t.size ≤ 20 ∧ i = .int .i64 n ∧ s = .string t ∧ Hid (∃ f : Nat, n < (10 : Int) ^ f ∧ t.size + f ≤ 20 ∧ mkGo f n t = mkGo 16 k { data := #[] }) ∧ Below w.heap.size w wx) (fun i _ _ => (intOf i).toNat)
  case atStart => exact ⟨k, _, by omega, hk, by decide, rfl, rfl, ⟨16, by omega, by decide, rfl⟩, Below.refl _ _⟩
  case round =>
   obtain ⟨n, t, n0, n1, t1, rfl, rfl, Hf, hB⟩ := hrel
   by_cases hlt : 0 < n
   ·
    go_wp2
    have hs : ∃ f : Nat, n / 10 < (10 : Int) ^ f ∧ 1 + t.size + f ≤ 20 ∧ mkGo f (n / 10) ({ data := #[UInt8.ofNat (48 + n % 10).toNat] } ++ t) = mkGo 16 k { data := #[] } := by
     obtain ⟨f, f1, f2, f3⟩ := Hf.out
     cases f with
     | zero => simp at f1; omega
     | succ f => exact ⟨f, by rw [Int.pow_succ] at f1; omega, by omega, by rw [← mkGo_step f n t hlt]; exact f3⟩
    obtain ⟨f, f1, f2, f3⟩ := hs
    exact ⟨⟨n / 10, _, by omega, by omega, by rw [size_front]; omega, rfl, rfl, ⟨f, f1, by rw [size_front]; omega, f3⟩, bl_alloc hB _⟩, by simp [intOf]; omega⟩
   ·
    go_wp2
    go_ret
    obtain ⟨f, f1, f2, f3⟩ := Hf.out
    rw [mkGo_end f n t (by omega)] at f3
    exact ⟨by rw [Hm.out, ← f3]; rfl, hB⟩
def markRun (k : Int) : RunD := ⟨markB k, markB (k + 1 + 1), k + 1, k + 1 + 1 + 1, k + 1 + 1 + 1 + 1, k + 1 + 1 + 1 + 1 + 1, k + 1 + 1 + 1 + 1 + 1 + 1, k + 1 + 1 + 1 + 1 + 1 + 1 + 1, k + 1 + 1 + 1 + 1 + 1 + 1 + 1 + 1, k + 1 + 1 + 1 + 1 + 1 + 1 + 1 + 1 + 1, k + 1 + 1 + 1 + 1 + 1 + 1 + 1 + 1 + 1 + 1⟩
def markRuns (k : Int) (n : Nat) : List RunD := (List.range n).map (fun (i : Nat) => markRun (k + 11 * (i : Int)))
theorem row_cells {x : World} {g n k : Nat} (h : x.there g 0 (n * 11)) (hk : k < n) (j : Nat) (hj : j < 11) : (∃ v, x.cell? ⟨g, k * 11 + j, none⟩ = some v) ∧ x.frozen? ⟨g, k * 11 + j, none⟩ = false := by
 have h1 := h (k * 11 + j) (by omega)
 rw [Nat.zero_add] at h1
 exact ⟨Option.isSome_iff_exists.1 h1.1, h1.2⟩
theorem len_marks (k : Int) (n : Nat) : (markRuns k n).length = n := by simp [markRuns]
theorem rows_apart {x : World} {g : Nat} {rs : List RunD} (h : RowsAt x g 0 rs) (o : Nat) (hl : rs.length * 11 ≤ o) (vs : List Value) : RowsAt (x.setCells g o vs) g 0 rs :=
 fun j q hj => World.rangeAt_setCells_apart (h j q hj) g o vs (Or.inr (Or.inl (by
  have : j < rs.length := by
   rcases Nat.lt_or_ge j rs.length with h' | h'
   ·
    exact h'
   ·
    rw [List.getElem?_eq_none h'] at hj; cases hj
  show 0 + j * 11 + 11 ≤ o
  omega)))
theorem rows_snoc {x : World} {b m : Nat} {k0 kk : Int} (hk : kk = k0 + 11 * (m : Int)) (h : RowsAt x b 0 (markRuns k0 m)) (hr : x.rangeAt b (m * 11) (markRun kk).cells) : RowsAt x b 0 (markRuns k0 (m + 1)) := by
 intro j q hj
 rw [markRuns, List.range_succ, List.map_append] at hj
 rcases Nat.lt_or_ge j m with hl | hl
 ·
  rw [List.getElem?_append_left (by simpa using hl)] at hj; exact h j q hj
 ·
  rw [List.getElem?_append_right (by simpa using hl)] at hj
  by_cases e : j = m
  ·
   subst e
   simp at hj
   subst hj
   rw [← hk, Nat.zero_add]
   exact hr
  ·
   rw [List.getElem?_eq_none (by simp; omega)] at hj; cases hj
theorem marks_at (k0 kk : Int) (n m : Nat) (hm : m < n) (hk : kk = k0 + 11 * (m : Int)) : (markRuns k0 n)[m]? = some (markRun kk) := by
 subst hk; simp [markRuns, List.getElem?_range hm]
theorem heldK {x w' : World} {b m : Nat} {kk : Int} {rs : List RunD} (hk : rs[m]? = some (markRun kk)) (h1 : RowsAt x b 0 rs) (l1 : b < x.heap.size) (hb : Below x.heap.size x w') :
  Below x.heap.size x w' ∧ (w'.cell? ⟨b, m * 11, none⟩ = some (.string (markB kk)) ∧ w'.cell? ⟨b, m * 11 + 1, none⟩ = some (.int .i64 (kk + 1)) ∧ w'.cell? ⟨b, m * 11 + 2, none⟩ = some (.string (markB (kk + 1 + 1))) ∧ w'.cell? ⟨b, m * 11 + 3, none⟩ = some (.int .i64 (kk + 1 + 1 + 1)) ∧ w'.cell? ⟨b, m * 11 + 4, none⟩ = some (.int .i64 (kk + 1 + 1 + 1 + 1)) ∧ w'.cell? ⟨b, m * 11 + 5, none⟩ = some (.int .i64 (kk + 1 + 1 + 1 + 1 + 1)) ∧ w'.cell? ⟨b, m * 11 + 6, none⟩ = some (.int .i64 (kk + 1 + 1 + 1 + 1 + 1 + 1)) ∧ w'.cell? ⟨b, m * 11 + 7, none⟩ = some (.int .i64 (kk + 1 + 1 + 1 + 1 + 1 + 1 + 1)) ∧ w'.cell? ⟨b, m * 11 + 8, none⟩ = some (.int .i64 (kk + 1 + 1 + 1 + 1 + 1 + 1 + 1 + 1)) ∧ w'.cell? ⟨b, m * 11 + 9, none⟩ = some (.int .i64 (kk + 1 + 1 + 1 + 1 + 1 + 1 + 1 + 1 + 1)) ∧ w'.cell? ⟨b, m * 11 + 10, none⟩ = some (.int .i64 (kk + 1 + 1 + 1 + 1 + 1 + 1 + 1 + 1 + 1 + 1))) := by
 have := (h1.keep l1 hb).at hk
 rw [Nat.zero_add] at this
 exact ⟨hb, this⟩
def Sl (w : World) (v : Value) (l : List RunD) (B : Nat) : Prop := (v = .slice none 0 0 ∧ l = []) ∨ ∃ g cap, v = .slice (some ⟨g, 0, none⟩) l.length cap ∧ B ≤ g ∧ g < w.heap.size ∧ RowsAt w g 0 l ∧ w.there g 0 (l.length * 11)
theorem Sl.grown {w w' : World} {v : Value} {l : List RunD} {B : Nat} {row : Option Nat} (h : Sl w v l B) (hg : w.grownBy w' row) (hne : v.ownBlock = none ∨ v.ownBlock ≠ row) : Sl w' v l B := by
 rcases h with h | ⟨g, cap, rfl, h1, h2, h3, h4⟩
 ·
  exact Or.inl h
 ·
  have hn : some g ≠ row := by simpa [Value.ownBlock] using hne
  have hc : ∀ o, w'.cell? ⟨g, o, none⟩ = w.cell? ⟨g, o, none⟩ := fun o => World.cell?_of_block (w := w) (a := ⟨g, o, none⟩) (hg.block g h2 hn)
  have hfz : ∀ o, w'.frozen? ⟨g, o, none⟩ = w.frozen? ⟨g, o, none⟩ := fun o => World.frozen?_of_block (w := w) (a := ⟨g, o, none⟩) (hg.block g h2 hn)
  exact Or.inr ⟨g, cap, rfl, h1, Nat.lt_of_lt_of_le h2 hg.size, fun k r hk j v hj => (hc _).trans (h3 k r hk j v hj), fun j hj => ⟨by rw [hc]; exact (h4 j hj).1, by rw [hfz]; exact (h4 j hj).2⟩⟩
theorem Sl.keep {w w' : World} {v : Value} {l : List RunD} {B : Nat} (h : Sl w v l B) (hb : Below w.heap.size w w') : Sl w' v l B :=
 h.grown (row := none) ⟨hb.os, hb.tape, hb.output, hb.size, fun k hk _ => hb.block k hk⟩ (by cases hv : v.ownBlock <;> simp)
theorem Sl.lt {w : World} {v : Value} {l : List RunD} {B : Nat} (h : Sl w v l B) : ∀ g, v.ownBlock = some g → B ≤ g ∧ g < w.heap.size := by
 rcases h with ⟨rfl, -⟩ | ⟨g, cap, rfl, h1, h2, -⟩
 ·
  intro g hg; simp [Value.ownBlock] at hg
 ·
  intro g' hg; simp [Value.ownBlock] at hg; subst hg; exact ⟨h1, h2⟩
theorem ex_grown {w w' : World} {kr : Nat} (h : Ex kr w w') : w.grownBy w' (some kr) := ⟨h.os, h.tape, h.output, h.size, fun k hk hne => h.block k hk (fun e => hne (by rw [e]))⟩
theorem flat_cells {w : World} {g : Nat} {l : List RunD} (h : RowsAt w g 0 l) : ∀ j u, (flatR l)[j]? = some u → w.cell? ((⟨g, 0, none⟩ : Addr).add j) = some u := by
 intro j u hj
 have hlt : j < l.length * 11 := by rw [← flatR_len]; exact (List.getElem?_eq_some_iff.1 hj).1
 have hk : j / 11 < l.length := by omega
 have hr : j % 11 < 11 := Nat.mod_lt _ (by decide)
 have e : j / 11 * 11 + j % 11 = j := by omega
 have h1 := flatR_at l (j / 11) l[j / 11] (List.getElem?_eq_getElem hk) (j % 11) hr
 rw [e, hj] at h1
 have h2 := h (j / 11) l[j / 11] (List.getElem?_eq_getElem hk) (j % 11) u h1.symm
 rw [Addr.add_mid]
 rw [show 0 + j / 11 * 11 + j % 11 = 0 + j from by omega] at h2
 exact h2
end Go.Proofs.YtefkdohkjdopeaaGreatDoor
namespace Go.Proofs.YtefkdohkjdopeaaGreatDoor.W
open Go.RowKit
set_option linter.unusedVariables false
def flatR (rs : List WantD) : List Value := rs.flatMap WantD.cells
theorem flatR_len : ∀ rs : List WantD, (flatR rs).length = rs.length * 7
 | [] => rfl
 | r :: rs => by
  have := flatR_len rs
  simp only [flatR, List.flatMap_cons, List.length_append] at this ⊢
  simp only [this, List.length_cons]
  show 7 + rs.length * 7 = _
  omega
theorem flatR_at : ∀ (rs : List WantD) (k : Nat) (r : WantD), rs[k]? = some r → ∀ j, j < 7 → (flatR rs)[k * 7 + j]? = r.cells[j]?
 | [], k, r, h, j, hj => by simp at h
 | q :: rs, 0, r, h, j, hj => by
  simp at h; subst h
  rw [flatR, List.flatMap_cons, List.getElem?_append_left (by show _ < 7; omega)]
  simp
 | q :: rs, k + 1, r, h, j, hj => by
  have ih := flatR_at rs k r (by simpa using h) j hj
  rw [flatR, List.flatMap_cons, List.getElem?_append_right (by show 7 ≤ _; omega)]
  rw [← ih]
  show (flatR rs)[(k + 1) * 7 + j - 7]? = _
  rw [show (k + 1) * 7 + j - 7 = k * 7 + j from by omega]
theorem flatR_one (rs : List WantD) : ∀ u ∈ flatR rs, u.oneCell' = true := by
 intro u hu
 obtain ⟨r, -, h⟩ := List.mem_flatMap.1 hu
 simp [WantD.cells] at h
 rcases h with rfl | rfl | rfl | rfl | rfl | rfl | rfl <;> rfl
theorem rows_of_owns {w : World} {base : Nat} {v : Value} {rs : List WantD} (h : w.ownsRow base 94 7 v rs.length (flatR rs)) :
  (v = .slice none 0 0 ∧ rs = []) ∨ ∃ g cap, v = .slice (some ⟨g, 0, none⟩) rs.length cap ∧ base ≤ g ∧ g < w.heap.size ∧ RowsAt w g 0 rs ∧ w.there g 0 (rs.length * 7) := by
 obtain ⟨hl, ⟨rfl, hn⟩ | ⟨g, cap, cur, rfl, hb, hg, hnc, hcm, hcs, htk⟩⟩ := h
 ·
  exact Or.inl ⟨rfl, List.length_eq_zero_iff.1 hn⟩
 ·
  refine Or.inr ⟨g, cap, rfl, hb, (Array.getElem?_eq_some_iff.1 hg).1, ?_, ?_⟩
  ·
   intro k r hk j u hj
   have hjn : j < 7 := by
    rcases Nat.lt_or_ge j 7 with h' | h'
    ·
     exact h'
    ·
     rw [List.getElem?_eq_none (by simpa [WantD.cells] using h')] at hj; cases hj
   have hf := flatR_at rs k r hk j hjn
   rw [hj, ← htk, List.getElem?_take] at hf
   split at hf
   ·
    rw [cell_of_row w g _ cur _ (0, 0) hg, Nat.zero_add]
    simpa using hf
   ·
    cases hf
  ·
   intro j hj
   have hlt : j < cur.size := by
    have : rs.length * 7 ≤ cap * 7 := Nat.mul_le_mul_right 7 hnc
    omega
   refine ⟨?_, ?_⟩
   ·
    rw [cell_of_row w g _ cur _ (0, 0) hg, Nat.zero_add]
    simp [Array.getElem?_eq_getElem hlt]
   ·
    simp [World.frozen?, hg]
theorem infoR : (Tryz.prog.info? 94).map (fun i => (i.zero, i.size, i.bytes)) = some (some (.agg #[.string ⟨#[]⟩, .int .i64 0, .string ⟨#[]⟩, .int .i64 0, .int .i64 0, .int .i64 0, .int .i64 0]), 7, 72) := by kernel_rfl
end Go.Proofs.YtefkdohkjdopeaaGreatDoor.W
