import Derived.Test.YtefkdohkjdopeaaGreatDoorJ16
import Derived.Test.YtefkdohkjdopeaaGreatDoorJ18
import Derived.Test.YtefkdohkjdopeaaGreatDoorJ04
import Derived.Test.YtefkdohkjdopeaaGreatDoorJ17
import Derived.Test.YtefkdohkjdopeaaGreatDoorJ09
import Derived.Maps.AppendAt
import Derived.Deep.DeepCutAuto
import Derived.StillTactics
import Derived.Test.YtefkdohkjdopeaaGreatDoorJ15
import Derived.Laws.EntriesVeiled
import Derived.BigQuiet
namespace Go.Proofs.YtefkdohkjdopeaaGreatDoor
open Go.RowKit Go.Maps Go.WideMaps
set_option linter.unusedVariables false
structure LdO (w : World) (B : Nat) (gs : List G.GrantD) (qs : List P.PlaceD) (s1 s2 : Value) : Prop where
 g : G.Sl w s1 gs B
 p : PlO w B qs s2
 gp : ∀ g, s1.ownBlock = some g → ¬ PlO.bs qs s2 g
def LdO.bs (qs : List P.PlaceD) (s1 s2 : Value) (g : Nat) : Prop := s1.ownBlock = some g ∨ PlO.bs qs s2 g
theorem LdO.keep {w w' : World} {B : Nat} {gs : List G.GrantD} {qs : List P.PlaceD} {s1 s2 : Value} (h : LdO w B gs qs s1 s2) (hb : Below w.heap.size w w') : LdO w' B gs qs s1 s2 := ⟨h.g.keep hb, h.p.keep hb, h.gp⟩
theorem LdO.low {w : World} {B B' : Nat} {gs : List G.GrantD} {qs : List P.PlaceD} {s1 s2 : Value} (h : LdO w B gs qs s1 s2) (hB : B' ≤ B) : LdO w B' gs qs s1 s2 := ⟨h.g.low hB, h.p.low hB, h.gp⟩
theorem LdO.lt {w : World} {B : Nat} {gs : List G.GrantD} {qs : List P.PlaceD} {s1 s2 : Value} (h : LdO w B gs qs s1 s2) : ∀ g, LdO.bs qs s1 s2 g → B ≤ g ∧ g < w.heap.size := by
 rintro g (hg | hg)
 ·
  exact h.g.lt g hg
 ·
  exact h.p.lt g hg
theorem LdO.off {X : Nat → Prop} {w w' : World} {B : Nat} {gs : List G.GrantD} {qs : List P.PlaceD} {s1 s2 : Value} (h : LdO w B gs qs s1 s2) (ho : Off X w w') (hn : ∀ g, LdO.bs qs s1 s2 g → ¬ X g) : LdO w' B gs qs s1 s2 :=
 ⟨h.g.off ho (fun g hg => hn g (Or.inl hg)), h.p.off ho (fun g hg => hn g (Or.inr hg)), h.gp⟩
theorem LdO.nil (w : World) (B : Nat) : LdO w B [] [] (.slice none 0 0) (.slice none 0 0) := ⟨Or.inl ⟨rfl, rfl⟩, PlO.nil w B, fun g hg => by cases hg⟩
theorem off_of_ex {b : Nat} {w w' : World} (h : Ex b w w') : Off (fun j => j = b) w w' := ⟨h.os, h.tape, h.output, h.size, fun k hk hne => h.block k hk hne⟩
theorem og_oq_ne {B B' : Nat} {gs : List G.GrantD} {ps : List Pr.PlRaw} {w : World} {v u : Value} (h : OG B gs w v) (h' : OQ B' ps w u) : ∀ g, v.ownBlock = some g → u.ownBlock ≠ some g := by
 intro g e e'
 obtain ⟨-, ⟨rfl, -⟩ | ⟨g1, cap, cur, rfl, -, h3, -⟩⟩ := h
 ·
  cases e
 ·
  obtain ⟨-, ⟨rfl, -⟩ | ⟨g2, cap', cur', rfl, -, h5, -⟩⟩ := h'
  ·
   cases e'
  ·
   have e1 : g1 = g := Option.some.inj e
   have e2 : g2 = g := Option.some.inj e'
   rw [e1] at h3
   rw [e2, h3] at h5
   have e3 : 61 = 90 := by
    have := Option.some.inj h5
    injection this
   exact absurd e3 (by decide)
theorem pt_ldo {w : World} {B Z lb : Nat} {t : Int} {gs : List G.GrantD} {qs0 qs : List P.PlaceD} {s1 : Value} {a2 : Option Addr} {c2 : Nat} (h : Pt w B Z lb t gs qs0 qs qs0.length s1 a2 c2) : LdO w B gs qs s1 (.slice a2 qs0.length c2) := by
 have hlen := h.like.len
 have e1 : qs0.length = (qs.map Pr.raw).length := by rw [List.length_map]; exact hlen.symm
 have hp : Pr.Sl w (.slice a2 (qs.map Pr.raw).length c2) (qs.map Pr.raw) B := Pr.Sl.of_owns (by have := h.p; unfold OQ at this; rwa [e1] at this)
 rw [← e1] at hp
 have zl := h.zl
 have hjl : ∀ (j : Nat) q, qs[j]? = some q → j < qs0.length := fun j q hq => by rw [← hlen]; exact (List.getElem?_eq_some_iff.1 hq).1
 have hz : ∀ (j : Nat) q g, qs[j]? = some q → (Value.slice q.a q.ws.length q.c).ownBlock = some g → Z ≤ g := fun j q g hq hg => ((h.new j q (hjl j q hq) hq).lt g hg).1
 refine ⟨G.Sl.of_owns h.g, ⟨hp, fun j q hq => sl_lowW (h.new j q (hjl j q hq) hq) (by omega), fun j q g hq hg e => ?_, fun i j q r g hij hq hr hg => h.dif i j q r hij (hjl j r hr) hq hr g hg⟩, ?_⟩
 ·
  have h1 := hz j q g hq hg
  have h2 := h.zp g e
  omega
 ·
  rintro g hg (e | ⟨j, q, hq, e⟩)
  ·
   exact og_oq_ne h.g h.p g hg e
  ·
   have h1 := hz j q g hq e
   have h2 := h.zg g hg
   omega
theorem src_blk {w : World} {B : Nat} {q : P.PlaceD} (h : q.blk B w) : W.Src w q.a q.c q.ws := by
 obtain ⟨g, h1, h2, h3, h4, h5⟩ := h
 exact Or.inr ⟨g, h1, h4, h5⟩
end Go.Proofs.YtefkdohkjdopeaaGreatDoor
namespace Go.Proofs.YtefkdohkjdopeaaGreatDoor.Ord
open Go.Maps Go.WideMaps
set_option linter.unusedVariables false
section
variable {α : Type} (key : α → List UInt8)
def insS (r : α) : List α → List α
 | [] => [r]
 | y :: l => if bytesBefore (key y) (key r) then y :: insS r l else if key y = key r then r :: l else r :: y :: l
theorem insL_front (r : α) : ∀ l : List α, (∀ y ∈ l, bytesBefore (key r) (key y) = true) → insL key r l = r :: l
 | [], _ => rfl
 | y :: l, h => by rw [insL, if_pos (h y (List.mem_cons_self ..))]
theorem ins_insS (r : α) : ∀ l : List α, Srt key l → ins key r l = insS key r l
 | [], _ => rfl
 | y :: l, hs => by
  have hl : Srt key l := (List.pairwise_cons.1 hs).2
  have hy : ∀ z ∈ l, bytesBefore (key y) (key z) = true := (List.pairwise_cons.1 hs).1
  have keep : ∀ {m : List α}, (∀ z ∈ m, bytesBefore (key r) (key z) = true) → m.filter (fun z => !(key z == key r)) = m := fun {m} h => List.filter_eq_self.2 (fun z hz => by
   have := before_ne (h z hz)
   simp only [Bool.not_eq_true', beq_eq_false_iff_ne]
   exact fun e => this e.symm)
  rw [insS]
  by_cases h1 : bytesBefore (key y) (key r) = true
  ·
   rw [if_pos h1]
   unfold ins
   rw [List.filter_cons, if_pos (by simp [before_ne h1]), insL, if_neg (by rw [before_asymm h1]; simp)]
   congr 1
   exact ins_insS r l hl
  ·
   rw [if_neg h1]
   by_cases h2 : key y = key r
   ·
    rw [if_pos h2]
    have h3 : ∀ z ∈ l, bytesBefore (key r) (key z) = true := fun z hz => by rw [← h2]; exact hy z hz
    unfold ins
    rw [List.filter_cons, if_neg (by simp [h2]), keep h3, insL_front key r l h3]
   ·
    rw [if_neg h2]
    have h4 : bytesBefore (key r) (key y) = true := by
     rcases WideAt.bytes_total _ _ h2 with h | h
     ·
      exact absurd h h1
     ·
      exact h
    have h3 : ∀ z ∈ y :: l, bytesBefore (key r) (key z) = true := fun z hz => by
     rcases List.mem_cons.1 hz with rfl | hz
     ·
      exact h4
     ·
      exact WideShapes.bytes_trans _ _ _ h4 (hy z hz)
    unfold ins
    rw [keep h3, insL_front key r _ h3]
theorem insS_mem (r : α) : ∀ (l : List α) (q : α), q ∈ insS key r l → q = r ∨ q ∈ l
 | [], q, h => by simp [insS] at h; exact Or.inl h
 | y :: l, q, h => by
  rw [insS] at h
  split at h
  ·
   rcases List.mem_cons.1 h with rfl | h
   ·
    exact Or.inr (List.mem_cons_self ..)
   ·
    rcases insS_mem r l q h with h | h
    ·
     exact Or.inl h
    ·
     exact Or.inr (List.mem_cons_of_mem _ h)
  ·
   split at h
   ·
    rcases List.mem_cons.1 h with rfl | h
    ·
     exact Or.inl rfl
    ·
     exact Or.inr (List.mem_cons_of_mem _ h)
   ·
    rcases List.mem_cons.1 h with rfl | h
    ·
     exact Or.inl rfl
    ·
     exact Or.inr h
theorem insS_srt (r : α) : ∀ l : List α, Srt key l → Srt key (insS key r l)
 | [], _ => List.pairwise_singleton ..
 | y :: l, hs => by
  have hl : Srt key l := (List.pairwise_cons.1 hs).2
  have hy : ∀ z ∈ l, bytesBefore (key y) (key z) = true := (List.pairwise_cons.1 hs).1
  rw [insS]
  by_cases h1 : bytesBefore (key y) (key r) = true
  ·
   rw [if_pos h1]
   refine List.pairwise_cons.2 ⟨fun z hz => ?_, insS_srt r l hl⟩
   rcases insS_mem key r l z hz with rfl | h
   ·
    exact h1
   ·
    exact hy z h
  ·
   rw [if_neg h1]
   by_cases h2 : key y = key r
   ·
    rw [if_pos h2]
    exact List.pairwise_cons.2 ⟨fun z hz => by rw [← h2]; exact hy z hz, hl⟩
   ·
    rw [if_neg h2]
    have h4 : bytesBefore (key r) (key y) = true := by
     rcases WideAt.bytes_total _ _ h2 with h | h
     ·
      exact absurd h h1
     ·
      exact h
    refine List.pairwise_cons.2 ⟨fun z hz => ?_, hs⟩
    rcases List.mem_cons.1 hz with rfl | hz
    ·
     exact h4
    ·
     exact WideShapes.bytes_trans _ _ _ h4 (hy z hz)
theorem insS_len (r : α) : ∀ l : List α, (insS key r l).length ≤ l.length + 1
 | [] => by simp [insS]
 | y :: l => by
  have := insS_len r l
  rw [insS]
  split
  ·
   simp; omega
  ·
   split <;> simp
theorem insS_cut (r : α) : ∀ (l : List α) (k : Nat), k ≤ l.length → (∀ (j : Nat) y, j < k → l[j]? = some y → bytesBefore (key y) (key r) = true) → (∀ y, l[k]? = some y → bytesBefore (key y) (key r) = false) →
  insS key r l = l.take k ++ r :: (match l[k]? with | some y => if key y = key r then l.drop (k + 1) else l.drop k | none => [])
 | [], k, hk, _, _ => by simp at hk; subst hk; rfl
 | y :: l, 0, _, _, h => by
  have h1 := h y rfl
  rw [insS, if_neg (by rw [h1]; simp)]
  simp only [List.take_zero, List.nil_append, List.getElem?_cons_zero, List.drop_zero, List.drop_succ_cons]
  split <;> rfl
 | y :: l, k + 1, hk, hlt, hge => by
  have h1 := hlt 0 y (by omega) rfl
  rw [insS, if_pos h1]
  have ih := insS_cut r l k (by simpa using hk) (fun j z hj hz => hlt (j + 1) z (by omega) (by simpa using hz)) (fun z hz => hge z (by simpa using hz))
  rw [ih]
  simp
end
end Go.Proofs.YtefkdohkjdopeaaGreatDoor.Ord
namespace Go.Proofs.YtefkdohkjdopeaaGreatDoor
open Go.RowKit Go.Maps Go.WideMaps
set_option linter.unusedVariables false
def keyP (p : P.PlaceD) : List UInt8 := p.b.data.toList
theorem srtP {ps : List P.PlaceD} (h : P.AscN ps ps.length) : Ord.Srt keyP ps :=
 Ord.srt_of keyP ps (fun j q r hq hr => by
  have h1 := h j q r (by have := (List.getElem?_eq_some_iff.1 hr).1; omega) hq hr
  rw [Ord.less_before, ByteArray.toList_eq, ByteArray.toList_eq] at h1
  exact h1)
theorem srtP_raw {ps : List P.PlaceD} (h : Ord.Srt keyP ps) : Pr.Srt (ps.map Pr.raw) := by
 show List.Pairwise _ _
 rw [List.pairwise_map]
 exact h
theorem blk_cells {y : World} {u : Nat} {C : Array Value} {t : TypeId} (h : y.heap[u]? = some (.cells C t (0, 0))) : ∀ j v, C.toList[j]? = some v → y.cell? ((⟨u, 0, none⟩ : Addr).add j) = some v := by
 intro j v hj
 rw [Addr.add_mid, Nat.zero_add]
 simp [World.cell?, h]
 simpa using hj
theorem wp_append_own_atP {P : Program} {w : World} {o : Oper} {a : Act} {K : Act → World → Prop} {Q : Exit → Act → World → Prop} (s x : Operand) (t : TypeId)
  (ho : o.op = .call { callee := .builtin .append, args := #[s, x], argTypes := #[t, t] })
  (base : Nat) (e : TypeId) (i : TypeInfo) (z : Value) (size bytes : Nat) (ht : P.underlying t = some (.slice e)) (hi : P.info? e = some i) (hz : i.zero = some z)
  (hsize : i.size = size) (hby : i.bytes = bytes) (hzs : z.cells.size = size) (hsz : 0 < size)
  (v : Value) (n : Nat) (xs : List Value) (hs : a.eval s = v) (hown : w.ownsRow base e size v n xs)
  (ad : Addr) (m c : Nat) (news : List Value) (hx : a.eval x = .slice (some ad) m c) (hl : news.length = m * size) (hnews : ∀ j u, news[j]? = some u → w.cell? (ad.add j) = some u) (h1 : ∀ u ∈ news, u.oneCell' = true)
  (h63 : n + m ≤ maxLen) (hbytes : (n + m) * bytes ≤ 140737488355328) (hbase : base ≤ w.heap.size)
  (h : ∀ v' w', w'.ownsRow base e size v' (n + m) (xs ++ news) → w.grownBy w' v.ownBlock → (v'.ownBlock = v.ownBlock ∨ v'.ownBlock = some w.heap.size) → K (a.put o.dst v') w') : o.wp P a w K Q := by
 obtain ⟨v', w', hr, h2, h3, h4, h5⟩ := run_append_own_at (P := P) w base t o.type e i z size bytes ht hi hz hsize hby hzs hsz v n xs hown ad m c news hl hnews h1 h63 hbytes hbase
 unfold Oper.wp execOp
 simp only [ho, resolve, invoke, builtin, Sem.run_bind, Sem.run_pure, Result.andThen_ok, List.map_toArray, List.map_cons, List.map_nil, hs, hx, hr]
 exact h v' w' h2 h3 h5
end Go.Proofs.YtefkdohkjdopeaaGreatDoor
namespace Go.Proofs.YtefkdohkjdopeaaGreatDoor
open Go.RowKit Go.Maps Go.WideMaps
set_option linter.unusedVariables false
def arrP (q : P.PlaceD) (av : Option Addr) (cv : Nat) : Array Value := #[.int .i64 1, .string q.b, .int .i64 q.s, .slice av q.ws.length cv, .string { data := #[] }, .string { data := #[] }, .int .i64 0]
def sl8 : Nat → Nat
 | 0 => 30
 | 1 => 31
 | 2 => 32
 | 3 => 33
 | 4 => 34
 | 5 => 35
 | 6 => 36
 | 7 => 37
 | 8 => 38
 | 9 => 39
 | _ => 0
def G8 (sv : Value) (pb Z : Nat) (q : P.PlaceD) (w : World) : Nat → Value → Prop
 | 0, v => v = sv
 | 1, v => v = .pointer (some ⟨pb, 0, none⟩)
 | 2, v => v = .string q.b
 | 3, v => v = .pointer (some ⟨pb, 1, none⟩)
 | 4, v => v = .int .i64 q.s
 | 5, v => v = .pointer (some ⟨pb, 2, none⟩)
 | 6, v => v = .slice q.a q.ws.length q.c
 | 7, v => FrV Z q.ws w v
 | 8, v => ∃ av cv, v = .agg #[.int .i64 1, .string q.b, .int .i64 q.s, .slice av q.ws.length cv, .string { data := #[] }, .string { data := #[] }, .int .i64 0] ∧ W.Sl w (.slice av q.ws.length cv) q.ws Z
 | 9, v => ∃ av cv g, v = .slice (some ⟨g, 0, none⟩) 1 1 ∧ Z ≤ g ∧ g < w.heap.size ∧ w.heap[g]? = some (.cells (arrP q av cv) 41 (0, 0)) ∧ W.Sl w (.slice av q.ws.length cv) q.ws Z
 | _, _ => True
end Go.Proofs.YtefkdohkjdopeaaGreatDoor
namespace Go.Proofs.YtefkdohkjdopeaaGreatDoor.P
open Go.RowKit
set_option linter.unusedVariables false
theorem build_land (w : World) : Sem.run Tryz.prog (Instr.buildSlice 106 4 #[(0, .func (.func 63) #[] #[]), (1, .func (.func 64) #[] #[]), (2, .func (.func 65) #[] #[]), (3, .func (.func 66) #[] #[])]) w = .ok (.slice (some ⟨w.heap.size, 0, none⟩) 4 4) (w.alloc (.cells #[.func (.func 63) #[] #[], .func (.func 64) #[] #[], .func (.func 65) #[] #[], .func (.func 66) #[] #[]] 53)) := by kernel_rfl
theorem saysL_no {t : Int} {gs : List G.GrantD} {ps : List PlaceD} (h : LandSay t gs ps → False) : SaysL false t gs ps := ⟨fun h' => (by cases h'), fun h' => (h h').elim⟩
theorem three_land {w w' : World} {t : Int} {gs : List G.GrantD} {ps : List PlaceD} {b1 b2 : Nat} (hb : Below ((((w.alloc (.cells #[.int .i64 t, .slice (some ⟨b1, 0, none⟩) gs.length gs.length, .slice (some ⟨b2, 0, none⟩) ps.length ps.length] 34))).alloc (.cells #[.func (.func 63) #[] #[], .func (.func 64) #[] #[], .func (.func 65) #[] #[], .func (.func 66) #[] #[]] 53)).alloc (.cells #[.int .i64 t, .slice (some ⟨b1, 0, none⟩) gs.length gs.length, .slice (some ⟨b2, 0, none⟩) ps.length ps.length] 34)).heap.size ((((w.alloc (.cells #[.int .i64 t, .slice (some ⟨b1, 0, none⟩) gs.length gs.length, .slice (some ⟨b2, 0, none⟩) ps.length ps.length] 34))).alloc (.cells #[.func (.func 63) #[] #[], .func (.func 64) #[] #[], .func (.func 65) #[] #[], .func (.func 66) #[] #[]] 53)).alloc (.cells #[.int .i64 t, .slice (some ⟨b1, 0, none⟩) gs.length gs.length, .slice (some ⟨b2, 0, none⟩) ps.length ps.length] 34)) w') :
  (∀ k, w'.cell? ⟨w.heap.size + 1, k, none⟩ = (#[.func (.func 63) #[] #[], .func (.func 64) #[] #[], .func (.func 65) #[] #[], .func (.func 66) #[] #[]] : Array Value)[k]?) ∧ (∀ k, w'.cell? ⟨w.heap.size + 1 + 1, k, none⟩ = (#[.int .i64 t, .slice (some ⟨b1, 0, none⟩) gs.length gs.length, .slice (some ⟨b2, 0, none⟩) ps.length ps.length] : Array Value)[k]?) := by
 constructor
 ·
  intro k
  rw [hb.cell (p := ⟨w.heap.size + 1, k, none⟩) (by simp)]
  simp [go_sem, World.cell?_alloc_past]
 ·
  intro k
  rw [hb.cell (p := ⟨w.heap.size + 1 + 1, k, none⟩) (by simp)]
  simp [go_sem]
set_option maxRecDepth 4000 in
set_option maxHeartbeats 2000000 in
theorem implLandOk (t : Int) (gs : List G.GrantD) (ps : List PlaceD) (b1 b2 : Nat) (w : World) (hA : LandAt w gs ps b1 b2) (hF : Fit gs ps) :
  Calls Tryz.prog 52 #[.agg #[.int .i64 t, .slice (some ⟨b1, 0, none⟩) gs.length gs.length, .slice (some ⟨b2, 0, none⟩) ps.length ps.length]] w fun e w' => (∃ q : Bool, e = .returned (.bool q) ∧ SaysL q t gs ps) ∧ Below w.heap.size w w' := by
 have Hx0 : Hid (Below w.heap.size w ((((w.alloc (.cells #[.int .i64 t, .slice (some ⟨b1, 0, none⟩) gs.length gs.length, .slice (some ⟨b2, 0, none⟩) ps.length ps.length] 34))).alloc (.cells #[.func (.func 63) #[] #[], .func (.func 64) #[] #[], .func (.func 65) #[] #[], .func (.func 66) #[] #[]] 53)).alloc (.cells #[.int .i64 t, .slice (some ⟨b1, 0, none⟩) gs.length gs.length, .slice (some ⟨b2, 0, none⟩) ps.length ps.length] 34))) := bl_alloc (bl_alloc (bl_alloc (Below.refl _ _) _) _) _
 have HA0 : Hid (LandAt ((((w.alloc (.cells #[.int .i64 t, .slice (some ⟨b1, 0, none⟩) gs.length gs.length, .slice (some ⟨b2, 0, none⟩) ps.length ps.length] 34))).alloc (.cells #[.func (.func 63) #[] #[], .func (.func 64) #[] #[], .func (.func 65) #[] #[], .func (.func 66) #[] #[]] 53)).alloc (.cells #[.int .i64 t, .slice (some ⟨b1, 0, none⟩) gs.length gs.length, .slice (some ⟨b2, 0, none⟩) ps.length ps.length] 34)) gs ps b1 b2) := hA.keep Hx0.out
 have HF : Hid (Fit gs ps) := hF
 clear hA hF
 have hbv := build_land
 go_enter Tryz.func52, Tryz.ntmps52
 go_wp2_with go_in
 clear hbv
 refine wp_loop_rounds 5 ?_
 rw [rounds_succ]
 go_wp2_with fail
 refine (timeOk_any t _ _ _ _ _ _ _).mono ?_
 rintro e w1 ⟨rfl, c1⟩
 obtain ⟨q1, hq1⟩ : ∃ q, q = timeB t := ⟨_, rfl⟩
 have H1 : Hid (q1 = true ↔ timeB t = true) := by rw [hq1]; exact Iff.rfl
 rw [← hq1]
 have C1 : Hid (Below ((((w.alloc (.cells #[.int .i64 t, .slice (some ⟨b1, 0, none⟩) gs.length gs.length, .slice (some ⟨b2, 0, none⟩) ps.length ps.length] 34))).alloc (.cells #[.func (.func 63) #[] #[], .func (.func 64) #[] #[], .func (.func 65) #[] #[], .func (.func 66) #[] #[]] 53)).alloc (.cells #[.int .i64 t, .slice (some ⟨b1, 0, none⟩) gs.length gs.length, .slice (some ⟨b2, 0, none⟩) ps.length ps.length] 34)).heap.size ((((w.alloc (.cells #[.int .i64 t, .slice (some ⟨b1, 0, none⟩) gs.length gs.length, .slice (some ⟨b2, 0, none⟩) ps.length ps.length] 34))).alloc (.cells #[.func (.func 63) #[] #[], .func (.func 64) #[] #[], .func (.func 65) #[] #[], .func (.func 66) #[] #[]] 53)).alloc (.cells #[.int .i64 t, .slice (some ⟨b1, 0, none⟩) gs.length gs.length, .slice (some ⟨b2, 0, none⟩) ps.length ps.length] 34)) w1) := c1
 clear hq1 c1
 obtain ⟨kf1, km1⟩ := three_land C1.out
 cases q1
 ·
  go_wp2
  go_ret
  exact ⟨⟨false, rfl, saysL_no (fun h => by have := H1.out.2 h.1; cases this)⟩, bl_trans Hx0.out C1.out⟩
 have G1 : Hid (timeB t = true) := H1.out.1 rfl
 clear H1
 have ht0 : 0 ≤ t := by have := G1.out; simp [timeB, inB] at this; omega
 have ht1 : t ≤ 2000000 := by have := G1.out; simp [timeB, inB] at this; omega
 have HA1 : Hid (LandAt w1 gs ps b1 b2) := HA0.out.keep C1.out
 go_wp2_with fail
 rw [rounds_succ]
 go_wp2_with fail
 refine (grantsOk_any t gs ps b1 b2 _ HA1.out HF.out ht0 ht1).mono ?_
 rintro e w2 ⟨⟨q2, rfl, h2⟩, c2⟩
 have H2 : Hid (q2 = true ↔ GrantsSay t gs) := h2
 have C2 : Hid (Below ((((w.alloc (.cells #[.int .i64 t, .slice (some ⟨b1, 0, none⟩) gs.length gs.length, .slice (some ⟨b2, 0, none⟩) ps.length ps.length] 34))).alloc (.cells #[.func (.func 63) #[] #[], .func (.func 64) #[] #[], .func (.func 65) #[] #[], .func (.func 66) #[] #[]] 53)).alloc (.cells #[.int .i64 t, .slice (some ⟨b1, 0, none⟩) gs.length gs.length, .slice (some ⟨b2, 0, none⟩) ps.length ps.length] 34)).heap.size ((((w.alloc (.cells #[.int .i64 t, .slice (some ⟨b1, 0, none⟩) gs.length gs.length, .slice (some ⟨b2, 0, none⟩) ps.length ps.length] 34))).alloc (.cells #[.func (.func 63) #[] #[], .func (.func 64) #[] #[], .func (.func 65) #[] #[], .func (.func 66) #[] #[]] 53)).alloc (.cells #[.int .i64 t, .slice (some ⟨b1, 0, none⟩) gs.length gs.length, .slice (some ⟨b2, 0, none⟩) ps.length ps.length] 34)) w2) := bl_trans C1.out c2
 clear h2 c2 kf1 km1
 obtain ⟨kf2, km2⟩ := three_land C2.out
 cases q2
 ·
  go_wp2
  go_ret
  exact ⟨⟨false, rfl, saysL_no (fun h => by have := H2.out.2 h.2.1; cases this)⟩, bl_trans Hx0.out C2.out⟩
 have G2 : Hid (GrantsSay t gs) := H2.out.1 rfl
 clear H2
 have HA2 : Hid (LandAt w2 gs ps b1 b2) := HA0.out.keep C2.out
 go_wp2_with fail
 rw [rounds_succ]
 go_wp2_with fail
 refine (placesOk_any t gs ps b1 b2 _ HA2.out HF.out).mono ?_
 rintro e w3 ⟨⟨q3, rfl, h3⟩, c3⟩
 have H3 : Hid (q3 = true ↔ PlacesSay ps) := h3
 have C3 : Hid (Below ((((w.alloc (.cells #[.int .i64 t, .slice (some ⟨b1, 0, none⟩) gs.length gs.length, .slice (some ⟨b2, 0, none⟩) ps.length ps.length] 34))).alloc (.cells #[.func (.func 63) #[] #[], .func (.func 64) #[] #[], .func (.func 65) #[] #[], .func (.func 66) #[] #[]] 53)).alloc (.cells #[.int .i64 t, .slice (some ⟨b1, 0, none⟩) gs.length gs.length, .slice (some ⟨b2, 0, none⟩) ps.length ps.length] 34)).heap.size ((((w.alloc (.cells #[.int .i64 t, .slice (some ⟨b1, 0, none⟩) gs.length gs.length, .slice (some ⟨b2, 0, none⟩) ps.length ps.length] 34))).alloc (.cells #[.func (.func 63) #[] #[], .func (.func 64) #[] #[], .func (.func 65) #[] #[], .func (.func 66) #[] #[]] 53)).alloc (.cells #[.int .i64 t, .slice (some ⟨b1, 0, none⟩) gs.length gs.length, .slice (some ⟨b2, 0, none⟩) ps.length ps.length] 34)) w3) := bl_trans C2.out c3
 clear h3 c3 kf2 km2
 obtain ⟨kf3, km3⟩ := three_land C3.out
 cases q3
 ·
  go_wp2
  go_ret
  exact ⟨⟨false, rfl, saysL_no (fun h => by have := H3.out.2 h.2.2.1; cases this)⟩, bl_trans Hx0.out C3.out⟩
 have G3 : Hid (PlacesSay ps) := H3.out.1 rfl
 clear H3
 have HA3 : Hid (LandAt w3 gs ps b1 b2) := HA0.out.keep C3.out
 go_wp2_with fail
 rw [rounds_succ]
 go_wp2_with fail
 refine (holdApart_any t gs ps b1 b2 _ HA3.out HF.out G3.out.1 (fun p hp => (G3.out.2.2 p hp).2.2.1)).mono ?_
 rintro e w4 ⟨⟨q4, rfl, h4⟩, c4⟩
 have H4 : Hid (q4 = true ↔ Apart ps) := h4.trans (apart_iff ps G3.out.2.2)
 have C4 : Hid (Below ((((w.alloc (.cells #[.int .i64 t, .slice (some ⟨b1, 0, none⟩) gs.length gs.length, .slice (some ⟨b2, 0, none⟩) ps.length ps.length] 34))).alloc (.cells #[.func (.func 63) #[] #[], .func (.func 64) #[] #[], .func (.func 65) #[] #[], .func (.func 66) #[] #[]] 53)).alloc (.cells #[.int .i64 t, .slice (some ⟨b1, 0, none⟩) gs.length gs.length, .slice (some ⟨b2, 0, none⟩) ps.length ps.length] 34)).heap.size ((((w.alloc (.cells #[.int .i64 t, .slice (some ⟨b1, 0, none⟩) gs.length gs.length, .slice (some ⟨b2, 0, none⟩) ps.length ps.length] 34))).alloc (.cells #[.func (.func 63) #[] #[], .func (.func 64) #[] #[], .func (.func 65) #[] #[], .func (.func 66) #[] #[]] 53)).alloc (.cells #[.int .i64 t, .slice (some ⟨b1, 0, none⟩) gs.length gs.length, .slice (some ⟨b2, 0, none⟩) ps.length ps.length] 34)) w4) := bl_trans C3.out c4
 clear h4 c4 kf3 km3
 obtain ⟨kf4, km4⟩ := three_land C4.out
 cases q4
 ·
  go_wp2
  go_ret
  exact ⟨⟨false, rfl, saysL_no (fun h => by have := H4.out.2 h.2.2.2; cases this)⟩, bl_trans Hx0.out C4.out⟩
 have G4 : Hid (Apart ps) := H4.out.1 rfl
 clear H4
 have HA4 : Hid (LandAt w4 gs ps b1 b2) := HA0.out.keep C4.out
 go_wp2_with fail
 rw [rounds_succ]
 go_wp2
 go_ret
 exact ⟨⟨true, rfl, ⟨fun _ => ⟨G1.out, G2.out, G3.out, G4.out⟩, fun _ => rfl⟩⟩, bl_trans Hx0.out C4.out⟩
end Go.Proofs.YtefkdohkjdopeaaGreatDoor.P
namespace Go.Proofs.YtefkdohkjdopeaaGreatDoor
open Go.RowKit Go.Maps Go.WideMaps
set_option linter.unusedVariables false
def Pc.PcD.says (r : Pc.PcD) : Int × ByteArray × Int × List W.WantD × ByteArray × ByteArray × Int := (r.k, r.b, r.s, r.ws, r.h, r.p, r.t)
def Pc.Like (ds es : List Pc.PcD) : Prop := ds.map Pc.PcD.says = es.map Pc.PcD.says
structure TkO (w : World) (B : Nat) (gs : List G.GrantD) (qs : List P.PlaceD) (ds : List Pc.PcD) (s1 s2 v : Value) : Prop where
 l : LdO w B gs qs s1 s2
 c : PcO w B ds v
 lc : ∀ g, LdO.bs qs s1 s2 g → ¬ PcO.bs ds v g
theorem TkO.keep {w w' : World} {B : Nat} {gs : List G.GrantD} {qs : List P.PlaceD} {ds : List Pc.PcD} {s1 s2 v : Value} (h : TkO w B gs qs ds s1 s2 v) (hb : Below w.heap.size w w') : TkO w' B gs qs ds s1 s2 v := ⟨h.l.keep hb, h.c.keep hb, h.lc⟩
theorem TkO.low {w : World} {B B' : Nat} {gs : List G.GrantD} {qs : List P.PlaceD} {ds : List Pc.PcD} {s1 s2 v : Value} (h : TkO w B gs qs ds s1 s2 v) (hB : B' ≤ B) : TkO w B' gs qs ds s1 s2 v := ⟨h.l.low hB, h.c.low hB, h.lc⟩
def TkO.bs (qs : List P.PlaceD) (ds : List Pc.PcD) (s1 s2 v : Value) (g : Nat) : Prop := LdO.bs qs s1 s2 g ∨ PcO.bs ds v g
theorem TkO.lt {w : World} {B : Nat} {gs : List G.GrantD} {qs : List P.PlaceD} {ds : List Pc.PcD} {s1 s2 v : Value} (h : TkO w B gs qs ds s1 s2 v) : ∀ g, TkO.bs qs ds s1 s2 v g → B ≤ g ∧ g < w.heap.size := by
 rintro g (hg | hg)
 ·
  exact h.l.lt g hg
 ·
  exact h.c.lt g hg
theorem TkO.off {X : Nat → Prop} {w w' : World} {B : Nat} {gs : List G.GrantD} {qs : List P.PlaceD} {ds : List Pc.PcD} {s1 s2 v : Value} (h : TkO w B gs qs ds s1 s2 v) (ho : Off X w w') (hn : ∀ g, TkO.bs qs ds s1 s2 v g → ¬ X g) : TkO w' B gs qs ds s1 s2 v :=
 ⟨h.l.off ho (fun g hg => hn g (Or.inl hg)), h.c.off ho (fun g hg => hn g (Or.inr hg)), h.lc⟩
end Go.Proofs.YtefkdohkjdopeaaGreatDoor
