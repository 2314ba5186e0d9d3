import Derived.Test.YtgehmpnlfnlboaaGreatDoorJ18
import Derived.Test.YtgehmpnlfnlboaaGreatDoorJ19
/- A book of the call's own, and what a tick sends: as the laws look at them. -/
namespace Go.Proofs.YtgehmpnlfnlboaaGreatDoor
open Go.RowKit Go.Maps Go.WideMaps
set_option linter.unusedVariables false

/-- A book of the call's own: no block of it is another's. -/
structure LdO (w : World) (B : Nat) (gs : List G.GrantD) (qs : List P.PlaceD) (s1 s2 : Value) : Prop where
  g : G.Sl w s1 gs B
  p : PlO w B qs s2
  gp : ∀ g, s1.ownBlock = some g → ¬ PlO.bs qs s2 g
def LdO.bs (qs : List P.PlaceD) (s1 s2 : Value) (g : Nat) : Prop := s1.ownBlock = some g ∨ PlO.bs qs s2 g
theorem LdO.keep {w w' : World} {B : Nat} {gs : List G.GrantD} {qs : List P.PlaceD} {s1 s2 : Value} (h : LdO w B gs qs s1 s2) (hb : Below w.heap.size w w') : LdO w' B gs qs s1 s2 := ⟨h.g.keep hb, h.p.keep hb, h.gp⟩
theorem LdO.low {w : World} {B B' : Nat} {gs : List G.GrantD} {qs : List P.PlaceD} {s1 s2 : Value} (h : LdO w B gs qs s1 s2) (hB : B' ≤ B) : LdO w B' gs qs s1 s2 := ⟨h.g.low hB, h.p.low hB, h.gp⟩
theorem LdO.lt {w : World} {B : Nat} {gs : List G.GrantD} {qs : List P.PlaceD} {s1 s2 : Value} (h : LdO w B gs qs s1 s2) : ∀ g, LdO.bs qs s1 s2 g → B ≤ g ∧ g < w.heap.size := by
  rintro g (hg | hg)
  · exact h.g.lt g hg
  · exact h.p.lt g hg
theorem LdO.off {X : Nat → Prop} {w w' : World} {B : Nat} {gs : List G.GrantD} {qs : List P.PlaceD} {s1 s2 : Value} (h : LdO w B gs qs s1 s2) (ho : Off X w w') (hn : ∀ g, LdO.bs qs s1 s2 g → ¬ X g) : LdO w' B gs qs s1 s2 :=
  ⟨h.g.off ho (fun g hg => hn g (Or.inl hg)), h.p.off ho (fun g hg => hn g (Or.inr hg)), h.gp⟩
theorem LdO.nil (w : World) (B : Nat) : LdO w B [] [] (.slice none 0 0) (.slice none 0 0) := ⟨Or.inl ⟨rfl, rfl⟩, PlO.nil w B, fun g hg => by cases hg⟩
theorem off_of_ex {b : Nat} {w w' : World} (h : Ex b w w') : Off (fun j => j = b) w w' := ⟨h.os, h.tape, h.output, h.size, fun k hk hne => h.block k hk hne⟩
/-- A row of grants is no row of places. -/
theorem og_oq_ne {B B' : Nat} {gs : List G.GrantD} {ps : List Pr.PlRaw} {w : World} {v u : Value} (h : OG B gs w v) (h' : OQ B' ps w u) : ∀ g, v.ownBlock = some g → u.ownBlock ≠ some g := by
  intro g e e'
  obtain ⟨-, ⟨rfl, -⟩ | ⟨g1, cap, cur, rfl, -, h3, -⟩⟩ := h
  · cases e
  · obtain ⟨-, ⟨rfl, -⟩ | ⟨g2, cap', cur', rfl, -, h5, -⟩⟩ := h'
    · cases e'
    · have e1 : g1 = g := Option.some.inj e
      have e2 : g2 = g := Option.some.inj e'
      rw [e1] at h3
      rw [e2, h3] at h5
      have e3 : 74 = 46 := by
        have := Option.some.inj h5
        injection this
      exact absurd e3 (by decide)
theorem pt_ldo {w : World} {B Z lb : Nat} {t : Int} {gs : List G.GrantD} {qs0 qs : List P.PlaceD} {s1 : Value} {a2 : Option Addr} {c2 : Nat} (h : Pt w B Z lb t gs qs0 qs qs0.length s1 a2 c2) : LdO w B gs qs s1 (.slice a2 qs0.length c2) := by
  have hlen := h.like.len
  have e1 : qs0.length = (qs.map Pr.raw).length := by rw [List.length_map]; exact hlen.symm
  have hp : Pr.Sl w (.slice a2 (qs.map Pr.raw).length c2) (qs.map Pr.raw) B := Pr.Sl.of_owns (by have := h.p; unfold OQ at this; rwa [e1] at this)
  rw [← e1] at hp
  have zl := h.zl
  have hjl : ∀ (j : Nat) q, qs[j]? = some q → j < qs0.length := fun j q hq => by rw [← hlen]; exact (List.getElem?_eq_some_iff.1 hq).1
  have hz : ∀ (j : Nat) q g, qs[j]? = some q → (Value.slice q.a q.ws.length q.c).ownBlock = some g → Z ≤ g := fun j q g hq hg => ((h.new j q (hjl j q hq) hq).lt g hg).1
  refine ⟨G.Sl.of_owns h.g, ⟨hp, fun j q hq => sl_lowW (h.new j q (hjl j q hq) hq) (by omega), fun j q g hq hg e => ?_, fun i j q r g hij hq hr hg => h.dif i j q r hij (hjl j r hr) hq hr g hg⟩, ?_⟩
  · have h1 := hz j q g hq hg
    have h2 := h.zp g e
    omega
  · rintro g hg (e | ⟨j, q, hq, e⟩)
    · exact og_oq_ne h.g h.p g hg e
    · have h1 := hz j q g hq e
      have h2 := h.zg g hg
      omega
theorem src_blk {w : World} {B : Nat} {q : P.PlaceD} (h : q.blk B w) : W.Src w q.a q.c q.ws := by
  obtain ⟨g, h1, h2, h3, h4, h5⟩ := h
  exact Or.inr ⟨g, h1, h4, h5⟩
theorem src_ex {w y : World} {d a : Nat} {q : P.PlaceD} (h : q.blk a w) (hd : w.heap.size ≤ d) {x : World} (hb : Below w.heap.size w x) (he : Ex d x y) : W.Src y q.a q.c q.ws := by
  obtain ⟨g, h1, h2, h3, h4, h5⟩ := h
  exact Or.inr ⟨g, h1, Nat.lt_of_lt_of_le (Nat.lt_of_lt_of_le h4 hb.size) he.size, W.RowsAt.exq (h5.keep h4 hb) (Nat.lt_of_lt_of_le h4 hb.size) he (by omega)⟩
def Pc.PcD.says (r : Pc.PcD) : Int × ByteArray × Int × List W.WantD × ByteArray × ByteArray × Int := (r.k, r.b, r.s, r.ws, r.h, r.p, r.t)
def Pc.Like (ds es : List Pc.PcD) : Prop := ds.map Pc.PcD.says = es.map Pc.PcD.says
def toldSay (q : P.PlaceD) : Int × ByteArray × Int × List W.WantD × ByteArray × ByteArray × Int := (1, q.b, q.s, q.ws, { data := #[] }, { data := #[] }, 0)
def sentD (q : P.PlaceD) (c : Pc.PcRaw) : Pc.PcD := ⟨c.k, c.b, c.s, c.a, c.c, q.ws, c.h, c.p, c.t⟩
theorem sn_pco {w : World} {B : Nat} {qs : List P.PlaceD} {cs : List Pc.PcRaw} {v : Value} (h : Sn w B qs cs v) (hl : cs.length = qs.length) : ∃ ds : List Pc.PcD, PcO w B ds v ∧ ds.map Pc.PcD.says = qs.map toldSay ∧ ds.map Pc.raw = cs := by
  have at_ : ∀ (j : Nat) d, (List.zipWith sentD qs cs)[j]? = some d → ∃ q c, qs[j]? = some q ∧ cs[j]? = some c ∧ d = sentD q c ∧ c = toldP q c.a c.c ∧ W.Sl w (.slice c.a q.ws.length c.c) q.ws B := by
    intro j d hd
    rw [List.getElem?_zipWith] at hd
    cases hc : cs[j]? with
    | none => rw [hc] at hd; cases hq : qs[j]? <;> simp [hq] at hd
    | some c =>
      obtain ⟨q, h1, h2, h3⟩ := h.el j c hc
      rw [hc, h1] at hd
      simp at hd
      exact ⟨q, c, h1, rfl, hd.symm, h2, h3⟩
  have eraw : (List.zipWith sentD qs cs).map Pc.raw = cs := by
    apply List.ext_getElem?
    intro j
    rw [List.getElem?_map]
    cases hd : (List.zipWith sentD qs cs)[j]? with
    | none =>
      rw [List.getElem?_eq_none_iff] at hd
      rw [List.length_zipWith] at hd
      rw [List.getElem?_eq_none (by omega)]
      rfl
    | some d =>
      obtain ⟨q, c, h1, h2, h3, h4, h5⟩ := at_ j d hd
      rw [h2, h3]
      show some (Pc.raw (sentD q c)) = some c
      have e : c.n = q.ws.length := by rw [h4]; rfl
      obtain ⟨a1, a2, a3, a4, a5, a6, a7, a8, a9⟩ := c
      simp only at e
      subst e
      rfl
  refine ⟨List.zipWith sentD qs cs, ⟨?_, ?_, ?_, ?_⟩, ?_, eraw⟩
  · rw [eraw]
    exact Pc.Sl.of_owns h.o
  · intro j d hd
    obtain ⟨q, c, h1, h2, h3, h4, h5⟩ := at_ j d hd
    subst h3
    exact h5
  · intro j d g hd hg
    obtain ⟨q, c, h1, h2, h3, h4, h5⟩ := at_ j d hd
    subst h3
    exact h.nr j c g h2 (by rw [show c.n = q.ws.length by rw [h4]; rfl]; exact hg)
  · intro i j d e g hij hd he hg
    obtain ⟨q, c, h1, h2, h3, h4, h5⟩ := at_ i d hd
    obtain ⟨q', c', h1', h2', h3', h4', h5'⟩ := at_ j e he
    subst h3 h3'
    have := h.dif i j c c' g hij h2 h2' (by rw [show c.n = q.ws.length by rw [h4]; rfl]; exact hg)
    rw [show c'.n = q'.ws.length by rw [h4']; rfl] at this
    exact this
  · apply List.ext_getElem?
    intro j
    rw [List.getElem?_map, List.getElem?_map]
    cases hd : (List.zipWith sentD qs cs)[j]? with
    | none =>
      rw [List.getElem?_eq_none_iff] at hd
      rw [List.length_zipWith] at hd
      rw [List.getElem?_eq_none (by omega)]
      rfl
    | some d =>
      obtain ⟨q, c, h1, h2, h3, h4, h5⟩ := at_ j d hd
      rw [h1, h3]
      show some (Pc.PcD.says (sentD q c)) = some (toldSay q)
      rw [h4]
      rfl
theorem sn_lt {w : World} {B : Nat} {qs : List P.PlaceD} {cs : List Pc.PcRaw} {v : Value} (h : Sn w B qs cs v) {ds : List Pc.PcD} (hd : ds.map Pc.raw = cs) : ∀ g, PcO.bs ds v g → g < w.heap.size := by
  rintro g (hg | ⟨j, d, hj, hg⟩)
  · exact ((Pc.Sl.of_owns h.o).lt g hg).2
  · have hc : cs[j]? = some (Pc.raw d) := by rw [← hd, List.getElem?_map, hj]; rfl
    exact (h.own hc hg).2
/-- What a tick answers: a book, and what it sends. -/
structure TkO (w : World) (B : Nat) (gs : List G.GrantD) (qs : List P.PlaceD) (ds : List Pc.PcD) (s1 s2 v : Value) : Prop where
  l : LdO w B gs qs s1 s2
  c : PcO w B ds v
  lc : ∀ g, LdO.bs qs s1 s2 g → ¬ PcO.bs ds v g
theorem TkO.keep {w w' : World} {B : Nat} {gs : List G.GrantD} {qs : List P.PlaceD} {ds : List Pc.PcD} {s1 s2 v : Value} (h : TkO w B gs qs ds s1 s2 v) (hb : Below w.heap.size w w') : TkO w' B gs qs ds s1 s2 v := ⟨h.l.keep hb, h.c.keep hb, h.lc⟩
theorem TkO.low {w : World} {B B' : Nat} {gs : List G.GrantD} {qs : List P.PlaceD} {ds : List Pc.PcD} {s1 s2 v : Value} (h : TkO w B gs qs ds s1 s2 v) (hB : B' ≤ B) : TkO w B' gs qs ds s1 s2 v := ⟨h.l.low hB, h.c.low hB, h.lc⟩
def TkO.bs (qs : List P.PlaceD) (ds : List Pc.PcD) (s1 s2 v : Value) (g : Nat) : Prop := LdO.bs qs s1 s2 g ∨ PcO.bs ds v g
theorem TkO.lt {w : World} {B : Nat} {gs : List G.GrantD} {qs : List P.PlaceD} {ds : List Pc.PcD} {s1 s2 v : Value} (h : TkO w B gs qs ds s1 s2 v) : ∀ g, TkO.bs qs ds s1 s2 v g → B ≤ g ∧ g < w.heap.size := by
  rintro g (hg | hg)
  · exact h.l.lt g hg
  · exact h.c.lt g hg
theorem TkO.off {X : Nat → Prop} {w w' : World} {B : Nat} {gs : List G.GrantD} {qs : List P.PlaceD} {ds : List Pc.PcD} {s1 s2 v : Value} (h : TkO w B gs qs ds s1 s2 v) (ho : Off X w w') (hn : ∀ g, TkO.bs qs ds s1 s2 v g → ¬ X g) : TkO w' B gs qs ds s1 s2 v :=
  ⟨h.l.off ho (fun g hg => hn g (Or.inl hg)), h.c.off ho (fun g hg => hn g (Or.inr hg)), h.lc⟩
/-- What a tick must answer. -/
def TickSay (t : Int) (gs : List G.GrantD) (ps : List P.PlaceD) (t' : Int) (gs' : List G.GrantD) (qs : List P.PlaceD) (ds : List Pc.PcD) : Prop :=
  (¬ P.LandSay t gs ps ∧ t' = 0 ∧ gs' = [] ∧ qs = [] ∧ ds = []) ∨ (P.LandSay t gs ps ∧ gs' = gs ∧ P.Like qs ps ∧ ((2000000 ≤ t ∧ t' = t ∧ ds = []) ∨ (t < 2000000 ∧ t' = t + 2 ∧ ds.map Pc.PcD.says = ps.map toldSay)))
/-- The same is said in one way. -/
theorem tick_one {t : Int} {gs : List G.GrantD} {ps ps' : List P.PlaceD} {t1 t2 : Int} {g1 g2 : List G.GrantD} {q1 q2 : List P.PlaceD} {d1 d2 : List Pc.PcD} (hl : P.Like ps ps') (h1 : TickSay t gs ps t1 g1 q1 d1) (h2 : TickSay t gs ps' t2 g2 q2 d2) : t1 = t2 ∧ g1 = g2 ∧ P.Like q1 q2 ∧ Pc.Like d1 d2 := by
  have et : ps.map toldSay = ps'.map toldSay := by
    have e : ∀ l : List P.PlaceD, l.map toldSay = (l.map P.PlaceD.says).map (fun x => ((1, x.1, x.2.1, x.2.2, { data := #[] }, { data := #[] }, 0) : Int × ByteArray × Int × List W.WantD × ByteArray × ByteArray × Int)) := fun l => by rw [List.map_map]; rfl
    rw [e, e, hl]
  rcases h1 with ⟨n1, rfl, rfl, rfl, rfl⟩ | ⟨y1, rfl, k1, z1⟩
  · rcases h2 with ⟨n2, rfl, rfl, rfl, rfl⟩ | ⟨y2, -⟩
    · exact ⟨rfl, rfl, rfl, rfl⟩
    · exact (n1 ((P.like_says hl).2 y2)).elim
  · rcases h2 with ⟨n2, -⟩ | ⟨y2, rfl, k2, z2⟩
    · exact (n2 ((P.like_says hl).1 y1)).elim
    · refine ⟨?_, rfl, (k1.trans hl).trans k2.symm, ?_⟩
      · rcases z1 with ⟨a1, rfl, -⟩ | ⟨a1, rfl, -⟩ <;> rcases z2 with ⟨a2, rfl, -⟩ | ⟨a2, rfl, -⟩ <;> omega
      · rcases z1 with ⟨a1, -, rfl⟩ | ⟨a1, -, e1⟩ <;> rcases z2 with ⟨a2, -, rfl⟩ | ⟨a2, -, e2⟩
        · rfl
        · omega
        · omega
        · show d1.map _ = d2.map _
          rw [e1, e2, et]
end Go.Proofs.YtgehmpnlfnlboaaGreatDoor
