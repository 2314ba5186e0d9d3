import Derived.Test.YtcjhlhijdacinaaGreatDoorJ06
import Derived.Test.YtcjhlhijdacinaaGreatDoorJ02
import Derived.Test.YtcjhlhijdacinaaGreatDoorJ09
import Derived.Test.YtcjhlhijdacinaaGreatDoorJ05
namespace Go.Proofs.YtcjhlhijdacinaaGreatDoor
open Go.RowKit
set_option linter.unusedVariables false
theorem G.Sl.off {P:Nat→Prop} {w w':World} {v:Value} {l:List G.GrantD} {B:Nat} (h:G.Sl w v l B) (ho:Off P w w') (hn:∀ g,v.ownBlock=some g→¬ P g):G.Sl w' v l B:=by
 rcases h with h | ⟨g,cap,rfl,h1,h2,h3,h4⟩
 · exact Or.inl h
 have hg:¬ P g:=hn g rfl
 have hc:∀ o,w'.cell? ⟨g,o,none⟩=w.cell? ⟨g,o,none⟩:=fun o=>World.cell?_of_block (w:=w) (a:=⟨g,o,none⟩) (ho.block g h2 hg)
 have hfz:∀ o,w'.frozen? ⟨g,o,none⟩=w.frozen? ⟨g,o,none⟩:=fun o=>World.frozen?_of_block (w:=w) (a:=⟨g,o,none⟩) (ho.block g h2 hg)
 exact Or.inr ⟨g,cap,rfl,h1,Nat.lt_of_lt_of_le h2 ho.size,fun k r hk j v hj=>(hc _).trans (h3 k r hk j v hj),fun j hj=>⟨by rw [hc]; exact (h4 j hj).1,by rw [hfz]; exact (h4 j hj).2⟩⟩
theorem G.Sl.low {w:World} {v:Value} {l:List G.GrantD} {B B':Nat} (h:G.Sl w v l B) (hB:B'≤B):G.Sl w v l B':=by
 rcases h with h | ⟨g,cap,h0,h1,h2,h3,h4⟩
 · exact Or.inl h
 exact Or.inr ⟨g,cap,h0,Nat.le_trans hB h1,h2,h3,h4⟩
theorem G.Sl.row {w:World} {v:Value} {B m:Nat} {l:List G.GrantD} {r:G.GrantD} (h:G.Sl w v l B) (hr:l[m]?=some r) :
  ∃ g cap,v=.slice (some ⟨g,0,none⟩) l.length cap∧g < w.heap.size∧G.RowsAt w g 0 l∧∀ j,j < 5→w.frozen? ⟨g,m * 5+j,none⟩=false:=by
 have hlt:m < l.length:=(List.getElem?_eq_some_iff.1 hr).1
 rcases h with ⟨h1,h2⟩ | ⟨g,cap,h1,h2,h3,h4,h5⟩
 · rw [h2] at hlt; simp at hlt
 ·
  refine ⟨g,cap,h1,h3,h4,fun j hj=>?_⟩
  have:=(h5 (m * 5+j) (by omega)).2
  rwa [Nat.zero_add] at this
theorem Pr.Sl.setc {w:World} {g n p B m j:Nat} {l:List Pr.PlRaw} {r r':Pr.PlRaw} {u:Value} (h:Pr.Sl w (.slice (some ⟨g,0,none⟩) n p) l B) (hr:l[m]?=some r) (hj:j < 3) (hc:r'.cells=r.cells.set j u) :
  Pr.Sl (w.setCell ⟨g,m * 3+j,none⟩ u) (.slice (some ⟨g,0,none⟩) n p) (l.set m r') B:=by
 have hlt:m < l.length:=(List.getElem?_eq_some_iff.1 hr).1
 rcases h with ⟨h1,h2⟩ | ⟨g',cap,h1,h2,h3,h4,h5⟩
 · rw [h2] at hlt; simp at hlt
 ·
  injection h1 with e1 e2 e3
  injection e1 with e1
  injection e1 with e1
  subst e1 e2 e3
  have he:Ex g w (w.setCell ⟨g,m * 3+j,none⟩ u):=(Ex.refl _ _).set _ _
  refine Or.inr ⟨g,_,by rw [List.length_set],h2,Nat.lt_of_lt_of_le h3 he.size, ?_,by rw [List.length_set]; exact World.there_setCells h5 g (m * 3+j) [u]⟩
  intro k q hk i v hi
  have hin:i < 3:=by
   rcases Nat.lt_or_ge i 3 with h' | h'
   · exact h'
   rw [List.getElem?_eq_none (by show 3≤i; exact h')] at hi; cases hi
  rw [Nat.zero_add]
  by_cases e:m=k
  ·
   subst e
   rw [List.getElem?_set_self hlt] at hk
   injection hk with hk
   subst hk
   rw [hc] at hi
   by_cases e2:i=j
   ·
    subst e2
    rw [List.getElem?_set_self (by show i < 3; exact hj)] at hi
    injection hi with hi
    subst hi
    have hz:i < r.cells.length:=by show i < 3; exact hj
    have h0:=h4 m r hr i _ (List.getElem?_eq_getElem hz)
    rw [Nat.zero_add] at h0
    exact World.cell?_setCell_same _ _ _ h0
   rw [List.getElem?_set_ne (fun h'=>e2 h'.symm)] at hi
   rw [World.cell?_setCell_other _ _ _ _ (fun h'=>e2 (by have:=congrArg Addr.off h'; simp only at this; omega))]
   have h0:=h4 m r hr i v hi
   rwa [Nat.zero_add] at h0
  rw [List.getElem?_set_ne e] at hk
  rw [World.cell?_setCell_other _ _ _ _ (fun h'=>e (by have:=congrArg Addr.off h'; simp only at this; omega))]
  have h0:=h4 k q hk i v hi
  rwa [Nat.zero_add] at h0
theorem Pr.Sl.off {P:Nat→Prop} {w w':World} {v:Value} {l:List Pr.PlRaw} {B:Nat} (h:Pr.Sl w v l B) (ho:Off P w w') (hn:∀ g,v.ownBlock=some g→¬ P g):Pr.Sl w' v l B:=by
 rcases h with h | ⟨g,cap,rfl,h1,h2,h3,h4⟩
 · exact Or.inl h
 have hg:¬ P g:=hn g rfl
 have hc:∀ o,w'.cell? ⟨g,o,none⟩=w.cell? ⟨g,o,none⟩:=fun o=>World.cell?_of_block (w:=w) (a:=⟨g,o,none⟩) (ho.block g h2 hg)
 have hfz:∀ o,w'.frozen? ⟨g,o,none⟩=w.frozen? ⟨g,o,none⟩:=fun o=>World.frozen?_of_block (w:=w) (a:=⟨g,o,none⟩) (ho.block g h2 hg)
 exact Or.inr ⟨g,cap,rfl,h1,Nat.lt_of_lt_of_le h2 ho.size,fun k r hk j v hj=>(hc _).trans (h3 k r hk j v hj),fun j hj=>⟨by rw [hc]; exact (h4 j hj).1,by rw [hfz]; exact (h4 j hj).2⟩⟩
theorem Pr.Sl.low {w:World} {v:Value} {l:List Pr.PlRaw} {B B':Nat} (h:Pr.Sl w v l B) (hB:B'≤B):Pr.Sl w v l B':=by
 rcases h with h | ⟨g,cap,h0,h1,h2,h3,h4⟩
 · exact Or.inl h
 exact Or.inr ⟨g,cap,h0,Nat.le_trans hB h1,h2,h3,h4⟩
theorem Pr.Sl.row {w:World} {v:Value} {B m:Nat} {l:List Pr.PlRaw} {r:Pr.PlRaw} (h:Pr.Sl w v l B) (hr:l[m]?=some r) :
  ∃ g cap,v=.slice (some ⟨g,0,none⟩) l.length cap∧g < w.heap.size∧Pr.RowsAt w g 0 l∧∀ j,j < 3→w.frozen? ⟨g,m * 3+j,none⟩=false:=by
 have hlt:m < l.length:=(List.getElem?_eq_some_iff.1 hr).1
 rcases h with ⟨h1,h2⟩ | ⟨g,cap,h1,h2,h3,h4,h5⟩
 · rw [h2] at hlt; simp at hlt
 ·
  refine ⟨g,cap,h1,h3,h4,fun j hj=>?_⟩
  have:=(h5 (m * 3+j) (by omega)).2
  rwa [Nat.zero_add] at this
theorem Pc.Sl.off {P:Nat→Prop} {w w':World} {v:Value} {l:List Pc.PcRaw} {B:Nat} (h:Pc.Sl w v l B) (ho:Off P w w') (hn:∀ g,v.ownBlock=some g→¬ P g):Pc.Sl w' v l B:=by
 rcases h with h | ⟨g,cap,rfl,h1,h2,h3,h4⟩
 · exact Or.inl h
 have hg:¬ P g:=hn g rfl
 have hc:∀ o,w'.cell? ⟨g,o,none⟩=w.cell? ⟨g,o,none⟩:=fun o=>World.cell?_of_block (w:=w) (a:=⟨g,o,none⟩) (ho.block g h2 hg)
 have hfz:∀ o,w'.frozen? ⟨g,o,none⟩=w.frozen? ⟨g,o,none⟩:=fun o=>World.frozen?_of_block (w:=w) (a:=⟨g,o,none⟩) (ho.block g h2 hg)
 exact Or.inr ⟨g,cap,rfl,h1,Nat.lt_of_lt_of_le h2 ho.size,fun k r hk j v hj=>(hc _).trans (h3 k r hk j v hj),fun j hj=>⟨by rw [hc]; exact (h4 j hj).1,by rw [hfz]; exact (h4 j hj).2⟩⟩
theorem Pc.Sl.low {w:World} {v:Value} {l:List Pc.PcRaw} {B B':Nat} (h:Pc.Sl w v l B) (hB:B'≤B):Pc.Sl w v l B':=by
 rcases h with h | ⟨g,cap,h0,h1,h2,h3,h4⟩
 · exact Or.inl h
 exact Or.inr ⟨g,cap,h0,Nat.le_trans hB h1,h2,h3,h4⟩
structure Pc.PcD where
 k:Int
 b:ByteArray
 s:Int
 a:Option Addr
 c:Nat
 ws:List W.WantD
 h:ByteArray
 p:ByteArray
 t:Int
def Pc.raw (r:Pc.PcD):Pc.PcRaw:=⟨r.k,r.b,r.s,r.a,r.ws.length,r.c,r.h,r.p,r.t⟩
def Cps (qs:List P.PlaceD):Prop:=∀ q∈qs,q.ws.length≤q.c
theorem cps_app {qs:List P.PlaceD} {q:P.PlaceD} (h:Cps qs) (hq:q.ws.length≤q.c):Cps (qs++[q]):=by
 intro r hr
 rcases List.mem_append.1 hr with hr | hr
 · exact h r hr
 rw [List.mem_singleton.1 hr]; exact hq
theorem cps_set {qs:List P.PlaceD} {m:Nat} {q q':P.PlaceD} (h:Cps qs) (hq:qs[m]?=some q) (e2:q'.ws.length=q.ws.length) (e3:q'.c=q.c):Cps (qs.set m q'):=by
 intro r hr
 rcases List.mem_or_eq_of_mem_set hr with hr | rfl
 · exact h r hr
 rw [e2,e3]; exact h q (List.mem_of_getElem? hq)
structure PlO (w:World) (B:Nat) (qs:List P.PlaceD) (v:Value):Prop where
 o:Pr.Sl w v (qs.map Pr.raw) B
 k:∀ (j:Nat) q,qs[j]?=some q→W.Sl w (.slice q.a q.ws.length q.c) q.ws B
 nr:∀ (j:Nat) q g,qs[j]?=some q→(Value.slice q.a q.ws.length q.c).ownBlock=some g→v.ownBlock≠some g
 dif:∀ (i j:Nat) q r g,i < j→qs[i]?=some q→qs[j]?=some r→(Value.slice q.a q.ws.length q.c).ownBlock=some g→(Value.slice r.a r.ws.length r.c).ownBlock≠some g
 c:Cps qs
def PlO.bs (qs:List P.PlaceD) (v:Value) (g:Nat):Prop:=v.ownBlock=some g∨∃ (j:Nat) (q:P.PlaceD),qs[j]?=some q∧(Value.slice q.a q.ws.length q.c).ownBlock=some g
theorem PlO.lt {w:World} {B:Nat} {qs:List P.PlaceD} {v:Value} (h:PlO w B qs v):∀ g,PlO.bs qs v g→B≤g∧g < w.heap.size:=by
 rintro g (hg | ⟨j,q,hq,hg⟩)
 · exact h.o.lt g hg
 exact (h.k j q hq).lt g hg
theorem PlO.keep {w w':World} {B:Nat} {qs:List P.PlaceD} {v:Value} (h:PlO w B qs v) (hb:Below w.heap.size w w'):PlO w' B qs v :=
 ⟨h.o.keep hb,fun j q hq=>(h.k j q hq).keep hb,h.nr,h.dif,h.c⟩
theorem PlO.off {X:Nat→Prop} {w w':World} {B:Nat} {qs:List P.PlaceD} {v:Value} (h:PlO w B qs v) (ho:Off X w w') (hn:∀ g,PlO.bs qs v g→¬ X g):PlO w' B qs v :=
 ⟨h.o.off ho (fun g hg=>hn g (Or.inl hg)),fun j q hq=>(h.k j q hq).off ho (fun g hg=>hn g (Or.inr ⟨j,q,hq,hg⟩)),h.nr,h.dif,h.c⟩
theorem PlO.low {w:World} {B B':Nat} {qs:List P.PlaceD} {v:Value} (h:PlO w B qs v) (hB:B'≤B):PlO w B' qs v :=
 ⟨h.o.low hB,fun j q hq=>by
  rcases h.k j q hq with h | ⟨g,cap,h0,h1,h2,h3,h4⟩
  · exact Or.inl h
  exact Or.inr ⟨g,cap,h0,Nat.le_trans hB h1,h2,h3,h4⟩,h.nr,h.dif,h.c⟩
theorem PlO.nil (w:World) (B:Nat):PlO w B [] (.slice none 0 0):=⟨Or.inl ⟨rfl,rfl⟩,fun j q hq=>by simp at hq,fun j q g hq=>by simp at hq,fun i j q r g _ hq=>by simp at hq,fun q hq=>by cases hq⟩
theorem PlO.apart {qs:List P.PlaceD} {v:Value} {m:Nat} {q q':P.PlaceD} (hq:qs[m]?=some q) (e1:q'.a=q.a) (e2:q'.ws.length=q.ws.length) (e3:q'.c=q.c)
  (nr:∀ (j:Nat) q g,qs[j]?=some q→(Value.slice q.a q.ws.length q.c).ownBlock=some g→v.ownBlock≠some g) (dif:∀ (i j:Nat) q r g,i < j→qs[i]?=some q→qs[j]?=some r→(Value.slice q.a q.ws.length q.c).ownBlock=some g→(Value.slice r.a r.ws.length r.c).ownBlock≠some g) :
  (∀ (j:Nat) q g,(qs.set m q')[j]?=some q→(Value.slice q.a q.ws.length q.c).ownBlock=some g→v.ownBlock≠some g)∧(∀ (i j:Nat) q r g,i < j→(qs.set m q')[i]?=some q→(qs.set m q')[j]?=some r→(Value.slice q.a q.ws.length q.c).ownBlock=some g→(Value.slice r.a r.ws.length r.c).ownBlock≠some g):=by
 have hm:m < qs.length:=(List.getElem?_eq_some_iff.1 hq).1
 have e:(Value.slice q'.a q'.ws.length q'.c)=(Value.slice q.a q.ws.length q.c):=by rw [e1,e2,e3]
 have back:∀ (j:Nat) r,(qs.set m q')[j]?=some r→∃ r0,qs[j]?=some r0∧(Value.slice r.a r.ws.length r.c)=(Value.slice r0.a r0.ws.length r0.c):=by
  intro j r hr
  by_cases ej:m=j
  ·
   subst ej
   rw [List.getElem?_set_self hm] at hr
   cases hr
   exact ⟨q,hq,e⟩
  rw [List.getElem?_set_ne ej] at hr
  exact ⟨r,hr,rfl⟩
 constructor
 ·
  intro j r g hr hg
  obtain ⟨r0,h0,e0⟩:=back j r hr
  rw [e0] at hg
  exact nr j r0 g h0 hg
 ·
  intro i j r s g hij hr hs hg
  obtain ⟨r0,h0,e0⟩:=back i r hr
  obtain ⟨s0,h1,e1⟩:=back j s hs
  rw [e0] at hg
  rw [e1]
  exact dif i j r0 s0 g hij h0 h1 hg
theorem PlO.wants {w w':World} {B m:Nat} {v:Value} {qs:List P.PlaceD} {q q':P.PlaceD} (h:PlO w B qs v) (hq:qs[m]?=some q) (e1:q'.a=q.a) (e2:q'.ws.length=q.ws.length) (e3:q'.c=q.c) (er:Pr.raw q'=Pr.raw q) (hw:W.Sl w' (.slice q.a q.ws.length q.c) q'.ws B) (hg:w.grownBy w' (Value.slice q.a q.ws.length q.c).ownBlock) :
  PlO w' B (qs.set m q') v:=by
 have hm:m < qs.length:=(List.getElem?_eq_some_iff.1 hq).1
 obtain ⟨a1,a2⟩:=PlO.apart hq e1 e2 e3 h.nr h.dif
 refine ⟨?_, ?_,a1,a2,cps_set h.c hq e2 e3⟩
 ·
  rw [List.map_set,er]
  have:(qs.map Pr.raw).set m (Pr.raw q)=qs.map Pr.raw:=by
   apply List.ext_getElem?
   intro i
   by_cases ei:m=i
   ·
    subst ei
    rw [List.getElem?_set_self (by rw [List.length_map]; exact hm),List.getElem?_map,hq]
    rfl
   rw [List.getElem?_set_ne ei]
  rw [this]
  refine h.o.grown hg ?_
  cases hv:v.ownBlock with
  | none=>exact Or.inl rfl
  | some x=>exact Or.inr (fun e=>h.nr m q x hq e.symm hv)
 ·
  intro i r hr
  by_cases ej:m=i
  ·
   subst ej
   rw [List.getElem?_set_self hm] at hr
   cases hr
   rw [e1,e2,e3]
   exact hw
  rw [List.getElem?_set_ne ej] at hr
  refine (h.k i r hr).grown hg ?_
  cases hx:(Value.slice r.a r.ws.length r.c).ownBlock with
  | none=>exact Or.inl rfl
  | some x =>
   refine Or.inr (fun e=>?_)
   rcases Nat.lt_or_gt_of_ne ej with hlt | hgt
   · exact h.dif m i q r x hlt hq hr e.symm hx
   exact h.dif i m r q x hgt hr hq hx e.symm
structure PcO (w:World) (B:Nat) (qs:List Pc.PcD) (v:Value):Prop where
 o:Pc.Sl w v (qs.map Pc.raw) B
 k:∀ (j:Nat) q,qs[j]?=some q→W.Sl w (.slice q.a q.ws.length q.c) q.ws B
 nr:∀ (j:Nat) q g,qs[j]?=some q→(Value.slice q.a q.ws.length q.c).ownBlock=some g→v.ownBlock≠some g
 dif:∀ (i j:Nat) q r g,i < j→qs[i]?=some q→qs[j]?=some r→(Value.slice q.a q.ws.length q.c).ownBlock=some g→(Value.slice r.a r.ws.length r.c).ownBlock≠some g
def PcO.bs (qs:List Pc.PcD) (v:Value) (g:Nat):Prop:=v.ownBlock=some g∨∃ (j:Nat) (q:Pc.PcD),qs[j]?=some q∧(Value.slice q.a q.ws.length q.c).ownBlock=some g
theorem PcO.lt {w:World} {B:Nat} {qs:List Pc.PcD} {v:Value} (h:PcO w B qs v):∀ g,PcO.bs qs v g→B≤g∧g < w.heap.size:=by
 rintro g (hg | ⟨j,q,hq,hg⟩)
 · exact h.o.lt g hg
 exact (h.k j q hq).lt g hg
theorem PcO.keep {w w':World} {B:Nat} {qs:List Pc.PcD} {v:Value} (h:PcO w B qs v) (hb:Below w.heap.size w w'):PcO w' B qs v :=
 ⟨h.o.keep hb,fun j q hq=>(h.k j q hq).keep hb,h.nr,h.dif⟩
theorem PcO.off {X:Nat→Prop} {w w':World} {B:Nat} {qs:List Pc.PcD} {v:Value} (h:PcO w B qs v) (ho:Off X w w') (hn:∀ g,PcO.bs qs v g→¬ X g):PcO w' B qs v :=
 ⟨h.o.off ho (fun g hg=>hn g (Or.inl hg)),fun j q hq=>(h.k j q hq).off ho (fun g hg=>hn g (Or.inr ⟨j,q,hq,hg⟩)),h.nr,h.dif⟩
theorem PcO.low {w:World} {B B':Nat} {qs:List Pc.PcD} {v:Value} (h:PcO w B qs v) (hB:B'≤B):PcO w B' qs v :=
 ⟨h.o.low hB,fun j q hq=>by
  rcases h.k j q hq with h | ⟨g,cap,h0,h1,h2,h3,h4⟩
  · exact Or.inl h
  exact Or.inr ⟨g,cap,h0,Nat.le_trans hB h1,h2,h3,h4⟩,h.nr,h.dif⟩
theorem PcO.nil (w:World) (B:Nat):PcO w B [] (.slice none 0 0):=⟨Or.inl ⟨rfl,rfl⟩,fun j q hq=>by simp at hq,fun j q g hq=>by simp at hq,fun i j q r g _ hq=>by simp at hq⟩
end Go.Proofs.YtcjhlhijdacinaaGreatDoor
namespace Go.Proofs.YtcjhlhijdacinaaGreatDoor
open Go.RowKit Go.Maps Go.WideMaps
set_option linter.unusedVariables false
structure LdO (w:World) (B:Nat) (gs:List G.GrantD) (qs:List P.PlaceD) (s1 s2:Value):Prop where
 g:G.Sl w s1 gs B
 p:PlO w B qs s2
 gp:∀ g,s1.ownBlock=some g→¬ PlO.bs qs s2 g
def LdO.bs (qs:List P.PlaceD) (s1 s2:Value) (g:Nat):Prop:=s1.ownBlock=some g∨PlO.bs qs s2 g
theorem LdO.keep {w w':World} {B:Nat} {gs:List G.GrantD} {qs:List P.PlaceD} {s1 s2:Value} (h:LdO w B gs qs s1 s2) (hb:Below w.heap.size w w'):LdO w' B gs qs s1 s2:=⟨h.g.keep hb,h.p.keep hb,h.gp⟩
theorem LdO.low {w:World} {B B':Nat} {gs:List G.GrantD} {qs:List P.PlaceD} {s1 s2:Value} (h:LdO w B gs qs s1 s2) (hB:B'≤B):LdO w B' gs qs s1 s2:=⟨h.g.low hB,h.p.low hB,h.gp⟩
theorem LdO.lt {w:World} {B:Nat} {gs:List G.GrantD} {qs:List P.PlaceD} {s1 s2:Value} (h:LdO w B gs qs s1 s2):∀ g,LdO.bs qs s1 s2 g→B≤g∧g < w.heap.size:=by
 rintro g (hg | hg)
 · exact h.g.lt g hg
 exact h.p.lt g hg
theorem LdO.off {X:Nat→Prop} {w w':World} {B:Nat} {gs:List G.GrantD} {qs:List P.PlaceD} {s1 s2:Value} (h:LdO w B gs qs s1 s2) (ho:Off X w w') (hn:∀ g,LdO.bs qs s1 s2 g→¬ X g):LdO w' B gs qs s1 s2 :=
 ⟨h.g.off ho (fun g hg=>hn g (Or.inl hg)),h.p.off ho (fun g hg=>hn g (Or.inr hg)),h.gp⟩
theorem LdO.nil (w:World) (B:Nat):LdO w B [] [] (.slice none 0 0) (.slice none 0 0):=⟨Or.inl ⟨rfl,rfl⟩,PlO.nil w B,fun g hg=>by cases hg⟩
theorem off_of_ex {b:Nat} {w w':World} (h:Ex b w w'):Off (fun j=>j=b) w w':=⟨h.os,h.tape,h.output,h.size,fun k hk hne=>h.block k hk hne⟩
theorem og_oq_ne {B B':Nat} {gs:List G.GrantD} {ps:List Pr.PlRaw} {w:World} {v u:Value} (h:OG B gs w v) (h':OQ B' ps w u):∀ g,v.ownBlock=some g→u.ownBlock≠some g:=by
 intro g e e'
 obtain ⟨-,⟨rfl,-⟩ | ⟨g1,cap,cur,rfl,-,h3,-⟩⟩:=h
 · cases e
 obtain ⟨-,⟨rfl,-⟩ | ⟨g2,cap',cur',rfl,-,h5,-⟩⟩:=h'
 · cases e'
 have e1:g1=g:=Option.some.inj e
 have e2:g2=g:=Option.some.inj e'
 rw [e1] at h3
 rw [e2,h3] at h5
 have e3:40=54:=by
  have:=Option.some.inj h5
  injection this
 exact absurd e3 (by decide)
theorem pt_ldo {w:World} {B Z lb:Nat} {t:Int} {gs:List G.GrantD} {qs0 qs:List P.PlaceD} {s1:Value} {a2:Option Addr} {c2:Nat} (h:Pt w B Z lb t gs qs0 qs qs0.length s1 a2 c2):LdO w B gs qs s1 (.slice a2 qs0.length c2):=by
 have hlen:=h.like.len
 have e1:qs0.length=(qs.map Pr.raw).length:=by rw [List.length_map]; exact hlen.symm
 have hp:Pr.Sl w (.slice a2 (qs.map Pr.raw).length c2) (qs.map Pr.raw) B:=Pr.Sl.of_owns (by have:=h.p; unfold OQ at this; rwa [e1] at this)
 rw [← e1] at hp
 have zl:=h.zl
 have hjl:∀ (j:Nat) q,qs[j]?=some q→j < qs0.length:=fun j q hq=>by rw [← hlen]; exact (List.getElem?_eq_some_iff.1 hq).1
 have hz:∀ (j:Nat) q g,qs[j]?=some q→(Value.slice q.a q.ws.length q.c).ownBlock=some g→Z≤g:=fun j q g hq hg=>((h.new j q (hjl j q hq) hq).lt g hg).1
 refine ⟨G.Sl.of_owns h.g,⟨hp,fun j q hq=>sl_lowW (h.new j q (hjl j q hq) hq) (by omega),fun j q g hq hg e=>?_,fun i j q r g hij hq hr hg=>h.dif i j q r hij (hjl j r hr) hq hr g hg,fun q hq=>by obtain ⟨j,hj⟩:=List.getElem?_of_mem hq; exact h.cap j q (hjl j q hj) hj⟩, ?_⟩
 ·
  have h1:=hz j q g hq hg
  have h2:=h.zp g e
  omega
 rintro g hg (e | ⟨j,q,hq,e⟩)
 · exact og_oq_ne h.g h.p g hg e
 have h1:=hz j q g hq e
 have h2:=h.zg g hg
 omega
end Go.Proofs.YtcjhlhijdacinaaGreatDoor
namespace Go.Proofs.YtcjhlhijdacinaaGreatDoor.Ord
open Go.Maps Go.WideMaps
set_option linter.unusedVariables false
section
variable {α:Type} (key:α→List UInt8)
def insS (r:α):List α→List α
 | []=>[r]
 | y :: l=>if bytesBefore (key y) (key r) then y :: insS r l else if key y=key r then r :: l else r :: y :: l
theorem insL_front (r:α):∀ l:List α,(∀ y∈l,bytesBefore (key r) (key y)=true)→insL key r l=r :: l
 | [],_=>rfl
 | y :: l,h=>by rw [insL,if_pos (h y (List.mem_cons_self ..))]
theorem ins_insS (r:α):∀ l:List α,Srt key l→ins key r l=insS key r l
 | [],_=>rfl
 | y :: l,hs=>by
  have hl:Srt key l:=(List.pairwise_cons.1 hs).2
  have hy:∀ z∈l,bytesBefore (key y) (key z)=true:=(List.pairwise_cons.1 hs).1
  have keep:∀ {m:List α},(∀ z∈m,bytesBefore (key r) (key z)=true)→m.filter (fun z=>!(key z == key r))=m:=fun {m} h=>List.filter_eq_self.2 (fun z hz=>by
   have:=before_ne (h z hz)
   simp only [Bool.not_eq_true',beq_eq_false_iff_ne]
   exact fun e=>this e.symm)
  rw [insS]
  by_cases h1:bytesBefore (key y) (key r)=true
  ·
   rw [if_pos h1]
   unfold ins
   rw [List.filter_cons,if_pos (by simp [before_ne h1]),insL,if_neg (by rw [before_asymm h1]; simp)]
   congr 1
   exact ins_insS r l hl
  rw [if_neg h1]
  by_cases h2:key y=key r
  ·
   rw [if_pos h2]
   have h3:∀ z∈l,bytesBefore (key r) (key z)=true:=fun z hz=>by rw [← h2]; exact hy z hz
   unfold ins
   rw [List.filter_cons,if_neg (by simp [h2]),keep h3,insL_front key r l h3]
  rw [if_neg h2]
  have h4:bytesBefore (key r) (key y)=true:=by
   rcases WideAt.bytes_total _ _ h2 with h | h
   · exact absurd h h1
   exact h
  have h3:∀ z∈y :: l,bytesBefore (key r) (key z)=true:=fun z hz=>by
   rcases List.mem_cons.1 hz with rfl | hz
   · exact h4
   exact WideShapes.bytes_trans _ _ _ h4 (hy z hz)
  unfold ins
  rw [keep h3,insL_front key r _ h3]
theorem insS_mem (r:α):∀ (l:List α) (q:α),q∈insS key r l→q=r∨q∈l
 | [],q,h=>by simp [insS] at h; exact Or.inl h
 | y :: l,q,h=>by
  rw [insS] at h
  split at h
  ·
   rcases List.mem_cons.1 h with rfl | h
   · exact Or.inr (List.mem_cons_self ..)
   rcases insS_mem r l q h with h | h
   · exact Or.inl h
   exact Or.inr (List.mem_cons_of_mem _ h)
  split at h
  ·
   rcases List.mem_cons.1 h with rfl | h
   · exact Or.inl rfl
   exact Or.inr (List.mem_cons_of_mem _ h)
  rcases List.mem_cons.1 h with rfl | h
  · exact Or.inl rfl
  exact Or.inr h
theorem insS_srt (r:α):∀ l:List α,Srt key l→Srt key (insS key r l)
 | [],_=>List.pairwise_singleton ..
 | y :: l,hs=>by
  have hl:Srt key l:=(List.pairwise_cons.1 hs).2
  have hy:∀ z∈l,bytesBefore (key y) (key z)=true:=(List.pairwise_cons.1 hs).1
  rw [insS]
  by_cases h1:bytesBefore (key y) (key r)=true
  ·
   rw [if_pos h1]
   refine List.pairwise_cons.2 ⟨fun z hz=>?_,insS_srt r l hl⟩
   rcases insS_mem key r l z hz with rfl | h
   · exact h1
   exact hy z h
  rw [if_neg h1]
  by_cases h2:key y=key r
  ·
   rw [if_pos h2]
   exact List.pairwise_cons.2 ⟨fun z hz=>by rw [← h2]; exact hy z hz,hl⟩
  rw [if_neg h2]
  have h4:bytesBefore (key r) (key y)=true:=by
   rcases WideAt.bytes_total _ _ h2 with h | h
   · exact absurd h h1
   exact h
  refine List.pairwise_cons.2 ⟨fun z hz=>?_,hs⟩
  rcases List.mem_cons.1 hz with rfl | hz
  · exact h4
  exact WideShapes.bytes_trans _ _ _ h4 (hy z hz)
theorem insS_len (r:α):∀ l:List α,(insS key r l).length≤l.length+1
 | []=>by simp [insS]
 | y :: l=>by
  have:=insS_len r l
  rw [insS]
  split
  · simp; omega
  split <;> simp
theorem insS_cut (r:α):∀ (l:List α) (k:Nat),k≤l.length→(∀ (j:Nat) y,j < k→l[j]?=some y→bytesBefore (key y) (key r)=true)→(∀ y,l[k]?=some y→bytesBefore (key y) (key r)=false) →
  insS key r l=l.take k++r :: (match l[k]? with | some y=>if key y=key r then l.drop (k+1) else l.drop k | none=>[])
 | [],k,hk,_,_=>by simp at hk; subst hk; rfl
 | y :: l,0,_,_,h=>by
  have h1:=h y rfl
  rw [insS,if_neg (by rw [h1]; simp)]
  simp only [List.take_zero,List.nil_append,List.getElem?_cons_zero,List.drop_zero,List.drop_succ_cons]
  split <;> rfl
 | y :: l,k+1,hk,hlt,hge=>by
  have h1:=hlt 0 y (by omega) rfl
  rw [insS,if_pos h1]
  have ih:=insS_cut r l k (by simpa using hk) (fun j z hj hz=>hlt (j+1) z (by omega) (by simpa using hz)) (fun z hz=>hge z (by simpa using hz))
  rw [ih]
  simp
end
theorem insS_map {α β:Type} (ka:α→List UInt8) (kb:β→List UInt8) (f:α→β) (hf:∀ a,kb (f a)=ka a) (r:α):∀ l:List α,insS kb (f r) (l.map f)=(insS ka r l).map f
 | []=>rfl
 | y :: l=>by
  rw [List.map_cons,insS,insS,hf,hf]
  have ih:=insS_map ka kb f hf r l
  by_cases h1:bytesBefore (ka y) (ka r)=true
  · rw [if_pos h1,if_pos h1,ih]; rfl
  rw [if_neg h1,if_neg h1]
  by_cases h2:ka y=ka r
  · rw [if_pos h2,if_pos h2]; rfl
  rw [if_neg h2,if_neg h2]; rfl
end Go.Proofs.YtcjhlhijdacinaaGreatDoor.Ord
namespace Go.Proofs.YtcjhlhijdacinaaGreatDoor
open Go.RowKit Go.Maps Go.WideMaps
set_option linter.unusedVariables false
def keyP (p:P.PlaceD):List UInt8:=p.b.data.toList
def seenOf (b:ByteArray):List P.PlaceD→Int
 | []=>0
 | p :: ps=>if p.b=b then p.s else seenOf b ps
def putP (b:ByteArray) (a:Option Addr) (c:Nat) (ws:List W.WantD) (ps:List P.PlaceD):List P.PlaceD:=Ord.insS keyP ⟨b,seenOf b ps+1,a,c,ws⟩ ps
theorem srtP {ps:List P.PlaceD} (h:P.AscN ps ps.length):Ord.Srt keyP ps :=
 Ord.srt_of keyP ps (fun j q r hq hr=>by
  have h1:=h j q r (by have:=(List.getElem?_eq_some_iff.1 hr).1; omega) hq hr
  rw [Ord.less_before,ByteArray.toList_eq,ByteArray.toList_eq] at h1
  exact h1)
theorem srtP_raw {ps:List P.PlaceD} (h:Ord.Srt keyP ps):Pr.Srt (ps.map Pr.raw):=by
 show List.Pairwise _ _
 rw [List.pairwise_map]
 exact h
theorem ins_raw {ps:List P.PlaceD} (hs:Ord.Srt keyP ps) (np:P.PlaceD):Ord.ins Pr.keyV (Pr.raw np) (ps.map Pr.raw)=(Ord.insS keyP np ps).map Pr.raw:=by
 rw [Ord.ins_insS Pr.keyV _ _ (srtP_raw hs)]
 exact Ord.insS_map keyP Pr.keyV Pr.raw (fun _=>rfl) np ps
theorem seen_of_mem {b:ByteArray} {ps:List P.PlaceD} (hs:Ord.Srt keyP ps) {p:P.PlaceD} (hp:p∈ps) (hb:p.b=b):seenOf b ps=p.s:=by
 induction ps with
 | nil=>cases hp
 | cons q ps ih =>
  rw [seenOf]
  rcases List.mem_cons.1 hp with rfl | h
  · rw [if_pos hb]
  have h1:bytesBefore (keyP q) (keyP p)=true:=(List.pairwise_cons.1 hs).1 p h
  have h2:q.b≠b:=fun e=>Ord.before_ne h1 (by unfold keyP; rw [e,hb])
  rw [if_neg h2]
  exact ih (List.pairwise_cons.1 hs).2 h
theorem seen_none {b:ByteArray}:∀ {ps:List P.PlaceD},(∀ p∈ps,p.b≠b)→seenOf b ps=0
 | [],_=>rfl
 | p :: ps,h=>by
  rw [seenOf,if_neg (h p (List.mem_cons_self ..))]
  exact seen_none (fun q hq=>h q (List.mem_cons_of_mem _ hq))
theorem seen_like {b:ByteArray}:∀ {ps qs:List P.PlaceD},P.Like ps qs→seenOf b ps=seenOf b qs
 | [],[],_=>rfl
 | [],q :: qs,h=>by have:=P.Like.len h; simp at this
 | p :: ps,[],h=>by have:=P.Like.len h; simp at this
 | p :: ps,q :: qs,h=>by
  have h0:=P.Like.at h (k:=0) rfl rfl
  have ht:P.Like ps qs:=by
   unfold P.Like at h ⊢
   simpa using (List.cons.inj h).2
  rw [seenOf,seenOf,h0.1,h0.2.1,seen_like ht]
theorem insS_like {np nq:P.PlaceD} (hn:np.says=nq.says):∀ {ps qs:List P.PlaceD},P.Like ps qs→P.Like (Ord.insS keyP np ps) (Ord.insS keyP nq qs)
 | [],[],_=>by show [np.says]=[nq.says]; rw [hn]
 | [],q :: qs,h=>by have:=P.Like.len h; simp at this
 | p :: ps,[],h=>by have:=P.Like.len h; simp at this
 | p :: ps,q :: qs,h=>by
  have h0:=P.Like.at h (k:=0) rfl rfl
  have hs:p.says=q.says:=(List.cons.inj h).1
  have ht:P.Like ps qs:=(List.cons.inj h).2
  have hk:keyP p=keyP q:=by unfold keyP; rw [h0.1]
  have hr:keyP np=keyP nq:=by
   unfold keyP
   rw [show np.b=nq.b from congrArg (·.1) hn]
  have ih:=insS_like hn ht
  rw [Ord.insS,Ord.insS,hk,hr]
  unfold P.Like at ih ht ⊢
  by_cases h1:bytesBefore (keyP q) (keyP nq)=true
  · rw [if_pos h1,if_pos h1,List.map_cons,List.map_cons,hs,ih]
  rw [if_neg h1,if_neg h1]
  by_cases h2:keyP q=keyP nq
  · rw [if_pos h2,if_pos h2,List.map_cons,List.map_cons,hn,ht]
  rw [if_neg h2,if_neg h2,List.map_cons,List.map_cons,List.map_cons,List.map_cons,hn,hs,ht]
theorem putP_like {b:ByteArray} {a a':Option Addr} {c c':Nat} {ws:List W.WantD} {ps qs:List P.PlaceD} (h:P.Like ps qs):P.Like (putP b a c ws ps) (putP b a' c' ws qs) :=
 insS_like (by show (_,_,_)=(_,_,_); rw [seen_like h]) h
def PutSay (t:Int) (gs:List G.GrantD) (ps:List P.PlaceD) (b:ByteArray) (ws:List W.WantD) (t':Int) (gs':List G.GrantD) (qs:List P.PlaceD) (code:Int):Prop :=
 (¬ P.LandSay t gs ps∧t'=0∧gs'=[]∧qs=[]∧code=1)∨(P.LandSay t gs ps∧t'=t∧gs'=gs ∧
  ((¬ (nameB b=true∧(ws.length≤10∧W.AllW ws ws.length))∧P.Like qs ps∧code=2) ∨
   ((nameB b=true∧(ws.length≤10∧W.AllW ws ws.length))∧¬ P.LandSay t gs (putP b none 0 ws ps)∧P.Like qs ps∧code=3) ∨
   ((nameB b=true∧(ws.length≤10∧W.AllW ws ws.length))∧P.LandSay t gs (putP b none 0 ws ps)∧P.Like qs (putP b none 0 ws ps)∧code=0)))
theorem put_one {t:Int} {gs:List G.GrantD} {ps ps':List P.PlaceD} {b:ByteArray} {ws:List W.WantD} {t1 t2:Int} {g1 g2:List G.GrantD} {q1 q2:List P.PlaceD} {c1 c2:Int} (hl:P.Like ps ps') (h1:PutSay t gs ps b ws t1 g1 q1 c1) (h2:PutSay t gs ps' b ws t2 g2 q2 c2):t1=t2∧g1=g2∧P.Like q1 q2∧c1=c2:=by
 have hp:P.Like (putP b none 0 ws ps) (putP b none 0 ws ps'):=putP_like hl
 rcases h1 with ⟨n1,rfl,rfl,rfl,rfl⟩ | ⟨y1,rfl,rfl,z1⟩
 ·
  rcases h2 with ⟨n2,rfl,rfl,rfl,rfl⟩ | ⟨y2,-⟩
  · exact ⟨rfl,rfl,rfl,rfl⟩
  exact (n1 ((P.like_says hl).2 y2)).elim
 rcases h2 with ⟨n2,-⟩ | ⟨y2,rfl,rfl,z2⟩
 · exact (n2 ((P.like_says hl).1 y1)).elim
 refine ⟨rfl,rfl, ?_⟩
 rcases z1 with ⟨a1,k1,rfl⟩ | ⟨a1,l1,k1,rfl⟩ | ⟨a1,l1,k1,rfl⟩ <;> rcases z2 with ⟨a2,k2,rfl⟩ | ⟨a2,l2,k2,rfl⟩ | ⟨a2,l2,k2,rfl⟩
 · exact ⟨(k1.trans hl).trans k2.symm,rfl⟩
 · exact (a1 a2).elim
 · exact (a1 a2).elim
 · exact (a2 a1).elim
 · exact ⟨(k1.trans hl).trans k2.symm,rfl⟩
 · exact (l1 ((P.like_says hp).2 l2)).elim
 · exact (a2 a1).elim
 · exact (l2 ((P.like_says hp).1 l1)).elim
 exact ⟨(k1.trans hp).trans k2.symm,rfl⟩
theorem blk_cells {y:World} {u:Nat} {C:Array Value} {t:TypeId} (h:y.heap[u]?=some (.cells C t (0,0))):∀ j v,C.toList[j]?=some v→y.cell? ((⟨u,0,none⟩:Addr).add j)=some v:=by
 intro j v hj
 rw [Addr.add_mid,Nat.zero_add]
 simp [World.cell?,h]
 simpa using hj
theorem wp_append_own_atP {P:Program} {w:World} {o:Oper} {a:Act} {K:Act→World→Prop} {Q:Exit→Act→World→Prop} (s x:Operand) (t:TypeId)
  (ho:o.op=.call { callee:=.builtin .append,args:=#[s,x],argTypes:=#[t,t] })
  (base:Nat) (e:TypeId) (i:TypeInfo) (z:Value) (size bytes:Nat) (ht:P.underlying t=some (.slice e)) (hi:P.info? e=some i) (hz:i.zero=some z)
  (hsize:i.size=size) (hby:i.bytes=bytes) (hzs:z.cells.size=size) (hsz:0 < size)
  (v:Value) (n:Nat) (xs:List Value) (hs:a.eval s=v) (hown:w.ownsRow base e size v n xs)
  (ad:Addr) (m c:Nat) (news:List Value) (hx:a.eval x=.slice (some ad) m c) (hl:news.length=m * size) (hnews:∀ j u,news[j]?=some u→w.cell? (ad.add j)=some u) (h1:∀ u∈news,u.oneCell'=true)
  (h63:n+m≤maxLen) (hbytes:(n+m) * bytes≤140737488355328) (hbase:base≤w.heap.size)
  (h:∀ v' w',w'.ownsRow base e size v' (n+m) (xs++news)→w.grownBy w' v.ownBlock→(v'.ownBlock=v.ownBlock∨v'.ownBlock=some w.heap.size)→K (a.put o.dst v') w'):o.wp P a w K Q:=by
 obtain ⟨v',w',hr,h2,h3,h4,h5⟩:=run_append_own_at (P:=P) w base t o.type e i z size bytes ht hi hz hsize hby hzs hsz v n xs hown ad m c news hl hnews h1 h63 hbytes hbase
 unfold Oper.wp execOp
 simp only [ho,resolve,invoke,builtin,Sem.run_bind,Sem.run_pure,Result.andThen_ok,List.map_toArray,List.map_cons,List.map_nil,hs,hx,hr]
 exact h v' w' h2 h3 h5
structure Iu (sl:Nat→Nat) (n sA sE:Nat) (ops:Array Oper) (a0:Act) (G:World→Nat→Value→Prop) (D:World→Prop) (A E:Value→World→Prop) (listed:Array Bool) (a:Act) (w:World):Prop where
 df:a.defers=a0.defers
 sz:a.tmps.size=a0.tmps.size
 out:∀ k,(∀ i,i < n→sl i≠k)→k≠sA→(k=sE→listed.getD (n+1) false=false)→a.tmps.getD k undef=a0.tmps.getD k undef
 lz:listed.size=n+2
 tr:∀ i j,waits .any ops i j=true→listed.getD i false=true→listed.getD j false=true
 good:∀ i,i < n→listed.getD i false=true→listed.getD n false=false→G w i (a.tmps.getD (sl i) undef)
 d:listed.getD n false=false→D w
 a1:listed.getD n false=true→listed.getD (n+1) false=false→A (a.tmps.getD sA undef) w
 e:listed.getD (n+1) false=true→E (a.tmps.getD sE undef) w
section
variable {sl:Nat→Nat} {n sA sE:Nat} {ops:Array Oper} {a0:Act} {G:World→Nat→Value→Prop} {D:World→Prop} {A E:Value→World→Prop} {listed:Array Bool} {a:Act} {w w':World} {i:Nat} {v:Value}
theorem Iu.put (h:Iu sl n sA sE ops a0 G D A E listed a w) (hr:i∈Region.ready .any ops listed) (hi:i < n) (hn:listed.getD n false=false) (hq:waits .any ops (n+1) n=true) (hlt:sl i < a0.tmps.size) (hinj:∀ j,j < n→sl j=sl i→j=i) (hg:G w' i v)
  (hk:∀ j u,j < n→G w j u→G w' j u) (hd:D w'):Iu sl n sA sE ops a0 G D A E (listed.setIfInBounds i true) (a.put (some (sl i)) v) w':=by
 have hsz:=h.sz
 have hlz:=h.lz
 have hnn:(listed.setIfInBounds i true).getD n false=false:=by rw [setT_ne (by omega)]; exact hn
 have hmm:(listed.setIfInBounds i true).getD (n+1) false=false:=by
  rw [setT_ne (by omega)]
  cases hx:listed.getD (n+1) false with
  | false=>rfl
  | true=>rw [h.tr (n+1) n hq hx] at hn; cases hn
 refine ⟨h.df,by simpa [Act.put] using hsz, ?_,by simpa using hlz,trT hr (by omega) h.tr, ?_,fun _=>hd,(fun e=>by rw [hnn] at e; cases e),(fun e=>by rw [hmm] at e; cases e)⟩
 ·
  intro k hko h1 h2
  rw [← h.out k hko h1 (fun e=>by have:=h2 e; rwa [setT_ne (by omega)] at this)]
  simp only [Act.put,Array.getD_eq_getD_getElem?]
  rw [Array.getElem?_setIfInBounds_ne (hko i hi)]
 ·
  intro j hj hl _
  by_cases e:j=i
  ·
   subst e
   simp only [Act.put,Array.getD_eq_getD_getElem?]
   rw [Array.getElem?_setIfInBounds_self_of_lt (by omega)]
   exact hg
  rw [setT_ne e] at hl
  have h1:=hk j _ hj (h.good j hj hl hn)
  simp only [Act.put,Array.getD_eq_getD_getElem?] at h1 ⊢
  rw [Array.getElem?_setIfInBounds_ne (fun e'=>e (hinj j hj e'.symm))]
  exact h1
theorem Iu.same (h:Iu sl n sA sE ops a0 G D A E listed a w) (hr:i∈Region.ready .any ops listed) (hi:i < n) (hn:listed.getD n false=false) (hq:waits .any ops (n+1) n=true) (hlt:sl i < a0.tmps.size) (hinj:∀ j,j < n→sl j=sl i→j=i) (hg:G w i v):Iu sl n sA sE ops a0 G D A E (listed.setIfInBounds i true) (a.put (some (sl i)) v) w :=
 h.put hr hi hn hq hlt hinj hg (fun _ _ _ h=>h) (h.d hn)
theorem Iu.app (h:Iu sl n sA sE ops a0 G D A E listed a w) (hr:n∈Region.ready .any ops listed) (hq:waits .any ops (n+1) n=true) (hlt:sA < a0.tmps.size) (ha:A v w'):Iu sl n sA sE ops a0 G D A E (listed.setIfInBounds n true) (a.put (some sA) v) w':=by
 have hsz:=h.sz
 have hlz:=h.lz
 have ho:=ready_open hr
 have hnn:(listed.setIfInBounds n true).getD n false=true:=setT_same (by omega)
 have hmm:(listed.setIfInBounds n true).getD (n+1) false=false:=by
  rw [setT_ne (by omega)]
  cases hx:listed.getD (n+1) false with
  | false=>rfl
  | true=>exact (openT ho (h.tr (n+1) n hq hx)).elim
 refine ⟨h.df,by simpa [Act.put] using hsz, ?_,by simpa using hlz,trT hr (by omega) h.tr,(fun j _ _ hc=>by rw [hnn] at hc; cases hc),(fun e=>by rw [hnn] at e; cases e),fun _ _=>?_,(fun e=>by rw [hmm] at e; cases e)⟩
 ·
  intro k hko h1 h2
  rw [← h.out k hko h1 (fun e=>by have:=h2 e; rwa [setT_ne (by omega)] at this)]
  simp only [Act.put,Array.getD_eq_getD_getElem?]
  rw [Array.getElem?_setIfInBounds_ne (fun e=>h1 e.symm)]
 simp only [Act.put,Array.getD_eq_getD_getElem?]
 rw [Array.getElem?_setIfInBounds_self_of_lt (by omega)]
 exact ha
theorem Iu.last (h:Iu sl n sA sE ops a0 G D A E listed a w) (hr:n+1∈Region.ready .any ops listed) (hq:waits .any ops (n+1) n=true) (hlt:sE < a0.tmps.size) (he:E v w'):Iu sl n sA sE ops a0 G D A E (listed.setIfInBounds (n+1) true) (a.put (some sE) v) w':=by
 have hsz:=h.sz
 have hlz:=h.lz
 have hn:listed.getD n false=true:=waits_of hr hq
 have hnn:(listed.setIfInBounds (n+1) true).getD n false=true:=by rw [setT_ne (by omega)]; exact hn
 have hmm:(listed.setIfInBounds (n+1) true).getD (n+1) false=true:=setT_same (by omega)
 refine ⟨h.df,by simpa [Act.put] using hsz, ?_,by simpa using hlz,trT hr (by omega) h.tr,(fun j _ _ hc=>by rw [hnn] at hc; cases hc),(fun e=>by rw [hnn] at e; cases e),(fun _ e=>by rw [hmm] at e; cases e),fun _=>?_⟩
 ·
  intro k hko h1 h2
  have h3:k≠sE:=fun e=>by have:=h2 e; rw [hmm] at this; cases this
  rw [← h.out k hko h1 (fun e=>absurd e h3)]
  simp only [Act.put,Array.getD_eq_getD_getElem?]
  rw [Array.getElem?_setIfInBounds_ne (fun e=>h3 e.symm)]
 simp only [Act.put,Array.getD_eq_getD_getElem?]
 rw [Array.getElem?_setIfInBounds_self_of_lt (by omega)]
 exact he
end
theorem reg_invU {P:Program} {ops:Array Oper} {Q:Exit→Act→World→Prop} {a0:Act} {w0:World} (sl:Nat→Nat) (n sA sE:Nat) (G:World→Nat→Value→Prop) (D:World→Prop) (A E:Value→World→Prop)
  (hd:depsOk ops=true) (hops:ops.size=n+2) (hD:D w0)
  (done:∀ a y,a.defers=a0.defers→a.tmps.size=a0.tmps.size→(∀ k,(∀ i,i < n→sl i≠k)→k≠sA→k≠sE→a.tmps.getD k undef=a0.tmps.getD k undef)→E (a.tmps.getD sE undef) y→Q .normal a y)
  (step:∀ listed x y i,Iu sl n sA sE ops a0 G D A E listed x y→i∈Region.ready .any ops listed→i < n+2→wpOp P ops Q i (Iu sl n sA sE ops a0 G D A E (listed.setIfInBounds i true)) x y) :
  wpAny P .any ops Q ops.size (Array.replicate ops.size false) a0 w0:=by
 have hrep:openOf (Array.replicate ops.size false)≤ops.size:=by
  unfold openOf
  exact Nat.le_trans List.countP_le_length (by simp)
 have hno:∀ k j,(Array.replicate k false).getD j false=false:=fun k j=>by
  simp only [Array.getD_eq_getD_getElem?,Array.getElem?_replicate]
  split <;> rfl
 refine wpAny_inv (Iu sl n sA sE ops a0 G D A E) (fun listed x y i hI hi=>step listed x y i hI hi (by have:=List.mem_range.1 (List.mem_filter.1 hi).1; omega)) ?_ _ _ _ _ hrep ?_
 ·
  intro listed x y hI hr
  have hall:=all_listed hd hr (by rw [hI.lz,hops])
  exact done x y hI.df hI.sz (fun k h1 h2 h3=>hI.out k h1 h2 (fun e=>absurd e h3)) (hI.e (hall (n+1) (by omega)))
 · exact ⟨rfl,rfl,fun _ _ _ _=>rfl,by simp [hops],(fun i j _ h=>by rw [hno] at h; cases h),(fun i _ h=>by rw [hno] at h; cases h),(fun _=>hD),(fun h=>by rw [hno] at h; cases h),(fun h=>by rw [hno] at h; cases h)⟩
end Go.Proofs.YtcjhlhijdacinaaGreatDoor
