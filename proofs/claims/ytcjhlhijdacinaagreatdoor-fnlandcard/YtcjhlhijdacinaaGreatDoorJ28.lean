import Derived.Test.YtcjhlhijdacinaaGreatDoorJ27
import Derived.Test.YtcjhlhijdacinaaGreatDoorJ21
namespace Go.Proofs.YtcjhlhijdacinaaGreatDoor
open Go.RowKit
set_option linter.unusedVariables false
structure Fz (gs:List G.GrantD) (qs:List P.PlaceD):Prop extends P.Fit gs qs where
 n:qs.length≤100
 k:∀ q∈qs,q.ws.length≤10
theorem Fz.like {gs:List G.GrantD} {qs ps:List P.PlaceD} (h:Fz gs ps) (k:P.Like qs ps):Fz gs qs:=by
 refine ⟨h.toFit.like k,by rw [k.len]; exact h.n,fun q hq=>?_⟩
 obtain ⟨j,hj⟩:=List.getElem?_of_mem hq
 obtain ⟨p,hp,-,-,e⟩:=k.get hj
 rw [e]
 exact h.k p (List.mem_of_getElem? hp)
structure LdB (w:World) (B:Nat) (gs:List G.GrantD) (qs:List P.PlaceD) (s1 s2:Value):Prop where
 g:G.Sl w s1 gs B
 o:Pr.Sl w s2 (qs.map Pr.raw) B
 k:∀ q∈qs,W.Sl w (.slice q.a q.ws.length q.c) q.ws B
 c:Cps qs
section
variable {B lb b2 kr:Nat} {t:Int} {gs:List G.GrantD} {qs:List P.PlaceD} {s1 s2:Value} {y y' w:World}
theorem LdO.b (h:LdO y B gs qs s1 s2):LdB y B gs qs s1 s2:=⟨h.g,h.p.o,fun q hq=>by obtain ⟨j,hj⟩:=List.getElem?_of_mem hq; exact h.p.k j q hj,h.p.c⟩
theorem LdB.lt (h:LdB y B gs qs s1 s2):∀ g,LdO.bs qs s1 s2 g→B≤g:=by
 rintro g (hg | hg | ⟨j,q,hq,hg⟩)
 · exact (h.g.lt g hg).1
 · exact (h.o.lt g hg).1
 exact ((h.k q (List.mem_of_getElem? hq)).lt g hg).1
theorem LdB.off {X:Nat→Prop} (h:LdB y B gs qs s1 s2) (ho:Off X y y') (hX:∀ g,LdO.bs qs s1 s2 g→¬ X g):LdB y' B gs qs s1 s2 :=
 ⟨h.g.off ho (fun g hg=>hX g (Or.inl hg)),h.o.off ho (fun g hg=>hX g (Or.inr (Or.inl hg))),fun q hq=>(h.k q hq).off ho (fun g hg=>by obtain ⟨j,hj⟩:=List.getElem?_of_mem hq; exact hX g (Or.inr (Or.inr ⟨j,q,hj,hg⟩))),h.c⟩
theorem LdB.ex {X:Nat} (h:LdB y B gs qs s1 s2) (he:Ex X y y') (hX:X < B):LdB y' B gs qs s1 s2:=h.off (off_of_ex he) (fun g hg e=>by have:=h.lt g hg; omega)
theorem LdB.low {B':Nat} (h:LdB y B gs qs s1 s2) (hB:B'≤B):LdB y B' gs qs s1 s2:=⟨h.g.low hB,h.o.low hB,fun q hq=>by
  rcases h.k q hq with h | ⟨g,cap,h0,h1,h2,h3,h4⟩
  · exact Or.inl h
  exact Or.inr ⟨g,cap,h0,Nat.le_trans hB h1,h2,h3,h4⟩,h.c⟩
theorem LdB.z {a1 a2:Option Addr} {n1 n2 c1 c2:Nat} (h:LdB y B gs qs (.slice a1 n1 c1) (.slice a2 n2 c2)):P.LandZ y gs qs a1 a2 c1:=by
 refine ⟨?_, ?_,fun r hr=>(h.k r hr).src,h.c⟩
 ·
  rcases h.g with ⟨h1,h2⟩ | ⟨g,cap,h0,h1,h2,h3,h4⟩
  · cases h1; exact Or.inl ⟨rfl,rfl,h2⟩
  cases h0; exact Or.inr ⟨g,rfl,h2,h3⟩
 rcases h.o with ⟨h1,h2⟩ | ⟨g,cap,h0,h1,h2,h3,h4⟩
 · exact Or.inl (List.map_eq_nil_iff.1 h2)
 cases h0; exact Or.inr ⟨g,rfl,h2,rows_raw h3⟩
theorem LdO.putG {g n c i j:Nat} {r r':G.GrantD} {v:Value} (h:LdO y B gs qs (.slice (some ⟨g,0,none⟩) n c) s2) (hO:OG B gs y (.slice (some ⟨g,0,none⟩) n c)) (hr:gs[i]?=some r) (hc:r'.cells=r.cells.set j v) (hj:j < 5):LdB (y.setCell ⟨g,i * 5+j,none⟩ v) B (gs.set i r') qs (.slice (some ⟨g,0,none⟩) n c) s2:=by
 have hp:=h.p.off (off_of_ex ((Ex.refl g y).set (i * 5+j) v)) (fun k hk e=>by subst e; exact h.gp _ rfl hk)
 exact (⟨G.Sl.of_owns (OG.put hO hr hc hj),hp,h.gp⟩:LdO _ B (gs.set i r') qs _ s2).b
theorem LdO.putP {g n c m j:Nat} {q q':P.PlaceD} {v:Value} (h:LdO y B gs qs s1 (.slice (some ⟨g,0,none⟩) n c)) (hq:qs[m]?=some q) (hj:j < 3) (hc:(Pr.raw q').cells=(Pr.raw q).cells.set j v) (hw:∃ (i:Nat) (r:P.PlaceD),qs[i]?=some r∧q'.a=r.a∧q'.ws=r.ws∧q'.c=r.c):LdB (y.setCell ⟨g,m * 3+j,none⟩ v) B gs (qs.set m q') s1 (.slice (some ⟨g,0,none⟩) n c):=by
 have ho:Off _ y (y.setCell ⟨g,m * 3+j,none⟩ v):=off_of_ex ((Ex.refl g y).set (m * 3+j) v)
 have hk:∀ (i:Nat) (r:P.PlaceD),qs[i]?=some r→W.Sl (y.setCell ⟨g,m * 3+j,none⟩ v) (.slice r.a r.ws.length r.c) r.ws B:=fun i r hr=>(h.p.k i r hr).off ho (fun k hk e=>h.p.nr i r k hr hk (by rw [e]; rfl))
 obtain ⟨i,r,hr,e1,e2,e3⟩:=hw
 refine ⟨h.g.off ho (fun k hs e=>by subst e; exact h.gp _ hs (Or.inl rfl)),by rw [List.map_set]; exact h.p.o.setc (by rw [List.getElem?_map,hq]; rfl) hj hc,fun x hx=>?_,fun x hx=>?_⟩
 ·
  rcases List.mem_or_eq_of_mem_set hx with hx | rfl
  · obtain ⟨i,hi⟩:=List.getElem?_of_mem hx; exact hk i x hi
  rw [e1,e2,e3]; exact hk i r hr
 rcases List.mem_or_eq_of_mem_set hx with hx | rfl
 · exact h.p.c x hx
 rw [e2,e3]; exact h.p.c r (List.mem_of_getElem? hr)
theorem W.Sl.putR {g n c:Nat} {r r0:W.WantD} {rs:List W.WantD} (h:W.Sl y (.slice (some ⟨g,0,none⟩) n c) (r0 :: rs) B):W.Sl (y.setCells g 0 r.cells) (.slice (some ⟨g,0,none⟩) n c) (r :: rs) B:=by
 rcases h with ⟨-,e⟩ | ⟨g',cap,e,h1,h2,h3,h4⟩
 · cases e
 cases e
 have hth:y.there g 0 7:=fun j hj=>h4 j (by simp only [List.length_cons]; omega)
 refine Or.inr ⟨g,c,rfl,h1,Nat.lt_of_lt_of_le h2 ((Ex.refl g y).cells r.cells 0).size,fun k x hk=>?_,World.there_setCells h4 _ _ _⟩
 match k,hk with
 | 0,hk=>cases hk; exact World.rangeAt_setCells_same y g 0 r.cells hth
 | k+1,hk=>exact World.rangeAt_setCells_apart (h3 (k+1) x hk) g 0 r.cells (Or.inr (Or.inr (by show 0+7≤0+(k+1) * 7; omega)))
theorem LdO.putW {g m:Nat} {q:P.PlaceD} {r r0:W.WantD} {rs:List W.WantD} (h:LdO y B gs qs s1 s2) (hq:qs[m]?=some q) (ha:q.a=some ⟨g,0,none⟩) (hw:q.ws=r0 :: rs):LdB (y.setCells g 0 r.cells) B gs (qs.set m ⟨q.b,q.s,q.a,q.c,r :: rs⟩) s1 s2:=by
 have he:Ex g y (y.setCells g 0 r.cells):=(Ex.refl _ _).cells _ _
 have hs:=h.p.k m q hq
 have hb:(Value.slice q.a q.ws.length q.c).ownBlock=some g:=by rw [ha]; rfl
 have hp:=h.p.wants (q':=⟨q.b,q.s,q.a,q.c,r :: rs⟩) (w':=y.setCells g 0 r.cells) hq rfl (by rw [hw]; rfl) rfl (by unfold Pr.raw; rw [hw]; rfl) (by rw [ha,hw] at hs ⊢; exact hs.putR) (by rw [hb]; exact W.ex_grown he)
 exact ⟨h.g.off (off_of_ex he) (fun k hk e=>by subst e; exact h.gp _ hk (Or.inr ⟨m,q,hq,hb⟩)),hp.o,fun x hx=>by obtain ⟨j,hj⟩:=List.getElem?_of_mem hx; exact hp.k j x hj,hp.c⟩
theorem LdO.appP {v:Value} {q:P.PlaceD} (h:LdO y B gs qs s1 s2) (ho:OQ B ((qs++[q]).map Pr.raw) y' v) (hg:y.grownBy y' s2.ownBlock) (hw:W.Sl y (.slice q.a q.ws.length q.c) q.ws B) (hn:(Value.slice q.a q.ws.length q.c).ownBlock=none∨(Value.slice q.a q.ws.length q.c).ownBlock≠s2.ownBlock) (hc:q.ws.length≤q.c):LdB y' B gs (qs++[q]) s1 v:=by
 refine ⟨h.g.grown hg ?_,Pr.Sl.of_owns ho,fun x hx=>?_,cps_app h.p.c hc⟩
 ·
  cases hv:s1.ownBlock with
  | none=>exact Or.inl rfl
  | some g=>exact Or.inr (fun e=>h.gp g hv (Or.inl e.symm))
 rcases List.mem_append.1 hx with hx | hx
 ·
  obtain ⟨i,hi⟩:=List.getElem?_of_mem hx
  refine (h.p.k i x hi).grown hg ?_
  cases hv:(Value.slice x.a x.ws.length x.c).ownBlock with
  | none=>exact Or.inl rfl
  | some g=>exact Or.inr (fun e=>h.p.nr i x g hi hv e.symm)
 rw [List.mem_singleton.1 hx]; exact hw.grown hg hn
structure Bkz (lb B:Nat) (t:Int) (gs:List G.GrantD) (qs:List P.PlaceD) (s1 s2:Value) (y:World):Prop where
 c:y.rangeAt lb 0 [.int .i64 t,s1,s2]
 f:y.there lb 0 3
 l:LdO y B gs qs s1 s2
 n:∀ g,LdO.bs qs s1 s2 g→g≠lb
theorem Bkz.ex {X:Nat} (h:Bkz lb B t gs qs s1 s2 y) (he:Ex X y y') (hX:X < B) (hne:lb≠X):Bkz lb B t gs qs s1 s2 y' :=
 ⟨range_off h.c (off_of_ex he) (there_lt h.f) hne,there_off h.f (off_of_ex he) (there_lt h.f) hne,h.l.off (off_of_ex he) (fun g hg e=>by have:=(h.l.lt g hg).1; omega),h.n⟩
theorem Bkz.cs (h:Bkz lb B t gs qs s1 s2 y):y.cell? ⟨lb,0,none⟩=some (.int .i64 t)∧y.cell? ⟨lb,1,none⟩=some s1∧y.cell? ⟨lb,2,none⟩=some s2 :=
 ⟨h.c 0 _ rfl,by simpa using h.c 1 _ rfl,by simpa using h.c 2 _ rfl⟩
theorem OG.ex {X:Nat} {v:Value} (h:OG B gs y v) (he:Ex X y y') (hX:∀ g,v.ownBlock=some g→g≠X):OG B gs y' v:=by
 refine OG.grown h (W.ex_grown he) ?_
 cases hv:v.ownBlock with
 | none=>exact Or.inl rfl
 | some g=>exact Or.inr (fun e=>hX g hv (Option.some.inj e))
theorem OQ.ex {X:Nat} {v:Value} {ps:List Pr.PlRaw} (h:OQ B ps y v) (he:Ex X y y') (hX:∀ g,v.ownBlock=some g→g≠X):OQ B ps y' v:=by
 refine OQ.grown h (W.ex_grown he) ?_
 cases hv:v.ownBlock with
 | none=>exact Or.inl rfl
 | some g=>exact Or.inr (fun e=>hX g hv (Option.some.inj e))
structure FeX (lb b2 B:Nat) (t:Int) (gs:List G.GrantD) (qs:List P.PlaceD) (s1 s2:Value) (y:World):Prop where
 c:y.rangeAt lb 0 [.int .i64 t,s1,s2]
 z:lb < y.heap.size
 b:y.there b2 0 3
 l:LdB y B gs qs s1 s2
 f:Fz gs qs
def Fe (lb b2 B:Nat) (y:World):Prop:=∃ t gs qs s1 s2,FeX lb b2 B t gs qs s1 s2 y
theorem Fe.ex (h:Fe lb b2 B y) (he:Ex kr y y') (h1:kr < B) (h2:lb≠kr) (h3:b2≠kr):Fe lb b2 B y':=by
 obtain ⟨t,gs,qs,s1,s2,a,b,c,d,e⟩:=h
 exact ⟨t,gs,qs,s1,s2,range_off a (off_of_ex he) b h2,Nat.lt_of_lt_of_le b he.size,there_off c (off_of_ex he) (there_lt c) h3,d.ex he h1,e⟩
theorem FeX.fin {q:Int} (h:FeX lb b2 B t gs qs s1 s2 y) (hb:b2 < B) (hr:Rq y kr q) (he:Ex kr w y) (hw:w.heap.size≤b2) (hk:kr < w.heap.size):((y.setCells b2 0 [.int .i64 t,s1,s2]).cell? ⟨b2,0,none⟩=some (.int .i64 t)∧(y.setCells b2 0 [.int .i64 t,s1,s2]).cell? ⟨b2,1,none⟩=some s1∧(y.setCells b2 0 [.int .i64 t,s1,s2]).cell? ⟨b2,2,none⟩=some s2)∧LdB (y.setCells b2 0 [.int .i64 t,s1,s2]) w.heap.size gs qs s1 s2∧Rq (y.setCells b2 0 [.int .i64 t,s1,s2]) kr q∧Ex kr w (y.setCells b2 0 [.int .i64 t,s1,s2]):=by
 have hx:Ex b2 y (y.setCells b2 0 [.int .i64 t,s1,s2]):=(Ex.refl _ _).cells _ _
 have RG:=World.rangeAt_setCells_same y b2 0 [.int .i64 t,s1,s2] h.b
 exact ⟨⟨RG 0 _ rfl,by simpa using RG 1 _ rfl,by simpa using RG 2 _ rfl⟩,(h.l.ex hx hb).low (by omega),hr.grown (W.ex_grown hx) (fun k e=>by cases e; omega),Ex.other he hx hw⟩
end
structure Dv (kr:Nat) (q:Int) (w W:World) (iS:Nat) (c:Nat) (S:Nat→Bool) (y:World):Prop where
 r:Rq y kr (q+200 * c)
 e:Ex kr w y
 s:W.heap.size≤y.heap.size
 o:S iS=false→Ex kr W y
section
variable {kr:Nat} {q:Int} {w W:World} {iS c i:Nat} {S:Nat→Bool} {y y':World}
theorem Dv.up (h:Dv kr q w W iS c S y):Dv kr q w W iS (c+1) (sset S i) y:=⟨h.r.up (by omega),h.e,h.s,fun e=>h.o (sset_no e)⟩
theorem Dv.nx {ops:Array Oper} (i:Nat):Nx kr q ops (Dv kr q w W iS) i :=
 ⟨fun c S y _ h=>h.r,fun c S y y' m _ h hr hm he=>⟨hr.up (by omega),h.e.trans he,Nat.le_trans h.s he.size,fun e=>(h.o (sset_no e)).trans he⟩⟩
end
def Fv (kr Z iS i:Nat) (y y':World):Prop:=if i=iS then Fa Z y y' else Ex kr y y'
theorem Fv.fa {kr Z iS i:Nat} {y y':World} (h:Fv kr Z iS i y y') (hk:kr < Z):Fa Z y y':=by
 unfold Fv at h
 split at h
 · exact h
 exact Fa.ex h hk
theorem Fv.ex {kr Z iS i:Nat} {y y':World} (h:Fv kr Z iS i y y') (hi:i≠iS):Ex kr y y':=by unfold Fv at h; rwa [if_neg hi] at h
section
variable {kr lb b2 B iA iS i c:Nat} {q t:Int} {w V0:World} {S:Nat→Bool} {gs:List G.GrantD} {qs:List P.PlaceD} {s1 s2 v:Value} {y y':World}
def Ap (lb B:Nat) (gs:List G.GrantD) (qs:List P.PlaceD) (s2:Value) (y:World) (v:Value):Prop:=∃ g,Sg g∧LdO y B (gs++[g]) qs v s2∧OG B (gs++[g]) y v∧∀ k,LdO.bs qs v s2 k→k≠lb
theorem Ap.ex {X:Nat} (h:Ap lb B gs qs s2 y v) (he:Ex X y y') (hX:X=lb∨X < B):Ap lb B gs qs s2 y' v:=by
 obtain ⟨g,h1,h2,h3,h4⟩:=h
 have hn:∀ k,LdO.bs qs v s2 k→k≠X:=fun k hk e=>by
  rcases hX with hX | hX
  · exact h4 k hk (e.trans hX)
  have:=(h2.lt k hk).1; omega
 exact ⟨g,h1,h2.off (off_of_ex he) (fun k hk e=>hn k hk e),OG.ex h3 he (fun k hk=>hn k (Or.inl hk)),h4⟩
theorem fd_ex {row:Option Nat} (hf:Fd kr lb iA iS row i y y') (hi:i≠iA) (hkB:kr < B):∃ X,Ex X y y'∧(X=lb∨X < B):=by
 unfold Fd at hf
 rw [if_neg hi] at hf
 split at hf
 ·
  obtain ⟨j,u,rfl⟩:=hf
  exact ⟨lb,(Ex.refl lb y).set _ _,Or.inl rfl⟩
 exact ⟨kr,hf,Or.inr hkB⟩
theorem Ap.fd {row:Option Nat} (h:Ap lb B gs qs s2 y v) (hf:Fd kr lb iA iS row i y y') (hi:i≠iA) (hkB:kr < B):Ap lb B gs qs s2 y' v:=by
 obtain ⟨X,he,hX⟩:=fd_ex hf hi hkB
 exact h.ex he hX
theorem daGrow {row:Option Nat} (hz:kr < w.heap.size∧w.heap.size≤b2∧b2 < lb∧lb < V0.heap.size) (dd:Da kr q w V0 b2 lb t s1 s2 iA iS c S y) (g9:y.grownBy y' row) (hrow:∀ k,row=some k→B≤k∧k≠lb) (hkB:kr < B) (hbB:b2 < B) (hwB:w.heap.size≤B):Da kr q w V0 b2 lb t s1 s2 iA iS (c+1) (sset S iA) y'∧Fd kr lb iA iS row iA y y':=by
 obtain ⟨z1,z2,z3,z4⟩:=hz
 have hs:=dd.s
 have hof:Off (fun j=>row=some j) y y':=Off.of_grown g9 (fun j e=>e)
 refine ⟨⟨(dd.r.grown g9 (fun k e=>by have:=hrow k e; omega)).up (by omega),dd.e.grown g9 (fun k e=>by have:=hrow k e; omega),there_off dd.b hof (by omega) (fun e=>by have:=hrow _ e; omega),Nat.le_trans hs g9.size,(fun e=>by simp [sset] at e),fun e=>?_⟩, ?_⟩
 ·
  obtain ⟨h1,h2⟩:=dd.l (sset_no e)
  exact ⟨range_off h1 hof (by omega) (fun e=>(hrow _ e).2 rfl),there_off h2 hof (by omega) (fun e=>(hrow _ e).2 rfl)⟩
 unfold Fd
 rw [if_pos rfl]
 exact g9
theorem apEnd {g1:G.GrantD} (hz:kr < w.heap.size∧w.heap.size≤b2∧b2 < lb∧lb < V0.heap.size) (dd:Da kr q w V0 b2 lb t s1 s2 iA iS c S y) (hY:Bkz lb B t gs qs s1 s2 y) (hs1:Sg g1) (o1:OG B (gs++[g1]) y' v) (g9:y.grownBy y' s1.ownBlock) (hat:v.ownBlock=s1.ownBlock∨∃ k,v.ownBlock=some k∧y.heap.size≤k) (hkB:kr < B) (hbB:b2 < B) (hwB:w.heap.size≤B):Ap lb B gs qs s2 y' v∧Da kr q w V0 b2 lb t s1 s2 iA iS (c+1) (sset S iA) y'∧Fd kr lb iA iS s1.ownBlock iA y y':=by
 refine ⟨⟨g1,hs1,hY.l.appG o1 g9 hat,o1, ?_⟩,daGrow hz dd g9 (fun k e=>⟨(hY.l.g.lt k e).1,hY.n k (Or.inl e)⟩) hkB hbB hwB⟩
 rintro k (hk | hk)
 ·
  rcases hat with hat | ⟨k',hk',hlt⟩
  · exact hY.n k (Or.inl (hat.symm.trans hk))
  have h1:=there_lt hY.f
  rw [hk] at hk'
  have:=Option.some.inj hk'
  omega
 exact hY.n k (Or.inr hk)
theorem daSet {j:Nat} (hz:kr < w.heap.size∧w.heap.size≤b2∧b2 < lb∧lb < V0.heap.size) (dd:Da kr q w V0 b2 lb t s1 s2 iA iS c S y) (h25:S iA=true) (hne:iS≠iA):Da kr q w V0 b2 lb t s1 s2 iA iS (c+1) (sset S iS) (y.setCell ⟨lb,j,none⟩ v)∧Fd kr lb iA iS s1.ownBlock iS y (y.setCell ⟨lb,j,none⟩ v)∧Fd kr lb iA iS s2.ownBlock iS y (y.setCell ⟨lb,j,none⟩ v):=by
 obtain ⟨z1,z2,z3,z4⟩:=hz
 have he:Ex lb y (y.setCell ⟨lb,j,none⟩ v):=(Ex.refl _ _).set _ _
 have hs:=dd.s
 refine ⟨⟨(dd.r.grown (W.ex_grown he) (fun k e=>by cases e; omega)).up (by omega),Ex.other dd.e he (by omega),there_ex dd.b (by omega) he (by omega),Nat.le_trans hs he.size,(fun e=>by have:=sset_no e; rw [h25] at this; cases this),fun e=>by simp [sset] at e⟩, ?_, ?_⟩ <;>
 ·
  unfold Fd
  rw [if_neg hne,if_pos rfl]
  exact ⟨j,_,rfl⟩
theorem daStart (hr:Rq y kr q) (he:Ex kr w y) (hb:y.there b2 0 3) (hY:Bkz lb B t gs qs s1 s2 y):Da kr q w y b2 lb t s1 s2 iA iS 0 (fun _=>false) y.drew:=by
 have hd:Below y.heap.size y y.drew:=bl_drew bR
 exact ⟨(hr.below hd).up (by omega),he.trans (Ex.of_below hd),there_keep2 hb (there_lt hb) hd,hd.size,fun _=>Ex.of_below hd,fun _=>⟨range_off hY.c (Off.of_below (P:=fun _=>False) hd) (there_lt hY.f) id,there_keep2 hY.f (there_lt hY.f) hd⟩⟩
theorem asEnd (hz:kr < w.heap.size∧w.heap.size≤b2∧b2 < lb∧lb < V0.heap.size) (dd:Da kr q w V0 b2 lb t s1 s2 iA iS c S y) (hA:Ap lb B gs qs s2 y v) (k9:y.rangeAt lb 0 [.int .i64 t,s1,s2]) (f9:y.there lb 0 3) (h25:S iA=true) (hne:iS≠iA):(∃ v',Ap lb B gs qs s2 (y.setCell ⟨lb,1,none⟩ v) v'∧(y.setCell ⟨lb,1,none⟩ v).rangeAt lb 0 [.int .i64 t,v',s2]∧(y.setCell ⟨lb,1,none⟩ v).there lb 0 3)∧Da kr q w V0 b2 lb t s1 s2 iA iS (c+1) (sset S iS) (y.setCell ⟨lb,1,none⟩ v)∧Fd kr lb iA iS s1.ownBlock iS y (y.setCell ⟨lb,1,none⟩ v) :=
 ⟨⟨v,hA.ex ((Ex.refl lb y).set _ _) (Or.inl rfl),range_set1 k9,World.there_setCells f9 lb 1 [v]⟩,(daSet hz dd h25 hne).1,(daSet hz dd h25 hne).2.1⟩
def Sq (p:P.PlaceD):Prop:=p.b.size≤4∧p.ws.length≤4∧∀ x∈p.ws,x.fits
def Aq (lb B:Nat) (gs:List G.GrantD) (qs:List P.PlaceD) (s1:Value) (y:World) (v:Value):Prop:=∃ p,Sq p∧LdB y B gs (qs++[p]) s1 v∧∀ k,LdO.bs (qs++[p]) s1 v k→k≠lb
theorem Aq.ex {X:Nat} (h:Aq lb B gs qs s1 y v) (he:Ex X y y') (hX:X=lb∨X < B):Aq lb B gs qs s1 y' v:=by
 obtain ⟨p,h1,h2,h4⟩:=h
 refine ⟨p,h1,h2.off (off_of_ex he) (fun k hk e=>?_),h4⟩
 rcases hX with hX | hX
 · exact h4 k hk (e.trans hX)
 have:=h2.lt k hk; omega
theorem fit_appP {p:P.PlaceD} (h:Fz gs qs) (hp:Sq p) (hl:qs.length≤50):Fz gs (qs++[p]):=by
 obtain ⟨h1,h2,h3⟩:=hp
 refine ⟨⟨h.g,fun x hx=>?_,h.gl,by simp; omega,fun x hx=>?_⟩,by simp; omega,fun x hx=>?_⟩
 ·
  rcases List.mem_append.1 hx with hx | hx
  · exact h.p x hx
  rw [List.mem_singleton.1 hx]; exact ⟨by unfold maxLen; omega,h3⟩
 ·
  rcases List.mem_append.1 hx with hx | hx
  · exact h.ln x hx
  rw [List.mem_singleton.1 hx]; omega
 rcases List.mem_append.1 hx with hx | hx
 · exact h.k x hx
 rw [List.mem_singleton.1 hx]; omega
theorem range_set2 {a b c:Value} (h:y.rangeAt lb 0 [a,b,c]):(y.setCell ⟨lb,2,none⟩ v).rangeAt lb 0 [a,b,v]:=by
 intro j u hj
 have d0:=h 0 _ rfl
 have d1:=h 1 _ rfl
 have d2:=h 2 _ rfl
 simp only [Nat.zero_add] at d0 d1 d2 ⊢
 match j,hj with
 | 0,hj=>cases hj; rw [World.cell?_setCell_other _ _ _ _ (fun h'=>by have:=congrArg Addr.off h'; simp at this)]; exact d0
 | 1,hj=>cases hj; rw [World.cell?_setCell_other _ _ _ _ (fun h'=>by have:=congrArg Addr.off h'; simp at this)]; exact d1
 | 2,hj=>cases hj; exact World.cell?_setCell_same _ _ _ d2
 | j+3,hj=>simp at hj
theorem aqEnd (hz:kr < w.heap.size∧w.heap.size≤b2∧b2 < lb∧lb < V0.heap.size) (dd:Da kr q w V0 b2 lb t s1 s2 iA iS c S y) (hA:Aq lb B gs qs s1 y v) (k9:y.rangeAt lb 0 [.int .i64 t,s1,s2]) (f9:y.there lb 0 3) (h25:S iA=true) (hne:iS≠iA) (hF:Fz gs qs) (hl:qs.length≤50):Fe lb b2 B (y.setCell ⟨lb,2,none⟩ v)∧Da kr q w V0 b2 lb t s1 s2 iA iS (c+1) (sset S iS) (y.setCell ⟨lb,2,none⟩ v)∧Fd kr lb iA iS s2.ownBlock iS y (y.setCell ⟨lb,2,none⟩ v):=by
 have hd:=daSet (j:=2) (v:=v) hz dd h25 hne
 have he:Ex lb y (y.setCell ⟨lb,2,none⟩ v):=(Ex.refl lb y).set _ _
 obtain ⟨p,h1,h2,-⟩:=hA.ex he (Or.inl rfl)
 exact ⟨⟨t,gs,qs++[p],s1,v,range_set2 k9,Nat.lt_of_lt_of_le (there_lt f9) he.size,hd.1.b,h2,fit_appP hF h1 hl⟩,hd.1,hd.2.2⟩
def Q1 (Z:Nat) (y:World) (v:Value):Prop:=∃ b p,v=.slice (some ⟨b,0,none⟩) 1 1∧Z≤b∧y.heap[b]?=some (.cells (arrPl p) 54 (0,0))∧Sq p∧W.Ow y (.slice p.a p.ws.length p.c) p.ws Z
theorem Q1.keep {Z:Nat} (h:Q1 Z y v) (hF:Fa Z y y'):Q1 Z y' v:=by
 obtain ⟨b,g,h1,h2,h3,h4,h5⟩:=h
 exact ⟨b,g,h1,h2,(hF.block b (some_lt h3) (by omega)).trans h3,h4,h5.fb (T:=26) (by decide) (Or.inl hF)⟩
theorem appQ {p:P.PlaceD} {Z:Nat} (hz:kr < w.heap.size∧w.heap.size≤b2∧b2 < lb∧lb < V0.heap.size) (dd:Da kr q w V0 b2 lb t s1 s2 iA iS c S y) (hY:Bkz lb B t gs qs s1 s2 y) (hs1:Sq p) (hw:W.Ow y (.slice p.a p.ws.length p.c) p.ws Z) (o1:OQ B (qs.map Pr.raw++[Pr.raw p]) y' v) (g9:y.grownBy y' s2.ownBlock) (hat:v.ownBlock=s2.ownBlock∨v.ownBlock=some y.heap.size) (hZ:lb < Z∧B≤Z∧∀ k,s2.ownBlock=some k→k < Z) (hkB:kr < B) (hbB:b2 < B) (hwB:w.heap.size≤B):Aq lb B gs qs s1 y' v∧Da kr q w V0 b2 lb t s1 s2 iA iS (c+1) (sset S iA) y'∧Fd kr lb iA iS s2.ownBlock iA y y':=by
 obtain ⟨hz1,hz2,hz3⟩:=hZ
 have hbk:∀ k,(Value.slice p.a p.ws.length p.c).ownBlock=some k→Z≤k:=fun k hk=>(W.Ow.lt hw k hk).1
 have e:qs.map Pr.raw++[Pr.raw p]=(qs++[p]).map Pr.raw:=by simp
 rw [e] at o1
 refine ⟨⟨p,hs1,hY.l.appP o1 g9 (W.Ow.sl (W.Ow.low hw hz2)) ?_ (cap_owns hw _ _ _ rfl), ?_⟩,daGrow hz dd g9 (fun k e=>⟨(hY.l.p.o.lt k e).1,hY.n k (Or.inr (Or.inl e))⟩) hkB hbB hwB⟩
 ·
  cases hv:(Value.slice p.a p.ws.length p.c).ownBlock with
  | none=>exact Or.inl rfl
  | some g=>exact Or.inr (fun e=>by have h1:=hbk g hv; have h2:=hz3 g e.symm; omega)
 rintro k (hk | hk | ⟨j,x,hx,hk⟩)
 · exact hY.n k (Or.inl hk)
 ·
  rcases hat with hat | hat
  · exact hY.n k (Or.inr (Or.inl (hat.symm.trans hk)))
  have h1:=there_lt hY.f
  rw [hk] at hat
  have:=Option.some.inj hat
  omega
 rcases List.mem_append.1 (List.mem_of_getElem? hx) with hm | hm
 ·
  obtain ⟨i,hi⟩:=List.getElem?_of_mem hm
  exact hY.n k (Or.inr (Or.inr ⟨i,x,hi,hk⟩))
 rw [List.mem_singleton.1 hm] at hk
 have:=hbk k hk
 omega
end
end Go.Proofs.YtcjhlhijdacinaaGreatDoor
