import Derived.Test.YtcjhlhijdacinaaGreatDoorJ22
import Derived.Test.YtcjhlhijdacinaaGreatDoorJ25
import Derived.Test.YtcjhlhijdacinaaGreatDoorJ26
import Derived.Deep.QuietTactic
import Derived.BigQuiet
import Derived.RegionTactic
namespace Go.Proofs.YtcjhlhijdacinaaGreatDoor
open Go.RowKit
set_option linter.unusedVariables false
def Sm (qs:List P.PlaceD):Prop:=qs.length≤4∧∀ q∈qs,q.ws.length≤10
theorem Sm.like {qs ps:List P.PlaceD} (k:P.Like qs ps) (h:P.PlacesSay ps):Sm qs:=by
 refine ⟨by rw [k.len]; exact h.1,fun q hq=>?_⟩
 obtain ⟨j,hj⟩:=List.getElem?_of_mem hq
 obtain ⟨p,hp,-,-,e⟩:=k.get hj
 rw [e]
 exact (h.2.2 p (List.mem_of_getElem? hp)).2.2.1
structure Db (kr b2 lb:Nat) (w:World) (q t:Int) (gs:List G.GrantD) (qs:List P.PlaceD) (s1 s2:Value) (y:World):Prop where
 c:y.rangeAt lb 0 [.int .i64 t,s1,s2]
 f:y.there lb 0 3
 b:y.there b2 0 3
 l:LdO y (lb+1) gs qs s1 s2
 g:OGz (lb+1) gs y s1
 h:P.Fit gs qs
 p4:Sm qs
 r:Rq y kr q
 e:Ex kr w y
 z:kr < w.heap.size∧w.heap.size≤b2∧b2 < lb∧lb < y.heap.size
section
variable {kr b2 lb:Nat} {w:World} {q q' t:Int} {gs:List G.GrantD} {qs:List P.PlaceD} {s1 s2:Value} {y y':World}
theorem Db.ex (h:Db kr b2 lb w q t gs qs s1 s2 y) (he:Ex kr y y') (hr:Rq y' kr q'):Db kr b2 lb w q' t gs qs s1 s2 y':=by
 obtain ⟨z1,z2,z3,z4⟩:=h.z
 refine ⟨fun j u hj=>(he.cell (p:=⟨lb,0+j,none⟩) z4 (by show lb≠kr; omega)).trans (h.c j u hj),there_ex h.f z4 he (by omega),there_ex h.b (by omega) he (by omega),h.l.off (off_of_ex he) (fun g hg e=>by have:=(h.l.lt g hg).1; omega),h.g.grown (W.ex_grown he) ?_,h.h,h.p4,hr,h.e.trans he,z1,z2,z3,Nat.lt_of_lt_of_le z4 he.size⟩
 cases hv:s1.ownBlock with
 | none=>exact Or.inl rfl
 | some g=>exact Or.inr (fun e=>by have h1:=(h.l.g.lt g hv).1; have h2:=Option.some.inj e; omega)
theorem Db.below (h:Db kr b2 lb w q t gs qs s1 s2 y) (hb:Below y.heap.size y y'):Db kr b2 lb w q t gs qs s1 s2 y':=h.ex (Ex.of_below hb) (h.r.below hb)
theorem Db.up (h:Db kr b2 lb w q t gs qs s1 s2 y) (hq:q≤q'):Db kr b2 lb w q' t gs qs s1 s2 y:=⟨h.c,h.f,h.b,h.l,h.g,h.h,h.p4,h.r.up hq,h.e,h.z⟩
theorem Db.cs (h:Db kr b2 lb w q t gs qs s1 s2 y):y.cell? ⟨lb,0,none⟩=some (.int .i64 t)∧y.cell? ⟨lb,1,none⟩=some s1∧y.cell? ⟨lb,2,none⟩=some s2 :=
 ⟨h.c 0 _ rfl,by simpa using h.c 1 _ rfl,by simpa using h.c 2 _ rfl⟩
theorem Db.lay (h:Db kr b2 lb w q t gs qs s1 s2 y) {t':Int} {gs':List G.GrantD} {qs':List P.PlaceD} {v1 v2:Value} (hl:LdO y (lb+1) gs' qs' v1 v2) (hg:OGz (lb+1) gs' y v1) (hF:P.Fit gs' qs') (h4:Sm qs'):Db kr b2 lb w q t' gs' qs' v1 v2 (y.setCells lb 0 [.int .i64 t',v1,v2]):=by
 obtain ⟨z1,z2,z3,z4⟩:=h.z
 have he:Ex lb y (y.setCells lb 0 [.int .i64 t',v1,v2]):=(Ex.refl _ _).cells _ _
 refine ⟨World.rangeAt_setCells_same y lb 0 _ h.f,World.there_setCells h.f _ _ _,World.there_setCells h.b _ _ _,hl.off (off_of_ex he) (fun g hg e=>by have:=(hl.lt g hg).1; omega),hg.grown (W.ex_grown he) ?_,hF,h4,h.r.grown (W.ex_grown he) (fun k e=>by cases e; omega),Ex.other h.e he (by omega),z1,z2,z3,Nat.lt_of_lt_of_le z4 he.size⟩
 cases hv:v1.ownBlock with
 | none=>exact Or.inl rfl
 | some g=>exact Or.inr (fun e=>by have h1:=(hl.g.lt g hv).1; have h2:=Option.some.inj e; omega)
end
theorem Db.cx {kr b2 lb:Nat} {w:World} {q t:Int} {gs:List G.GrantD} {qs:List P.PlaceD} {s1 s2:Value} {y y':World} (h:Db kr b2 lb w q t gs qs s1 s2 y) (he:Ex kr y y'):y'.cell? ⟨lb,0,none⟩=some (.int .i64 t)∧y'.cell? ⟨lb,1,none⟩=some s1∧y'.cell? ⟨lb,2,none⟩=some s2:=by
 obtain ⟨z1,z2,z3,z4⟩:=h.z
 obtain ⟨h0,h1,h2⟩:=h.cs
 exact ⟨(he.cell (p:=⟨lb,0,none⟩) z4 (by show lb≠kr; omega)).trans h0,(he.cell (p:=⟨lb,1,none⟩) z4 (by show lb≠kr; omega)).trans h1,(he.cell (p:=⟨lb,2,none⟩) z4 (by show lb≠kr; omega)).trans h2⟩
theorem Db.gx {kr b2 lb:Nat} {w:World} {q t:Int} {gs:List G.GrantD} {qs:List P.PlaceD} {s1 s2:Value} {y y':World} (h:Db kr b2 lb w q t gs qs s1 s2 y) (he:Ex kr y y'):OGz (lb+1) gs y' s1:=by
 obtain ⟨z1,z2,z3,z4⟩:=h.z
 refine h.g.grown (W.ex_grown he) ?_
 cases hv:s1.ownBlock with
 | none=>exact Or.inl rfl
 | some g=>exact Or.inr (fun e=>by have h1:=(h.l.g.lt g hv).1; have h2:=Option.some.inj e; omega)
theorem Db.lx {kr b2 lb:Nat} {w:World} {q t:Int} {gs:List G.GrantD} {qs:List P.PlaceD} {s1 s2:Value} {y y':World} (h:Db kr b2 lb w q t gs qs s1 s2 y) (he:Ex kr y y'):LdO y' (lb+1) gs qs s1 s2:=by
 obtain ⟨z1,z2,z3,z4⟩:=h.z
 exact h.l.off (off_of_ex he) (fun g hg e=>by have:=(h.l.lt g hg).1; omega)
structure Da (kr:Nat) (q:Int) (w W:World) (b2 lb:Nat) (t:Int) (s1 s2:Value) (iA iS:Nat) (c:Nat) (S:Nat→Bool) (y:World):Prop where
 r:Rq y kr (q+200 * c)
 e:Ex kr w y
 b:y.there b2 0 3
 s:W.heap.size≤y.heap.size
 o:S iA=false→Ex kr W y
 l:S iS=false→y.rangeAt lb 0 [.int .i64 t,s1,s2]∧y.there lb 0 3
section
variable {kr:Nat} {q:Int} {w W:World} {b2 lb:Nat} {t:Int} {s1 s2:Value} {iA iS c i:Nat} {S:Nat→Bool} {y y':World}
theorem sset_no (h:sset S i c=false):S c=false:=by
 unfold sset at h
 simp only [Bool.or_eq_false_iff] at h
 exact h.2
theorem Da.up (h:Da kr q w W b2 lb t s1 s2 iA iS c S y):Da kr q w W b2 lb t s1 s2 iA iS (c+1) (sset S i) y:=⟨h.r.up (by omega),h.e,h.b,h.s,fun e=>h.o (sset_no e),fun e=>h.l (sset_no e)⟩
theorem Da.nx {ops:Array Oper} (hz:kr < w.heap.size∧w.heap.size≤b2∧b2 < lb∧lb < W.heap.size) (i:Nat):Nx kr q ops (Da kr q w W b2 lb t s1 s2 iA iS) i:=by
 obtain ⟨z1,z2,z3,z4⟩:=hz
 refine ⟨fun c S y _ h=>h.r,fun c S y y' m _ h hr hm he=>⟨hr.up (by omega),h.e.trans he,there_ex h.b (by have:=h.s; omega) he (by omega),Nat.le_trans h.s he.size,fun e=>(h.o (sset_no e)).trans he,fun e=>?_⟩⟩
 obtain ⟨h1,h2⟩:=h.l (sset_no e)
 exact ⟨fun j u hj=>(he.cell (p:=⟨lb,0+j,none⟩) (by show lb < _; have:=h.s; omega) (by show lb≠kr; omega)).trans (h1 j u hj),there_ex h2 (by have:=h.s; omega) he (by omega)⟩
end
def Fd (kr lb iA iS:Nat) (row:Option Nat) (i:Nat) (y y':World):Prop:=if i=iA then y.grownBy y' row else if i=iS then ∃ j v,y'=y.setCell ⟨lb,j,none⟩ v else Ex kr y y'
theorem Fd.fa {kr lb iA iS Z i:Nat} {row:Option Nat} {y y':World} (h:Fd kr lb iA iS row i y y') (hk:kr < Z) (hl:lb < Z) (hr:∀ g,row=some g→g < Z):Fa Z y y':=by
 unfold Fd at h
 split at h
 · exact Off.of_grown h hr
 split at h
 ·
  obtain ⟨j,v,rfl⟩:=h
  exact Fa.ex ((Ex.refl lb y).set _ _) hl
 exact Fa.ex h hk
theorem Fd.low {kr lb iA iS i:Nat} {row:Option Nat} {y y':World} (h:Fd kr lb iA iS row i y y') (hk:kr < lb) (hi:i≠iA):Fa (lb+1) y y':=by
 unfold Fd at h
 rw [if_neg hi] at h
 split at h
 ·
  obtain ⟨j,v,rfl⟩:=h
  exact Fa.ex ((Ex.refl lb y).set _ _) (by omega)
 exact Fa.ex h (by omega)
theorem Fd.kr {kr lb iA iS i:Nat} {row:Option Nat} {y y':World} (h:Fd kr lb iA iS row i y y') (hi:i≠iA) (hj:i≠iS):Ex kr y y':=by
 unfold Fd at h
 rwa [if_neg hi,if_neg hj] at h
theorem OG.fa {B:Nat} {gs:List G.GrantD} {y y':World} {v:Value} (h:OG B gs y v) (hF:Fa B y y'):OG B gs y' v :=
 ⟨h.1,h.2.imp id (fun ⟨g,cap,cur,h1,h2,h3,h4⟩=>⟨g,cap,cur,h1,h2,by rw [hF.block g (some_lt h3) (by omega)]; exact h3,h4⟩)⟩
theorem there_off {X:Nat→Prop} {y y':World} {b n:Nat} (h:y.there b 0 n) (ho:Off X y y') (hb:b < y.heap.size) (hn:¬ X b):y'.there b 0 n:=fun j hj =>
 ⟨by rw [World.cell?_of_block (w:=y) (a:=⟨b,0+j,none⟩) (ho.block b hb hn)]; exact (h j hj).1,by rw [World.frozen?_of_block (w:=y) (a:=⟨b,0+j,none⟩) (ho.block b hb hn)]; exact (h j hj).2⟩
theorem range_off {X:Nat→Prop} {y y':World} {b:Nat} {C:List Value} (h:y.rangeAt b 0 C) (ho:Off X y y') (hb:b < y.heap.size) (hn:¬ X b):y'.rangeAt b 0 C:=fun j u hj=>(ho.cell (p:=⟨b,0+j,none⟩) hb hn).trans (h j u hj)
def Sg (g:G.GrantD):Prop:=g.h.size≤4∧g.b.size≤4∧g.c.size≤4
theorem fit_app {gs:List G.GrantD} {qs:List P.PlaceD} {g:G.GrantD} (h:P.Fit gs qs) (hg:Sg g) (hl:gs.length≤1000):P.Fit (gs++[g]) qs:=by
 refine ⟨fun x hx=>?_,h.p,by simp; omega,h.pl,h.ln⟩
 rcases List.mem_append.1 hx with hx | hx
 · exact h.g x hx
 rw [List.mem_singleton.1 hx]
 obtain ⟨h1,h2,h3⟩:=hg
 exact ⟨by unfold maxLen; omega,by unfold maxLen; omega,by unfold maxLen; omega⟩
theorem range_set1 {y:World} {lb:Nat} {a b c v:Value} (h:y.rangeAt lb 0 [a,b,c]):(y.setCell ⟨lb,1,none⟩ v).rangeAt lb 0 [a,v,c]:=by
 intro j u hj
 have d0:=h 0 _ rfl
 have d1:=h 1 _ rfl
 have d2:=h 2 _ rfl
 simp only [Nat.zero_add] at d0 d1 d2 ⊢
 match j,hj with
 | 0,hj=>cases hj; rw [World.cell?_setCell_other _ _ _ _ (fun h'=>by have:=congrArg Addr.off h'; simp at this)]; exact d0
 | 1,hj=>cases hj; exact World.cell?_setCell_same _ _ _ d1
 | 2,hj=>cases hj; rw [World.cell?_setCell_other _ _ _ _ (fun h'=>by have:=congrArg Addr.off h'; simp at this)]; exact d2
 | j+3,hj=>simp at hj
def G1 (Z:Nat) (y:World) (v:Value):Prop:=∃ b g,v=.slice (some ⟨b,0,none⟩) 1 1∧Z≤b∧y.heap[b]?=some (.cells g.cells.toArray 40 (0,0))∧Sg g
theorem G1.keep {Z:Nat} {y y':World} {v:Value} (h:G1 Z y v) (hF:Fa Z y y'):G1 Z y' v:=by
 obtain ⟨b,g,h1,h2,h3,h4⟩:=h
 exact ⟨b,g,h1,h2,(hF.block b (some_lt h3) (by omega)).trans h3,h4⟩
theorem tx_c {x:ByteArray} (h:x.size≤1):({ data:=#[99] }++x:ByteArray).size≤4:=by rw [size_front]; omega
theorem bl_drewN (w:World) (n:Nat):Below w.heap.size w (w.drewN n):=((Ex.refl w.heap.size w).drewN n).below (Nat.le_refl _) (Nat.le_refl _)
theorem Db.putG {kr b2 lb g n c i j:Nat} {w:World} {q t:Int} {gs:List G.GrantD} {qs:List P.PlaceD} {s2 v:Value} {y:World} {r r':G.GrantD} (h:Db kr b2 lb w q t gs qs (.slice (some ⟨g,0,none⟩) n c) s2 y) (hr:gs[i]?=some r) (hc:r'.cells=r.cells.set j v) (hj:j < 5) (hf:r'.fits) :
  Db kr b2 lb w q t (gs.set i r') qs (.slice (some ⟨g,0,none⟩) n c) s2 (y.setCell ⟨g,i * 5+j,none⟩ v):=by
 obtain ⟨z1,z2,z3,z4⟩:=h.z
 have hO:OG (lb+1) gs y (.slice (some ⟨g,0,none⟩) n c):=h.g.resolve_right (fun e=>by rw [e.1] at hr; simp at hr)
 have hg:=h.l.g.lt g rfl
 have he:Ex g y (y.setCell ⟨g,i * 5+j,none⟩ v):=(Ex.refl _ _).set _ _
 have ho:=OG.put hO hr hc hj
 have hof:=off_of_ex he
 exact ⟨range_off h.c hof z4 (by omega),there_off h.f hof z4 (by omega),there_off h.b hof (by omega) (by omega),⟨G.Sl.of_owns ho,h.l.p.off hof (fun k hk e=>by subst e; exact h.l.gp _ rfl hk),h.l.gp⟩,Or.inl ho,
  ⟨fun x hx=>by
   rcases List.mem_or_eq_of_mem_set hx with hx | rfl
   · exact h.h.g x hx
   exact hf,h.h.p,by rw [List.length_set]; exact h.h.gl,h.h.pl,h.h.ln⟩,h.p4,h.r.grown (W.ex_grown he) (fun k e=>by cases e; omega),Ex.other h.e he (by omega),z1,z2,z3,Nat.lt_of_lt_of_le z4 he.size⟩
theorem Db.row {kr b2 lb n c i:Nat} {w:World} {q t:Int} {gs:List G.GrantD} {qs:List P.PlaceD} {a:Option Addr} {s2:Value} {y:World} (h:Db kr b2 lb w q t gs qs (.slice a n c) s2 y) (hi:i < gs.length):∃ g r,a=some ⟨g,0,none⟩∧gs[i]?=some r:=by
 rcases h.l.g with ⟨-,e⟩ | ⟨g,cap,e,-⟩
 · rw [e] at hi; simp at hi
 cases e; exact ⟨g,gs[i],rfl,List.getElem?_eq_getElem hi⟩
theorem Db.cell {kr b2 lb g n c i:Nat} {w:World} {q t:Int} {gs:List G.GrantD} {qs:List P.PlaceD} {s2:Value} {y:World} {r:G.GrantD} (h:Db kr b2 lb w q t gs qs (.slice (some ⟨g,0,none⟩) n c) s2 y) (hr:gs[i]?=some r):y.cell? ⟨g,i * 5,none⟩=some (.string r.h)∧y.cell? ⟨g,i * 5+1,none⟩=some (.string r.b)∧y.cell? ⟨g,i * 5+2,none⟩=some (.string r.c)∧(∀ j,j < 5→y.frozen? ⟨g,i * 5+j,none⟩=false)∧n=gs.length:=by
 rcases h.l.g with ⟨e,-⟩ | ⟨g',cap,e,-,-,h3,h4⟩
 · cases e
 cases e
 obtain ⟨c0,c1,c2,-,-⟩:=h3.at hr
 have hi:i < gs.length:=(List.getElem?_eq_some_iff.1 hr).1
 simp only [Nat.zero_add] at c0 c1 c2
 exact ⟨c0,c1,c2,fun j hj=>by have:=(h4 (i * 5+j) (by omega)).2; rwa [Nat.zero_add] at this,rfl⟩
theorem PlO.at {y:World} {B n c k:Nat} {qs:List P.PlaceD} {a:Option Addr} (h:PlO y B qs (.slice a n c)) (hk:k < qs.length):∃ g p,a=some ⟨g,0,none⟩∧qs[k]?=some p∧n=qs.length∧g < y.heap.size∧y.cell? ⟨g,k * 3,none⟩=some (.string p.b)∧y.cell? ⟨g,k * 3+2,none⟩=some (.slice p.a p.ws.length p.c):=by
 rcases h.o with ⟨-,e⟩ | ⟨g,cap,e,-,h2,h3,-⟩
 · rw [List.map_eq_nil_iff] at e; rw [e] at hk; simp at hk
 cases e
 obtain ⟨c0,-,c2⟩:=h3.at (k:=k) (r:=Pr.raw qs[k]) (by rw [List.getElem?_map,List.getElem?_eq_getElem hk]; rfl)
 simp only [Nat.zero_add] at c0 c2
 exact ⟨g,qs[k],rfl,List.getElem?_eq_getElem hk,List.length_map ..,h2,c0,c2⟩
theorem PlO.want {y:World} {B k j:Nat} {qs:List P.PlaceD} {v:Value} {p:P.PlaceD} (h:PlO y B qs v) (hk:qs[k]?=some p) (hj:j < p.ws.length):∃ g x,p.a=some ⟨g,0,none⟩∧p.ws[j]?=some x∧g < y.heap.size∧y.cell? ⟨g,j * 7,none⟩=some (.string x.c)∧y.cell? ⟨g,j * 7+2,none⟩=some (.string x.h):=by
 rcases h.k k p hk with ⟨-,e⟩ | ⟨g,cap,e,-,h2,h3,-⟩
 · rw [e] at hj; simp at hj
 obtain ⟨c0,-,c2,-⟩:=h3.at (List.getElem?_eq_getElem hj)
 simp only [Nat.zero_add] at c0 c2
 refine ⟨g,p.ws[j], ?_,List.getElem?_eq_getElem hj,h2,c0,c2⟩
 cases hp:p.a
 · rw [hp] at e; cases e
 rw [hp] at e; cases e; rfl
def Pd (Z:Nat) (t:Int) (y:World) (v:Value):Prop:=∃ t' qs s1 s2 code,v=.tuple #[.agg #[.int .i64 t',s1,s2],.int .i64 code]∧LdO y Z [] qs s1 s2∧C0 [] s1∧P.Fit [] qs∧(t'=t∨t'=0)∧Sm qs
theorem Pd.fb {T:TypeId} {Z:Nat} {t:Int} {y y':World} {v:Value} (h:Pd Z t y v) (hF:Fb T Z y y'):Pd Z t y' v:=by
 obtain ⟨t',qs,s1,s2,code,h1,h2,h3⟩:=h
 exact ⟨t',qs,s1,s2,code,h1,h2.fb hF,h3⟩
theorem Pd.low {Z Z':Nat} {t:Int} {y:World} {v:Value} (h:Pd Z t y v) (hZ:Z'≤Z):Pd Z' t y v:=by
 obtain ⟨t',qs,s1,s2,code,h1,h2,h3⟩:=h
 exact ⟨t',qs,s1,s2,code,h1,h2.low hZ,h3⟩
theorem there_lt {y:World} {X n:Nat} (h:y.there X 0 (n+1)):X < y.heap.size:=World.block_lt_of_cell? y _ (Option.get_mem (h 0 (by omega)).1)
theorem put_fit {t t':Int} {gs gs':List G.GrantD} {ps qs:List P.PlaceD} {b:ByteArray} {ws:List W.WantD} {code:Int} (h:PutSay t gs ps b ws t' gs' qs code) (hF:P.Fit gs ps) (hb:b.size≤maxLen) (hw:∀ r∈ws,r.fits) (hl:ws.length≤1048576):(gs'=gs∨gs'=[])∧P.Fit gs' qs∧(t'=t∨t'=0)∧Sm qs:=by
 rcases h with ⟨-,rfl,rfl,rfl,-⟩ | ⟨y,rfl,rfl,⟨-,k,-⟩ | ⟨-,-,k,-⟩ | ⟨-,l,k,-⟩⟩
 · exact ⟨Or.inr rfl,⟨(fun g hg=>by cases hg),(fun g hg=>by cases hg),by simp,by simp,(fun g hg=>by cases hg)⟩,Or.inr rfl,by simp,fun q hq=>by cases hq⟩
 · exact ⟨Or.inl rfl,hF.like k,Or.inl rfl,Sm.like k y.2.2.1⟩
 · exact ⟨Or.inl rfl,hF.like k,Or.inl rfl,Sm.like k y.2.2.1⟩
 exact ⟨Or.inl rfl,(fit_put hF hb hw hl y.2.2.1.1).like k,Or.inl rfl,Sm.like k l.2.2.1⟩
theorem nm_up {a b b':Int} {v:Value} (h:Nm a b v) (hb:b≤b':=by omega):Nm a b' v:=by
 obtain ⟨z,h1,h2,h3⟩:=h
 exact ⟨z,h1,h2,by omega⟩
def L6a:List Nat:=[23,24,25,26,27,28,29,30,22,31,32,5,100012,6]
def G6a (Z kr i:Nat) (t:Int) (u:Value) (y:World) (V:Nat→Value):Nat→Prop
 | 0=>V 0=u
 | 1=>Tab 9 (Tx 4) Z 3 y (V 1)
 | 2=>V 2=.int .i64 (i:Int)
 | 3=>Cel 9 (Tx 4) Z y (V 3)
 | 4=>Tx 4 (V 4)
 | 5=>V 5=.pointer (some ⟨kr,0,none⟩)
 | 6=>Ws Z y (V 6)
 | 7=>Pd Z t y (V 7)
 | 8=>Pd Z t y (V 8)∧V 8=V 7
 | 9=>∃ t' a n k b m l c,V 8=.tuple #[.agg #[.int .i64 t',.slice a n k,.slice b m l],c]∧V 9=.agg #[.int .i64 t',.slice a n k,.slice b m l]
 | 10=>∃ p c,V 8=.tuple #[p,.int .i64 c]∧V 10=.int .i64 c
 | 11=>∃ X,V 11=.pointer (some ⟨X,0,none⟩)∧Z≤X∧BoxT 26 3 y X
 | 12=>∃ X a b c,V 11=.pointer (some ⟨X,0,none⟩)∧V 9=.agg #[a,b,c]∧y.rangeAt X 0 [a,b,c]∧Z≤X∧X < y.heap.size
 | 13=>V 13=V 10
 | _=>True
theorem G6a.keep {Z kr i:Nat} {t:Int} {u:Value} {k:Nat} {y y':World} {V:Nat→Value} (hf:(fun | 12=>Fs 26 3 Z | _=>Fa Z:Nat→World→World→Prop) k y y'):∀ j,k≠j→G6a Z kr i t u y V j→G6a Z kr i t u y' V j:=by
 have hb:Fb 26 Z y y'∧(k=12∧Fs 26 3 Z y y'∨Fa Z y y'):=by
  by_cases e:k=12
  · subst e; exact ⟨Fs.fb hf,Or.inl ⟨rfl,hf⟩⟩
  have h:Fa Z y y':=by
   revert hf
   split
   · exact absurd rfl e
   exact id
  exact ⟨Or.inl h,Or.inr h⟩
 obtain ⟨hb,hc⟩:=hb
 intro j hne h
 match j,h with
 | 0,h=>exact h
 | 1,h=>exact Tab.keep h (by decide) hb
 | 2,h=>exact h
 | 3,h=>exact Cel.keep h (by decide) hb
 | 4,h=>exact h
 | 5,h=>exact h
 | 6,h=>exact Ws.keep h (by decide) hb
 | 7,h=>exact Pd.fb h hb
 | 8,h=>exact ⟨Pd.fb h.1 hb,h.2⟩
 | 9,h=>exact h
 | 10,h=>exact h
 | 11,h =>
  obtain ⟨X,h1,h2,h3⟩:=h
  refine ⟨X,h1,h2, ?_⟩
  rcases hc with ⟨-,hc⟩ | hc
  · exact h3.fs hc
  exact h3.fa h2 hc
 | 12,h =>
  obtain ⟨X,a,b,c,h1,h2,h3,h4,h5⟩:=h
  rcases hc with ⟨e,-⟩ | hc
  · exact absurd e hne
  exact ⟨X,a,b,c,h1,h2,range_fa h3 h4 h5 hc,h4,Nat.lt_of_lt_of_le h5 hc.size⟩
 | 13,h=>exact h
 | _+14,h=>exact h
def L13a:List Nat:=[43,44,45,46,47,48,49,50,51,52,53,54,55,56,57,58,59,60,61,62,63,64,65,66,67,68,69,100027]
def G13a (Z kr lb k:Nat) (t:Int) (gs:List G.GrantD) (qs:List P.PlaceD) (s1 s2:Value) (y:World) (V:Nat→Value):Nat→Prop
 | 0=>V 0=.pointer (some ⟨lb,1,none⟩)
 | 1=>V 1=s1
 | 2=>Tab 9 (Tx 4) Z 3 y (V 2)
 | 3=>V 3=.int .i64 (k:Int)
 | 4=>Cel 9 (Tx 4) Z y (V 4)
 | 5=>Tx 4 (V 5)
 | 6=>Tab 9 (Tx 4) Z 2 y (V 6)
 | 7=>V 7=.pointer (some ⟨kr,0,none⟩)
 | 8=>Nm 0 (2 - 1) (V 8)
 | 9=>Cel 9 (Tx 4) Z y (V 9)
 | 10=>Tx 4 (V 10)
 | 11=>V 11=.pointer (some ⟨kr,0,none⟩)
 | 12=>Nm 0 (4 - 1) (V 12)
 | 13=>Tx 1 (V 13)
 | 14=>Tx 4 (V 14)
 | 15=>V 15=.pointer (some ⟨kr,0,none⟩)
 | 16=>Nm 0 (40 - 1) (V 16)
 | 17=>V 17=.pointer (some ⟨kr,0,none⟩)
 | 18=>V 18=.pointer (some ⟨lb,0,none⟩)
 | 19=>V 19=.int .i64 t
 | 20=>V 20=.int .i64 (t+32)
 | 21=>V 21=.int .i64 (t+32+1)
 | 22=>∃ m,V 22=.int .i64 m
 | 23=>∃ g:G.GrantD,V 23=.agg #[.string g.h,.string g.b,.string g.c,.int .i64 g.t,.int .i64 g.u]∧Sg g
 | 24=>G1 Z y (V 24)
 | 25=>∃ g,Sg g∧LdO y (lb+1) (gs++[g]) qs (V 25) s2∧OG (lb+1) (gs++[g]) y (V 25)
 | 26=>V 26=.pointer (some ⟨lb,1,none⟩)
 | 27=>∃ g v,Sg g∧LdO y (lb+1) (gs++[g]) qs v s2∧OG (lb+1) (gs++[g]) y v∧y.rangeAt lb 0 [.int .i64 t,v,s2]∧y.there lb 0 3
 | _=>True
theorem G13a.keep {Z kr lb k:Nat} {t:Int} {gs:List G.GrantD} {qs:List P.PlaceD} {s1 s2:Value} {i:Nat} {y y':World} {V:Nat→Value} (hk:kr < lb) (hl:lb < Z) (hr:∀ g,s1.ownBlock=some g→g < Z) (hf:Fd kr lb 25 27 s1.ownBlock i y y'):∀ j,i≠j→(i=25→j≠27)→G13a Z kr lb k t gs qs s1 s2 y V j→G13a Z kr lb k t gs qs s1 s2 y' V j:=by
 have hb:=hf.fa (Nat.lt_trans hk hl) hl hr
 have hb':Fb 26 Z y y':=Or.inl hb
 intro j hne h25 h
 match j,h with
 | 0,h=>exact h
 | 1,h=>exact h
 | 2,h=>exact Tab.keep h (by decide) hb'
 | 3,h=>exact h
 | 4,h=>exact Cel.keep h (by decide) hb'
 | 5,h=>exact h
 | 6,h=>exact Tab.keep h (by decide) hb'
 | 7,h=>exact h
 | 8,h=>exact h
 | 9,h=>exact Cel.keep h (by decide) hb'
 | 10,h=>exact h
 | 11,h=>exact h
 | 12,h=>exact h
 | 13,h=>exact h
 | 14,h=>exact h
 | 15,h=>exact h
 | 16,h=>exact h
 | 17,h=>exact h
 | 18,h=>exact h
 | 19,h=>exact h
 | 20,h=>exact h
 | 21,h=>exact h
 | 22,h=>exact h
 | 23,h=>exact h
 | 24,h=>exact G1.keep h hb
 | 25,h =>
  obtain ⟨g,h1,h2,h3⟩:=h
  have hf2:=hf.low hk hne
  exact ⟨g,h1,h2.fa hf2,OG.fa h3 hf2⟩
 | 26,h=>exact h
 | 27,h =>
  obtain ⟨g,v,h1,h2,h3,h4,h5⟩:=h
  have hly:=there_lt h5
  have hi:i≠25:=fun e=>h25 e rfl
  have hf2:=hf.low hk hi
  have hf3:=off_of_ex (hf.kr hi hne)
  exact ⟨g,v,h1,h2.fa hf2,OG.fa h3 hf2,range_off h4 hf3 hly (by omega),there_off h5 hf3 hly (by omega)⟩
 | _+28,h=>exact h
set_option maxRecDepth 4000 in
set_option maxHeartbeats 4000000 in
theorem draw6 (kr:Nat) (q:Int) (w:World) (hr:Rq w kr q) (hq:q < 400000) :
  Calls Tryz.prog 45 #[.pointer (some ⟨kr,0,none⟩)] w fun e w'=>∃ t gs qs s1 s2,e=.returned (.agg #[.int .i64 t,s1,s2])∧LdO w' w.heap.size gs qs s1 s2∧OGz w.heap.size gs w' s1∧P.Fit gs qs∧gs.length≤3∧Sm qs∧(0≤t∧t≤78)∧Rq w' kr (q+100000)∧Ex kr w w':=by
 have hinfo:(Tryz.prog.info? 26).map (·.size)=some 3:=by kernel_rfl
 have hkr:=hr.lt
 have HR:=hidP hr
 clear hr
 go_enter Tryz.func45,Tryz.ntmps45
 go_wp2_with fail
 refine (pickQ kr q 40 _ (HR.out.below (bl_alloc bR _)) (by omega) (by omega) (by omega)).mono ?_
 rintro e w1 ⟨m,rfl,m0,m1,r1,e1⟩
 have D0:Hid (∀ y,y=w1.alloc (.cells #[.int .i64 (2 * m),.slice none 0 0,.slice none 0 0] 26)→Db kr w.heap.size w1.heap.size w (q+1) (2 * m) [] [] (.slice none 0 0) (.slice none 0 0) y):=by
  rintro y rfl
  have hb:Below w1.heap.size w1 (w1.alloc (.cells #[.int .i64 (2 * m),.slice none 0 0,.slice none 0 0] 26)):=bl_alloc bR _
  have hz:w.heap.size < w1.heap.size:=Nat.lt_of_lt_of_le (by simp) e1.size
  refine ⟨fun j u hj=>by rw [← hj]; simp [go_sem],fun j hj=>⟨by simp [go_sem]; omega,by simp [go_sem]⟩, ?_,LdO.nil _ _,Or.inl (World.ownsRow_nil _ _ _ _),⟨(fun g hg=>by cases hg),(fun g hg=>by cases hg),by simp,by simp,(fun g hg=>by cases hg)⟩,⟨by simp,fun q hq=>by cases hq⟩,r1.below hb,((Ex.of_below (bl_alloc bR _)).trans e1).trans (Ex.of_below hb),hkr,Nat.le_refl _,hz,by simp⟩
  have ht:(w.alloc (.cells #[.int .i64 0,.slice none 0 0,.slice none 0 0] 26)).there w.heap.size 0 3:=fun j hj=>⟨by simp [go_sem]; omega,by simp [go_sem]⟩
  exact there_keep2 (there_ex ht (by simp) e1 (by omega)) hz hb
 obtain ⟨lb,hlb⟩:∃ lb,lb=w1.heap.size:=⟨_,rfl⟩
 obtain ⟨t,ht⟩:∃ t,t=2 * m:=⟨_,rfl⟩
 have ht2:0≤t∧t≤78:=by omega
 clear r1 e1 HR
 go_wp2_with fail
 rw [← hlb,← ht]
 have D1:=D0.out _ rfl
 rw [← hlb,← ht] at D1
 have HD0:=hidP D1
 clear D0 D1 hlb ht m0 m1
 go_loopw [4] (fun i wx=>∃ (k:Nat) (t':Int) (qs:List P.PlaceD) (s1 s2:Value),k≤3∧i=.int .i64 (k:Int)∧(0≤t'∧t'≤78)∧Hid (Db kr w.heap.size lb w (q+1+9000 * k) t' [] qs s1 s2 wx)) (fun i _=>3 - (intOf i).toNat)
 case atStart=>exact ⟨0,t,[],_,_,by omega,rfl,ht2,HD0.out.up (by omega)⟩
 case round =>
  obtain ⟨k,t',qs,s1,s2,hk,rfl,ht',HD⟩:=hrel
  by_cases hlt:k < 3
  ·
   have hki:(k:Int) < 3:=by omega
   go_wp2_with fail
   refine (pickQ kr _ 4 _ HD.out.r (by omega) (by omega) (by omega)).mono ?_
   rintro e w2 ⟨m2,rfl,m20,m21,r2,e2⟩
   have D2:Hid (Db kr w.heap.size lb w (q+1+9000 * k+1) t' [] qs s1 s2 w2):=HD.out.ex e2 r2
   clear r2 e2 HD
   by_cases hm:m2=0
   ·
    subst hm
    go_wp2_with fail
    exact ⟨⟨k+1,t',qs,s1,s2,by omega,by go_num,ht',D2.out.up (by omega)⟩,by simp [intOf]; omega⟩
   have hm':0 < m2:=by omega
   obtain ⟨a1,c1,hs1⟩:=G.Sl.shape D2.out.l.g
   obtain ⟨a2,c2,hs2⟩:=Pr.Sl.shape D2.out.l.p.o
   rw [List.length_map] at hs2
   rw [List.length_nil] at hs1
   subst hs1 hs2
   have HC:Hid (∀ y,Ex kr w2 y→y.cell? ⟨lb,0,none⟩=some (.int .i64 t')∧y.cell? ⟨lb,1,none⟩=some (.slice a1 0 c1)∧y.cell? ⟨lb,2,none⟩=some (.slice a2 qs.length c2)):=fun y hy=>D2.out.cx hy
   have MP:Hid (∀ y nm aw cw ws,Ex kr w2 y→nm.size≤4→W.Src y aw cw ws→(∀ r∈ws,r.fits)→ws.length≤4→Calls Tryz.prog 15 #[.agg #[.int .i64 t',.slice a1 0 c1,.slice a2 qs.length c2],.string nm,.slice aw ws.length cw] y fun e y'=>∃ v,e=.returned v∧Pd y.heap.size t' y' v∧Below y.heap.size y y'):=by
    intro y nm aw cw ws he hn hs hf hl
    have hL:=D2.out.lx he
    refine (specPut_z t' [] qs a1 a2 c1 c2 nm aw cw ws y hL.z D2.out.h hs (by unfold maxLen; omega) hf (by omega)).mono ?_
    rintro e y' ⟨⟨t2,gs2,qs2,v1,v2,code,rfl,hp,hl2,h0⟩,hb⟩
    obtain ⟨hg,hF2,ht2,hq4⟩:=put_fit hp D2.out.h (by unfold maxLen; omega) hf (by omega)
    have:gs2=[]:=by rcases hg with h | h <;> exact h
    subst this
    exact ⟨_,rfl,⟨t2,qs2,v1,v2,code,rfl,hl2,h0,hF2,ht2,hq4⟩,hb⟩
   obtain ⟨q2,hq2⟩:∃ q2,q2=q+1+9000 * (k:Int)+1:=⟨_,rfl⟩
   rw [← hq2] at D2
   have hk3:k < 3:=hlt
   have hZ:∃ Z,Z=w2.heap.size:=⟨_,rfl⟩
   obtain ⟨Z,hZ⟩:=hZ
   have hD:∀ i c S y,Dz kr q2 w2 c S y→Dz kr q2 w2 (c+1) (sset S i) y:=fun i c S y h=>h.up
   have hnx:∀ {ops:Array Oper} i,Nx kr q2 ops (Dz kr q2 w2) i:=fun i=>Dz.nx i
   have hZs:∀ c S y,Dz kr q2 w2 c S y→Z≤y.heap.size:=fun c S y h=>by rw [hZ]; exact h.e.size
   have hkZ:kr < Z:=by rw [hZ]; exact D2.out.r.lt
   have hFx:∀ y y',Ex kr y y'→Fa Z y y':=fun _ _ h=>Fa.ex h hkZ
   have hq7:q2+200 * (L6a.length:Int) < 700000:=by show q2+200 * ((14:Nat):Int) < 700000; omega
   have hq1:q2+200 * (L6a.length:Int) < 1000000:=by show q2+200 * ((14:Nat):Int) < 1000000; omega
   clear hm
   go_wp2_with fail
   refine wp_region_any (by kernel_rfl) ?_
   refine reg_invZ L6a (G6a Z kr k t' (.agg #[.int .i64 t',.slice a1 0 c1,.slice a2 qs.length c2])) (Dz kr q2 w2) (fun | 12=>Fs 26 3 Z | _=>Fa Z) (by kernel_rfl) (fun i j y y' V S hne _ _ hf h=>G6a.keep hf j hne h) ⟨(D2.out.r.below bD).up (by omega),Ex.of_below bD⟩ ?ct1 ?done1
   case ct1 =>
    intro i hi
    match i,hi with
    | 0,_ =>
     refine ctp (hD _) (Fa.refl _) rfl rfl rfl fun x y c S yy g oo dd K hK=>?_
     have o3:x.tmps[3]?.getD undef=.pointer (some ⟨lb,0,none⟩):=ev_tmp (oo.out 3 rfl)
     obtain ⟨k0,k1,k2⟩:=HC.out y dd.out.e
     clear g oo dd yy
     go_simp
     exact hK.out _ rfl
    | 1,_ =>
     exact ctTab (hnx _) hZs #[.string ⟨#[97]⟩,.string ⟨#[98]⟩,.string ⟨#[100]⟩] rfl rfl rfl (fun _ _=>by kernel_rfl) (txAll (m:=4) (by kernel_rfl)) hFx (fun _ _ h=>h)
    | 2,_ =>
     exact ctOut (hD _) (Fa.refl _) rfl rfl rfl rfl rfl rfl (fun _ _ e=>e)
    | 3,_ =>
     exact ctIxS (hD _) (Fa.refl _) 1 2 rfl rfl rfl rfl rfl rfl rfl rfl (fun _ _ h=>h) (fun _ _ h=>⟨k,h,hk3⟩) (fun _ _ h=>h)
    | 4,_ =>
     exact ctLdS (hD _) (Fa.refl _) 3 rfl rfl rfl rfl rfl rfl (fun _ _ h=>h) (fun _ _ h=>h)
    | 5,_ =>
     exact ctOut (hD _) (Fa.refl _) rfl rfl rfl rfl rfl rfl (fun _ _ e=>e)
    | 6,_ =>
     exact ctWants (hnx _) hq7 hZs 5 rfl rfl rfl rfl rfl rfl (fun _ _ h=>h) hFx (fun _ _ h=>h)
    | 7,_ =>
     refine ct rfl rfl rfl fun x y c S hc yy g oo dd K hK=>?_
     have e0:x.tmps[23]?.getD undef=_:=ev_tmp (g.out 0 rfl)
     obtain ⟨nm,h4,hn⟩:=g.out 4 rfl
     have e4:x.tmps[27]?.getD undef=_:=ev_tmp h4
     obtain ⟨ws,ow,hwl,hwf⟩:=g.out 6 rfl
     obtain ⟨aw,cw,h6⟩:=W.Ow.shape ow
     have e6:x.tmps[29]?.getD undef=_:=ev_tmp h6
     rw [h6] at ow
     have OW:=hidP ow
     have HWF:=hidP hwf
     clear g oo h4 h6 hwf ow
     go_simp
     refine (MP.out y nm aw cw ws dd.out.e hn (W.Ow.sl OW.out).src HWF.out hwl).mono ?_
     rintro e y' ⟨v,rfl,h7,hb⟩
     exact hK.out _ _ (h7.low (hZs c S y dd.out)) ((hnx _).below yy.out dd.out hb) (Fa.below hb)
    | 8,_ =>
     refine ctp (hD _) (Fa.refl _) rfl rfl rfl fun x y c S yy g oo dd K hK=>?_
     obtain ⟨t',qs',v1,v2,code,e7,h7⟩:=(g.out 7 rfl:Pd Z _ y (x.tmps.getD 30 undef))
     have e1:x.tmps[30]?.getD undef=_:=ev_tmp e7
     have H7:=hidP h7
     have E7:=hidP e7
     clear g oo dd yy h7 e7
     go_simp
     exact hK.out _ ⟨⟨_,_,_,_,_,rfl,H7.out⟩,E7.out.symm⟩
    | 9,_ =>
     refine ctp (hD _) (Fa.refl _) rfl rfl rfl fun x y c S yy g oo dd K hK=>?_
     obtain ⟨⟨t',qs',v1,v2,code,e7,hL,-⟩,-⟩:=g.out 8 rfl
     obtain ⟨b1,k1,rfl⟩:=G.Sl.shape hL.g
     obtain ⟨b2',k2,hs2⟩:=Pr.Sl.shape hL.p.o
     rw [List.length_map] at hs2
     subst hs2
     have e1:x.tmps[22]?.getD undef=_:=ev_tmp e7
     have E7:=hidP e7
     clear g oo dd yy e7 hL
     go_simp
     exact hK.out _ ⟨t',b1,_,k1,b2',_,k2,_,E7.out,rfl⟩
    | 10,_ =>
     refine ctp (hD _) (Fa.refl _) rfl rfl rfl fun x y c S yy g oo dd K hK=>?_
     obtain ⟨⟨t',qs',v1,v2,code,e7,-⟩,-⟩:=g.out 8 rfl
     have e1:x.tmps[22]?.getD undef=_:=ev_tmp e7
     have E7:=hidP e7
     clear g oo dd yy e7
     go_simp
     exact hK.out _ ⟨_,code,E7.out,rfl⟩
    | 11,_ =>
     refine ct rfl rfl rfl fun x y c S hc yy g oo dd K hK=>?_
     clear g oo
     go_simp
     have hb:Below y.heap.size y (y.alloc (.cells #[.int .i64 0,.slice none 0 0,.slice none 0 0] 26)):=bl_alloc bR _
     exact hK.out _ _ ⟨_,rfl,hZs c S y dd.out,BoxT.new (by simp) rfl⟩ ((hnx _).below yy.out dd.out hb) (Fa.below hb)
    | 12,_ =>
     refine ctn rfl rfl fun x y c S hc yy g oo dd K hK=>?_
     obtain ⟨X,e11,hX,hB⟩:=g.out 11 rfl
     obtain ⟨t',b1,n1,k1,b2',n2,k2,c9,-,e9⟩:=g.out 9 rfl
     refine wp_store_mid 26 _ _ rfl X 0 #[.int .i64 t',.slice b1 n1 k1,.slice b2' n2 k2] e11 e9 hB.there hinfo (by simp [Value.oneCell']) ?_
     have he:Ex X y (y.setCells X 0 [.int .i64 t',.slice b1 n1 k1,.slice b2' n2 k2]):=(Ex.refl _ _).cells _ _
     exact hK.out _ ⟨X,_,_,_,e11,e9,World.rangeAt_setCells_same y X 0 _ hB.there,hX,Nat.lt_of_lt_of_le (there_lt hB.there) he.size⟩ ⟨(dd.out.r.grown (W.ex_grown he) (fun k e=>by cases e; omega)).up (by omega),Ex.other dd.out.e he (by omega)⟩ ⟨X,_,t',hX,hB,rfl,rfl,rfl⟩
    | 13,_ =>
     refine ctp (hD _) (Fa.refl _) rfl rfl rfl fun x y c S yy g oo dd K hK=>?_
     obtain ⟨p,c9,-,e9⟩:=g.out 10 rfl
     have e1:x.tmps[32]?.getD undef=_:=ev_tmp e9
     have E9:=hidP e9
     clear g oo dd yy e9
     go_simp
     exact hK.out _ E9.out.symm
    | _+14,h=>exact absurd h (by show ¬ (_ < 14); omega)
   intro a y c hdf hsz hout hgood hc hE
   obtain ⟨⟨t3,qs3,v1,v2,code,e8,hL3,h03,hF3,ht3,hq4⟩,-⟩:=hgood 8 (by decide)
   obtain ⟨t4,b1,n1,k1,b2',n2,k2,c4,e8',e9⟩:=hgood 9 (by decide)
   obtain ⟨p5,c5,e8'',e10⟩:=hgood 10 (by decide)
   obtain ⟨X,x0,x1,x2,e11,e9',hrg,hX,hXl⟩:=hgood 12 (by decide)
   have e13:a.tmps.getD 6 undef=a.tmps.getD 32 undef:=hgood 13 (by decide)
   have e8:a.tmps.getD 22 undef=_:=e8
   have e8':a.tmps.getD 22 undef=_:=e8'
   have e8'':a.tmps.getD 22 undef=_:=e8''
   have e9:a.tmps.getD 31 undef=_:=e9
   have e9':a.tmps.getD 31 undef=_:=e9'
   have e10:a.tmps.getD 32 undef=_:=e10
   have e11:a.tmps.getD 5 undef=_:=e11
   rw [e8] at e8' e8''
   rw [e9] at e9'
   simp only [Value.tuple.injEq,Value.agg.injEq,Value.int.injEq,Array.mk.injEq,List.cons.injEq,and_true,true_and] at e8' e8'' e9'
   obtain ⟨⟨rfl,rfl,rfl⟩,rfl⟩:=e8'
   obtain ⟨rfl,rfl⟩:=e8''
   obtain ⟨rfl,rfl,rfl⟩:=e9'
   rw [e10] at e13
   have D3:Hid (Db kr w.heap.size lb w (q2+200 * c) t' [] qs (.slice a1 0 c1) (.slice a2 qs.length c2) y):=D2.out.ex hE.e hE.r
   have HL3:Hid (LdO y (lb+1) [] qs3 (.slice b1 n1 k1) (.slice b2' n2 k2)):=hL3.low (by have:=D2.out.z; omega)
   have H03:=hidP h03
   have HF3:=hidP hF3
   have hcc:(c:Int)≤14:=by have:c≤14:=hc; omega
   have x0:=hrg 0 _ rfl
   have x1:=hrg 1 _ rfl
   have x2:=hrg 2 _ rfl
   simp only [Nat.zero_add] at x0 x1 x2
   clear hrg e8 e9 e10 hL3 h03 hF3 hE D2 HC MP
   obtain ⟨f,ha,hf,hf2⟩:=frameZ2 5 2 22 11 hdf hsz hout rfl
   have f0:f 0=_:=(hf 0 (by omega)).trans e11
   have f1:f 1=_:=(hf 1 (by omega)).trans e13
   clear hf hf2 hout hgood hdf hsz
   subst ha
   rw [show (List.range 2).map f=[f 0,f 1] from rfl,show (List.range 11).map (fun k=>f (2+k))=[f 2,f 3,f 4,f 5,f 6,f 7,f 8,f 9,f 10,f 11,f 12] from rfl,f0,f1]
   simp only [tkd,Nat.reduceAdd]
   clear f0 f1 e11 e13
   have T3:=hidP D3.out.f
   by_cases hc0:code=0
   ·
    subst hc0
    go_wp2_with (refine wpList_store_mid (by rfl) 26 _ _ (by rfl) lb 0 #[.int .i64 t3,.slice b1 n1 k1,.slice b2' n2 k2] (by rfl) (by rfl) (by exact T3.out) hinfo (by simp [Value.oneCell']) ?_)
    refine ⟨⟨k+1,t3,qs3,_,_,by omega,by go_num,by omega,(D3.out.lay HL3.out (OGz.of HL3.out.g H03.out) HF3.out hq4).up (by omega)⟩,by simp [intOf]; omega⟩
   have hc1:¬ (code=0):=hc0
   go_wp2_with fail
   exact ⟨⟨k+1,t',qs,_,_,by omega,by go_num,ht',D3.out.up (by omega)⟩,by simp [intOf]; omega⟩
  have hki:¬ ((k:Int) < 3):=by omega
  have hk3:k=3:=by omega
  subst hk3
  have HD2:Hid (Db kr w.heap.size lb w (q+30000) t' [] qs s1 s2 wr):=HD.out.up (by omega)
  clear HD HD0
  go_wp2_with fail
  go_loopw [7] (fun i wx=>∃ (k:Nat) (gs:List G.GrantD) (s1:Value),k≤3∧i=.int .i64 (k:Int)∧gs.length≤k∧Hid (Db kr w.heap.size lb w (q+30000+9000 * k) t' gs qs s1 s2 wx)) (fun i _=>3 - (intOf i).toNat)
  case atStart=>exact ⟨0,[],s1,by omega,rfl,by simp,HD2.out.up (by omega)⟩
  obtain ⟨k,gs,v1,hk,rfl,hgk,HE⟩:=hrel
  by_cases hlt:k < 3
  ·
   have hki:(k:Int) < 3:=by omega
   go_wp2_with fail
   refine (pickQ kr _ 2 _ HE.out.r (by omega) (by omega) (by omega)).mono ?_
   rintro e w3 ⟨m2,rfl,m20,m21,r2,e2⟩
   obtain ⟨q3,hq3⟩:∃ q3,q3=q+30000+9000 * (k:Int)+1:=⟨_,rfl⟩
   have D3:Hid (Db kr w.heap.size lb w q3 t' gs qs v1 s2 w3):=by rw [hq3]; exact HE.out.ex e2 r2
   clear r2 e2 HE
   by_cases hm:m2=0
   ·
    subst hm
    obtain ⟨z1,z2,z3,z4⟩:=D3.out.z
    have HC:Hid (∀ y,Ex kr w3 y→y.cell? ⟨lb,0,none⟩=some (.int .i64 t')∧y.cell? ⟨lb,1,none⟩=some v1∧y.cell? ⟨lb,2,none⟩=some s2):=fun y hy=>D3.out.cx hy
    have HX:Hid (∀ y,Ex kr w3 y→LdO y (lb+1) gs qs v1 s2∧OGz (lb+1) gs y v1):=fun y hy=>⟨D3.out.lx hy,D3.out.gx hy⟩
    have hgl:gs.length≤1000:=by omega
    have hk3:k < 3:=hlt
    obtain ⟨Z,hZ⟩:∃ Z,Z=w3.heap.size:=⟨_,rfl⟩
    have hD:∀ i c S y,Da kr q3 w w3 w.heap.size lb t' v1 s2 25 27 c S y→Da kr q3 w w3 w.heap.size lb t' v1 s2 25 27 (c+1) (sset S i) y:=fun i c S y h=>h.up
    have hnx:∀ {ops:Array Oper} i,Nx kr q3 ops (Da kr q3 w w3 w.heap.size lb t' v1 s2 25 27) i:=fun i=>Da.nx D3.out.z i
    have hZs:∀ c S y,Da kr q3 w w3 w.heap.size lb t' v1 s2 25 27 c S y→Z≤y.heap.size:=fun c S y h=>by rw [hZ]; exact h.s
    have hRx:∀ i,i≠25→i≠27→∀ y,Fd kr lb 25 27 v1.ownBlock i y y:=fun i h1 h2 y=>by unfold Fd; rw [if_neg h1,if_neg h2]; exact Ex.refl _ _
    have hFx:∀ i,i≠25→i≠27→∀ y y',Ex kr y y'→Fd kr lb 25 27 v1.ownBlock i y y':=fun i h1 h2 y y' h=>by unfold Fd; rw [if_neg h1,if_neg h2]; exact h
    have hq1:q3+200 * (L13a.length:Int) < 1000000:=by show q3+200 * ((28:Nat):Int) < 1000000; omega
    go_wp2_with fail
    refine wp_region_any (by kernel_rfl) ?_
    refine reg_invZ L13a (G13a Z kr lb k t' gs qs v1 s2) (Da kr q3 w w3 w.heap.size lb t' v1 s2 25 27) (Fd kr lb 25 27 v1.ownBlock) (by kernel_rfl) (fun i j y y' V S hne hY hj hf h=>G13a.keep (by omega) (by omega) (fun g hg=>by rw [hZ]; exact (D3.out.l.g.lt g hg).2) hf j hne (fun e1 e2=>by subst e1 e2; have:=hY.tr 27 25 rfl hj; rw [hY.n] at this; cases this) h) ?_ ?ct2 ?done2
    · exact ⟨(D3.out.r.below bD).up (by omega),D3.out.e.trans (Ex.of_below bD),there_keep2 D3.out.b (by omega) bD,bD.size,fun _=>Ex.of_below bD,fun _=>⟨range_off D3.out.c (Off.of_below (P:=fun _=>False) bD) (by omega) id,there_keep2 D3.out.f (by omega) bD⟩⟩
    case ct2 =>
     intro i hi
     match i,hi with
     | 0,_ =>
      refine ctp (hD _) (hRx _ (by decide) (by decide)) rfl rfl rfl fun x y c S yy g oo dd K hK=>?_
      have o3:x.tmps[3]?.getD undef=.pointer (some ⟨lb,0,none⟩):=ev_tmp (oo.out 3 rfl)
      clear g oo dd yy
      go_simp
      exact hK.out _ rfl
     | 1,_ =>
      refine ctp (hD _) (hRx _ (by decide) (by decide)) rfl rfl rfl fun x y c S yy g oo dd K hK=>?_
      have e1:x.tmps[43]?.getD undef=_:=ev_tmp (g.out 0 rfl)
      obtain ⟨-,k1,-⟩:=HC.out y (dd.out.o (yy.out.no [1] 25 rfl rfl))
      clear g oo dd yy
      go_simp
      exact hK.out _ rfl
     | 2,_ =>
      exact ctTab (hnx _) hZs #[.string ⟨#[105,112]⟩,.string ⟨#[118,111,108]⟩,.string ⟨#[118,111,108,50]⟩] rfl rfl rfl (fun _ _=>by kernel_rfl) (txAll (m:=4) (by kernel_rfl)) (hFx _ (by decide) (by decide)) (fun _ _ h=>h)
     | 3,_ =>
      exact ctOut (hD _) (hRx _ (by decide) (by decide)) rfl rfl rfl rfl rfl rfl (fun _ _ e=>e)
     | 4,_ =>
      exact ctIxS (hD _) (hRx _ (by decide) (by decide)) 2 3 rfl rfl rfl rfl rfl rfl rfl rfl (fun _ _ h=>h) (fun _ _ h=>⟨k,h,hk3⟩) (fun _ _ h=>h)
     | 5,_ =>
      exact ctLdS (hD _) (hRx _ (by decide) (by decide)) 4 rfl rfl rfl rfl rfl rfl (fun _ _ h=>h) (fun _ _ h=>h)
     | 6,_ =>
      exact ctTab (hnx _) hZs #[.string ⟨#[97]⟩,.string ⟨#[98]⟩] rfl rfl rfl (fun _ _=>by kernel_rfl) (txAll (m:=4) (by kernel_rfl)) (hFx _ (by decide) (by decide)) (fun _ _ h=>h)
     | 7,_ =>
      exact ctOut (hD _) (hRx _ (by decide) (by decide)) rfl rfl rfl rfl rfl rfl (fun _ _ e=>e)
     | 8,_ =>
      exact ctPick (hnx _) 2 (by omega) (by omega) hq1 7 rfl rfl rfl rfl rfl rfl (fun _ _ h=>h) (hFx _ (by decide) (by decide)) (fun _ _ h=>h)
     | 9,_ =>
      exact ctIxS (hD _) (hRx _ (by decide) (by decide)) 6 8 rfl rfl rfl rfl rfl rfl rfl rfl (fun _ _ h=>h) (fun _ _ h=>nm_nat h (by omega) (by omega)) (fun _ _ h=>h)
     | 10,_ =>
      exact ctLdS (hD _) (hRx _ (by decide) (by decide)) 9 rfl rfl rfl rfl rfl rfl (fun _ _ h=>h) (fun _ _ h=>h)
     | 11,_ =>
      exact ctOut (hD _) (hRx _ (by decide) (by decide)) rfl rfl rfl rfl rfl rfl (fun _ _ e=>e)
     | 12,_ =>
      exact ctPick (hnx _) 4 (by omega) (by omega) hq1 11 rfl rfl rfl rfl rfl rfl (fun _ _ h=>h) (hFx _ (by decide) (by decide)) (fun _ _ h=>h)
     | 13,_ =>
      exact ctDec (hnx _) 12 rfl rfl rfl rfl rfl rfl (fun _ _ h=>nm_up h) (hFx _ (by decide) (by decide)) (fun _ _ h=>h)
     | 14,_ =>
      refine ctp (hD _) (hRx _ (by decide) (by decide)) rfl rfl rfl fun x y c S yy g oo dd K hK=>?_
      obtain ⟨s,e1,hs⟩:=g.out 13 rfl
      have e1:x.tmps[56]?.getD undef=_:=ev_tmp e1
      have hsz:¬ (9223372036854775807 < 1+s.size):=by omega
      clear g oo dd yy
      go_simp
      exact hK.out _ ⟨_,rfl,tx_c hs⟩
     | 15,_ =>
      exact ctOut (hD _) (hRx _ (by decide) (by decide)) rfl rfl rfl rfl rfl rfl (fun _ _ e=>e)
     | 16,_ =>
      exact ctPick (hnx _) 40 (by omega) (by omega) hq1 15 rfl rfl rfl rfl rfl rfl (fun _ _ h=>h) (hFx _ (by decide) (by decide)) (fun _ _ h=>h)
     | 17,_ =>
      exact ctOut (hD _) (hRx _ (by decide) (by decide)) rfl rfl rfl rfl rfl rfl (fun _ _ e=>e)
     | 18,_ =>
      refine ctp (hD _) (hRx _ (by decide) (by decide)) rfl rfl rfl fun x y c S yy g oo dd K hK=>?_
      have o3:x.tmps[3]?.getD undef=.pointer (some ⟨lb,0,none⟩):=ev_tmp (oo.out 3 rfl)
      clear g oo dd yy
      go_simp
      exact hK.out _ rfl
     | 19,_ =>
      refine ctp (hD _) (hRx _ (by decide) (by decide)) rfl rfl rfl fun x y c S yy g oo dd K hK=>?_
      have e1:x.tmps[61]?.getD undef=_:=ev_tmp (g.out 18 rfl)
      obtain ⟨k1,-,-⟩:=HC.out y (dd.out.o (yy.out.no [24,23,22,21,20,19] 25 rfl rfl))
      clear g oo dd yy
      go_simp
      exact hK.out _ rfl
     | 20,_ =>
      refine ctp (hD _) (hRx _ (by decide) (by decide)) rfl rfl rfl fun x y c S yy g oo dd K hK=>?_
      have e1:x.tmps[62]?.getD undef=_:=ev_tmp (g.out 19 rfl)
      have iw:IntKind.i64.wrap (t'+32)=t'+32:=by rw [IntKind.wrap_i64]; omega
      clear g oo dd yy
      go_simp
      exact hK.out _ rfl
     | 21,_ =>
      refine ctp (hD _) (hRx _ (by decide) (by decide)) rfl rfl rfl fun x y c S yy g oo dd K hK=>?_
      have e1:x.tmps[63]?.getD undef=_:=ev_tmp (g.out 20 rfl)
      have iw:IntKind.i64.wrap (t'+32+1)=t'+32+1:=by rw [IntKind.wrap_i64]; omega
      clear g oo dd yy
      go_simp
      exact hK.out _ rfl
     | 22,_ =>
      refine ct rfl rfl rfl fun x y c S hc yy g oo dd K hK=>?_
      have e1:x.tmps[60]?.getD undef=_:=ev_tmp (g.out 17 rfl)
      have e2:x.tmps[64]?.getD undef=_:=ev_tmp (g.out 21 rfl)
      clear g oo
      go_simp
      refine (pickQ kr _ (t'+32+1) y dd.out.r (by have h9:c < 28:=hc; omega) (by omega) (by omega)).mono ?_
      rintro e y' ⟨m,rfl,m0,m1,r,ex⟩
      exact hK.out _ _ ⟨m,rfl⟩ ((hnx _).ex c S y y' 1 yy.out dd.out r (by omega) ex) ((hFx _ (by decide) (by decide)) _ _ ex)
     | 23,_ =>
      refine ctp (hD _) (hRx _ (by decide) (by decide)) rfl rfl rfl fun x y c S yy g oo dd K hK=>?_
      obtain ⟨h,e1,h1⟩:=g.out 5 rfl
      obtain ⟨b,e2,h2⟩:=g.out 10 rfl
      obtain ⟨c',e3,h3⟩:=g.out 14 rfl
      obtain ⟨z,e4,-,-⟩:=g.out 16 rfl
      obtain ⟨u,e5⟩:=g.out 22 rfl
      have e1:x.tmps[48]?.getD undef=_:=ev_tmp e1
      have e2:x.tmps[53]?.getD undef=_:=ev_tmp e2
      have e3:x.tmps[57]?.getD undef=_:=ev_tmp e3
      have e4:x.tmps[59]?.getD undef=_:=ev_tmp e4
      have e5:x.tmps[65]?.getD undef=_:=ev_tmp e5
      clear g oo dd yy
      go_simp
      exact hK.out _ ⟨⟨h,b,c',z,u⟩,rfl,h1,h2,h3⟩
     | 24,_ =>
      refine ct rfl rfl rfl fun x y c S hc yy g oo dd K hK=>?_
      obtain ⟨g1,e1,h1⟩:=g.out 23 rfl
      have e1:x.tmps[66]?.getD undef=_:=ev_tmp e1
      have hb:=bld1G g1
      clear g oo
      go_simp
      have hbl:Below y.heap.size y (y.alloc (.cells g1.cells.toArray 40)):=bl_alloc bR _
      exact hK.out _ _ ⟨_,g1,rfl,hZs c S y dd.out,heap_newZ y _,h1⟩ ((hnx _).below yy.out dd.out hbl) ((hFx _ (by decide) (by decide)) _ _ (Ex.of_below hbl))
     | 25,_ =>
      refine ct rfl rfl rfl fun x y c S hc yy g oo dd K hK=>?_
      have e1:=g.out 1 rfl
      obtain ⟨b,g1,e2,hb1,hb2,hs1⟩:=g.out 24 rfl
      have hE:=dd.out.o yy.out.n
      refine wpAppG (.tmp 44) (.tmp 67) rfl e1 (HX.out y hE).2 e2 (blk_cells hb2) hgl (by have:=dd.out.s; omega) ?_
      intro v' y' o1 g9 hat
      have hl:=(HX.out y hE).1.appG o1 g9 hat
      have hrow:∀ k,v1.ownBlock=some k→lb < k:=fun k e=>((HX.out y hE).1.g.lt k e).1
      have hof:Off (fun j=>v1.ownBlock=some j) y y':=Off.of_grown g9 (fun j e=>e)
      refine hK.out _ _ ⟨g1,hs1,hl,o1⟩ ⟨(dd.out.r.grown g9 (fun k e=>by have:=hrow k e; omega)).up (by omega),dd.out.e.grown g9 (fun k e=>by have:=hrow k e; omega),there_off dd.out.b hof (by have:=dd.out.s; omega) (fun e=>by have:=hrow _ e; omega),Nat.le_trans dd.out.s g9.size,(fun e=>by simp [sset] at e),fun e=>?_⟩ ?_
      ·
       obtain ⟨h1,h2⟩:=dd.out.l (sset_no e)
       exact ⟨range_off h1 hof (by have:=dd.out.s; omega) (fun e=>by have:=hrow _ e; omega),there_off h2 hof (by have:=dd.out.s; omega) (fun e=>by have:=hrow _ e; omega)⟩
      show Fd _ _ _ _ _ _ _ _
      unfold Fd
      rw [if_pos rfl]
      exact g9
     | 26,_ =>
      refine ctp (hD _) (hRx _ (by decide) (by decide)) rfl rfl rfl fun x y c S yy g oo dd K hK=>?_
      have o3:x.tmps[3]?.getD undef=.pointer (some ⟨lb,0,none⟩):=ev_tmp (oo.out 3 rfl)
      clear g oo dd yy
      go_simp
      exact hK.out _ rfl
     | 27,_ =>
      refine ctn rfl rfl fun x y c S hc yy g oo dd K hK=>?_
      obtain ⟨g1,hs1,hl,ho⟩:=g.out 25 rfl
      obtain ⟨av,cv,hv⟩:=OG.shape ho
      rw [show (gs++[g1]).length=gs.length+1 by simp] at hv
      have e25:x.tmps[68]?.getD undef=_:=ev_tmp hv
      have e26:x.tmps[69]?.getD undef=_:=ev_tmp (g.out 26 rfl)
      rw [hv] at hl ho
      obtain ⟨k9,f9⟩:=dd.out.l yy.out.n
      have c1:=k9 1 _ rfl
      rw [Nat.zero_add] at c1
      have f1:y.frozen? ⟨lb,1,none⟩=false:=by simpa using (f9 1 (by omega)).2
      have h25:=yy.out.l 25 rfl
      have HL:=hidP hl
      have HO:=hidP ho
      have HK9:Hid (y.rangeAt lb 0 [_,_,_]∧y.there lb 0 3):=⟨k9,f9⟩
      clear g oo hl ho hv k9 f9
      go_simp
      have he:Ex lb y (y.setCell ⟨lb,1,none⟩ (.slice av (gs.length+1) cv)):=(Ex.refl _ _).set _ _
      have hfa:Fa (lb+1) y (y.setCell ⟨lb,1,none⟩ (.slice av (gs.length+1) cv)):=Fa.ex he (by omega)
      have hs:=dd.out.s
      refine hK.out _ ⟨g1,_,hs1,HL.out.fa hfa,OG.fa HO.out hfa,range_set1 HK9.out.1,World.there_setCells HK9.out.2 lb 1 [.slice av (gs.length+1) cv]⟩ ⟨(dd.out.r.grown (W.ex_grown he) (fun k e=>by cases e; omega)).up (by omega),Ex.other dd.out.e he (by omega),there_ex dd.out.b (by omega) he (by omega),Nat.le_trans hs he.size,(fun e=>by have:=sset_no e; rw [h25] at this; cases this),fun e=>by simp [sset] at e⟩ ?_
      show Fd _ _ _ _ _ _ _ _
      unfold Fd
      rw [if_neg (by decide),if_pos rfl]
      exact ⟨1,_,rfl⟩
     | _+28,h=>exact absurd h (by show ¬ (_ < 28); omega)
    intro a y c hdf hsz hout hgood hc hE
    obtain ⟨g1,v2,hs1,hl,ho,hrg,hth⟩:=hgood 27 (by decide)
    have hcc:(c:Int)≤28:=by have:c≤28:=hc; omega
    have hs:=hE.s
    have D4:Hid (Db kr w.heap.size lb w (q3+200 * c) t' (gs++[g1]) qs v2 s2 y):=⟨hrg,hth,hE.b,hl,Or.inl ho,fit_app D3.out.h hs1 hgl,D3.out.p4,hE.r,hE.e,z1,z2,z3,by omega⟩
    clear hrg hth hl ho hE HC HX D3
    obtain ⟨f,ha,hf⟩:=frameZ 43 27 hdf hsz hout rfl
    clear hf hout hgood hdf hsz
    subst ha
    rw [show (List.range 27).map f=[f 0,f 1,f 2,f 3,f 4,f 5,f 6,f 7,f 8,f 9,f 10,f 11,f 12,f 13,f 14,f 15,f 16,f 17,f 18,f 19,f 20,f 21,f 22,f 23,f 24,f 25,f 26] from rfl]
    simp only [tkd,Nat.reduceAdd]
    go_wp2_with fail
    exact ⟨⟨k+1,gs++[g1],v2,by omega,by go_num,by simp; omega,D4.out.up (by omega)⟩,by simp [intOf]; omega⟩
   have hm':¬ (m2=0):=hm
   go_wp2_with fail
   exact ⟨⟨k+1,gs,v1,by omega,by go_num,by omega,D3.out.up (by omega)⟩,by simp [intOf]; omega⟩
  have hki:¬ ((k:Int) < 3):=by omega
  obtain ⟨n,hn⟩:∃ n,n=gs.length:=⟨_,rfl⟩
  obtain ⟨a1,c1,hs1⟩:=G.Sl.shape HE.out.l.g
  obtain ⟨a2,c2,hs2⟩:=Pr.Sl.shape HE.out.l.p.o
  rw [List.length_map] at hs2
  rw [← hn] at hs1
  subst hs1 hs2
  have hn3:n≤3:=by omega
  have HN:=hidP hn
  clear hn
  have HE2:Hid (Db kr w.heap.size lb w (q+60000) t' gs qs (.slice a1 n c1) (.slice a2 qs.length c2) wr):=HE.out.up (by omega)
  clear HE
  have hq4:qs.length≤4:=HE2.out.p4.1
  have ti:=HE2.out.cs
  go_wp2_with fail
  go_loopw [8] (fun i wx=>∃ (k:Nat) (gs:List G.GrantD),k≤n∧i=.int .i64 (k:Int)∧Hid (n=gs.length)∧Hid (Db kr w.heap.size lb w (q+60000+6000 * k) t' gs qs (.slice a1 n c1) (.slice a2 qs.length c2) wx)) (fun i _=>n - (intOf i).toNat)
  case atStart=>exact ⟨0,gs,by omega,rfl,HN.out,HE2.out.up (by omega)⟩
  obtain ⟨i,gs,hi,rfl,hn,HF⟩:=hrel
  obtain ⟨l0,l1,l2⟩:=HF.out.cs
  by_cases hlt:i < n
  ·
   have hii:(i:Int) < (n:Int):=by omega
   go_wp2_with fail
   obtain ⟨g,r0,rfl,-⟩:=HF.out.row (i:=i) (by have:=hn.out; omega)
   clear l0 l1 l2 HE2 ti
   go_loopw [9] (fun kx wx=>∃ (k:Nat) (gs:List G.GrantD),k≤qs.length∧kx=.int .i64 (k:Int)∧Hid (n=gs.length)∧Hid (Db kr w.heap.size lb w (q+60000+6000 * i+1000 * k) t' gs qs (.slice (some ⟨g,0,none⟩) n c1) (.slice a2 qs.length c2) wx)) (fun kx _=>qs.length - (intOf kx).toNat)
   case atStart=>exact ⟨0,gs,by omega,rfl,hn.out,HF.out.up (by omega)⟩
   obtain ⟨k,gs,hk,rfl,hn,HG⟩:=hrel
   obtain ⟨l0,l1,l2⟩:=HG.out.cs
   by_cases hlt:k < qs.length
   ·
    have hkk:(k:Int) < (qs.length:Int):=by omega
    go_wp2_with fail
    refine (pickQ kr _ 4 _ HG.out.r (by omega) (by omega) (by omega)).mono ?_
    rintro e w4 ⟨m4,rfl,m40,m41,r4,e4⟩
    have D4:Hid (Db kr w.heap.size lb w (q+60000+6000 * i+1000 * k+1) t' gs qs (.slice (some ⟨g,0,none⟩) n c1) (.slice a2 qs.length c2) w4):=HG.out.ex e4 r4
    clear r4 e4 HG l0 l1 l2
    by_cases hm:m4=0
    ·
     subst hm
     go_wp2_with fail
     exact ⟨⟨i+1,gs,by omega,by go_num,hn.out,D4.out.up (by omega)⟩,by simp [intOf]; omega⟩
    have hm':0 < m4:=by omega
    obtain ⟨pg,p,rfl,hp,-⟩:=D4.out.l.p.at hlt
    have HP:=hidP hp
    have hpw:p.ws.length≤1048576:=D4.out.h.ln p (List.mem_of_getElem? hp)
    clear hp
    go_wp2_with fail
    go_loopw [10] (fun jx wx=>∃ (j:Nat) (gs:List G.GrantD),j≤p.ws.length∧jx=.int .i64 (j:Int)∧Hid (n=gs.length)∧Hid (Db kr w.heap.size lb w (q+60000+6000 * i+1000 * k+1) t' gs qs (.slice (some ⟨g,0,none⟩) n c1) (.slice (some ⟨pg,0,none⟩) qs.length c2) wx)) (fun jx _=>p.ws.length - (intOf jx).toNat)
    case atStart=>exact ⟨0,gs,by omega,rfl,hn.out,D4.out⟩
    obtain ⟨j,gs,hj,rfl,hn,HJ⟩:=hrel
    obtain ⟨l0,l1,l2⟩:=HJ.out.cs
    obtain ⟨pg',p',ep,hp',-,-,pc0,pc2⟩:=HJ.out.l.p.at hlt
    cases ep
    rw [HP.out] at hp'
    cases hp'
    obtain ⟨r,hr⟩:∃ r,gs[i]?=some r:=⟨_,List.getElem?_eq_getElem (show i < gs.length by have:=hn.out; omega)⟩
    obtain ⟨gc0,gc1,gc2,gcf,-⟩:=HJ.out.cell hr
    have HR:=hidP hr
    have gf1:=gcf 1 (by omega)
    have gf2:=gcf 2 (by omega)
    clear hr gcf
    by_cases hlj:j < p.ws.length
    ·
     have hjj:(j:Int) < (p.ws.length:Int):=by omega
     obtain ⟨wg,x,hpa,hx,hwl,wc0,wc2⟩:=HJ.out.l.p.want HP.out hlj
     rw [hpa] at pc2
     have HX:=hidP hx
     clear hx hpa
     cases he:(x.h.toList == r.h.toList)
     ·
      go_wp2_with fail
      go_quiet (fail)
      go_wp2_with fail
      exact ⟨⟨j+1,gs,by omega,by go_num,hn.out,HJ.out.below (bl_drewN _ _)⟩,by simp [intOf]; omega⟩
     have J1:Hid (∀ y,Below wr.heap.size wr y→Db kr w.heap.size lb w (q+60000+6000 * i+1000 * k+1) t' (gs.set i ⟨r.h,p.b,r.c,r.t,r.u⟩) qs (.slice (some ⟨g,0,none⟩) n c1) (.slice (some ⟨pg,0,none⟩) qs.length c2) (y.setCell ⟨g,i * 5+1,none⟩ (.string p.b))):=fun y hy=>(HJ.out.below hy).putG HR.out rfl (by omega) ⟨(HJ.out.h.g r (List.mem_of_getElem? HR.out)).1,(HJ.out.h.p p (List.mem_of_getElem? HP.out)).1,(HJ.out.h.g r (List.mem_of_getElem? HR.out)).2.2⟩
     have hxf:=(HJ.out.h.p p (List.mem_of_getElem? HP.out)).2 x (List.mem_of_getElem? HX.out)
     have hi':i < gs.length:=by have:=hn.out; omega
     go_wp2_with fail
     go_quiet (fail)
     go_wp2_with fail
     go_region
     have j2:=J1.out _ (bl_drewN wr (nq+1))
     obtain ⟨W2,hW2⟩:∃ W2,W2=(wr.drewN (nq+1)).setCell ⟨g,i * 5+1,none⟩ (.string p.b):=⟨_,rfl⟩
     rw [← hW2] at j2 ⊢
     have J2:=hidP j2
     clear j2 J1 hW2 l0 l1 l2 pc0 pc2 gc0 gc1 gc2 gf1 gf2 wc0 wc2 hwl HJ
     obtain ⟨l0,l1,l2⟩:=J2.out.cs
     obtain ⟨pg',p',ep,hp',-,-,pc0,pc2⟩:=J2.out.l.p.at hlt
     cases ep
     rw [HP.out] at hp'
     cases hp'
     have HR2:Hid ((gs.set i ⟨r.h,p.b,r.c,r.t,r.u⟩)[i]?=some ⟨r.h,p.b,r.c,r.t,r.u⟩):=List.getElem?_set_self hi'
     obtain ⟨gc0,gc1,gc2,gcf,-⟩:=J2.out.cell HR2.out
     have gf2:=gcf 2 (by omega)
     obtain ⟨wg',x',hpa,hx',hwl,wc0,wc2⟩:=J2.out.l.p.want HP.out hlj
     rw [HX.out] at hx'
     cases hx'
     rw [hpa] at pc2
     have J3:Hid (∀ y,Below W2.heap.size W2 y→Db kr w.heap.size lb w (q+60000+6000 * i+1000 * k+1) t' ((gs.set i ⟨r.h,p.b,r.c,r.t,r.u⟩).set i ⟨r.h,p.b,x.c,r.t,r.u⟩) qs (.slice (some ⟨g,0,none⟩) n c1) (.slice (some ⟨pg,0,none⟩) qs.length c2) (y.setCell ⟨g,i * 5+2,none⟩ (.string x.c))):=fun y hy=>(J2.out.below hy).putG HR2.out rfl (by omega) ⟨(J2.out.h.g _ (List.mem_of_getElem? HR2.out)).1,(J2.out.h.g _ (List.mem_of_getElem? HR2.out)).2.1,hxf.1⟩
     clear gcf hpa hxf
     go_wp2_with fail
     go_region
     go_wp2_with fail
     exact ⟨⟨j+1,_,by omega,by go_num,by rw [List.length_set,List.length_set]; exact hn.out,(J3.out W2 bR).below bD⟩,by simp [intOf]; omega⟩
    have hjj:¬ ((j:Int) < (p.ws.length:Int)):=by omega
    go_wp2_with fail
    exact ⟨⟨k+1,gs,by omega,by go_num,hn.out,HJ.out.up (by omega)⟩,by simp [intOf]; omega⟩
   have hkk:¬ ((k:Int) < (qs.length:Int)):=by omega
   go_wp2_with fail
   exact ⟨⟨i+1,gs,by omega,by go_num,hn.out,HG.out.up (by omega)⟩,by simp [intOf]; omega⟩
  have hii:¬ ((i:Int) < (n:Int)):=by omega
  have TB:=hidP HF.out.b
  go_wp2_with (refine wpList_store_mid (by rfl) 26 _ _ (by rfl) w.heap.size 0 #[.int .i64 t',.slice a1 n c1,.slice a2 qs.length c2] (by rfl) (by rfl) (by exact TB.out) hinfo (by simp [Value.oneCell']) ?_)
  have hx:Ex w.heap.size wr (World.setCells wr w.heap.size 0 [.int .i64 t',.slice a1 n c1,.slice a2 qs.length c2]):=(Ex.refl _ _).cells _ _
  have hof:=off_of_ex hx
  have RG:=World.rangeAt_setCells_same wr w.heap.size 0 [.int .i64 t',.slice a1 n c1,.slice a2 qs.length c2] TB.out
  have d0:=RG 0 _ rfl
  have d1:=RG 1 _ rfl
  have d2:=RG 2 _ rfl
  simp only [Nat.zero_add] at d0 d1 d2
  obtain ⟨z1,z2,z3,z4⟩:=HF.out.z
  refine bodyPost_ret (v:=.agg #[.int .i64 t',.slice a1 n c1,.slice a2 qs.length c2]) (by simp [results,Tryz.results45,go_sem,d0,d1,d2]) rfl ⟨t',gs,qs,_,_,rfl,(HF.out.l.off hof (fun g hg e=>by have:=(HF.out.l.lt g hg).1; omega)).low (by omega), ?_,HF.out.h,by have:=hn.out; omega,HF.out.p4,ht',(HF.out.r.grown (W.ex_grown hx) (fun k e=>by cases e; omega)).up (by omega),Ex.other HF.out.e hx (Nat.le_refl _)⟩
  refine (HF.out.g.grown (W.ex_grown hx) ?_).imp (fun h=>owns_low h (by omega)) id
  cases hv:(Value.slice a1 n c1).ownBlock with
  | none=>exact Or.inl rfl
  | some g=>exact Or.inr (fun e=>by have h1:=(HF.out.l.g.lt g hv).1; have h2:=Option.some.inj e; omega)
end Go.Proofs.YtcjhlhijdacinaaGreatDoor
