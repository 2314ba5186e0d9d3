import Derived.Test.YtcjhlhijdacinaaGreatDoorJ16
import Derived.Test.YtcjhlhijdacinaaGreatDoorJ21
import Derived.Test.YtcjhlhijdacinaaGreatDoorJ10
import Derived.Test.YtcjhlhijdacinaaGreatDoorJ05
import Derived.Deep.RegionHeld3
import Derived.Laws.Pointers
import Derived.StillTactics
import Derived.Test.YtcjhlhijdacinaaGreatDoorJ04
import Derived.Test.YtcjhlhijdacinaaGreatDoorJ20
import Derived.Test.YtcjhlhijdacinaaGreatDoorJ19
namespace Go.Proofs.YtcjhlhijdacinaaGreatDoor
open Go.RowKit
set_option linter.unusedVariables false
def Ws (Z:Nat) (y:World) (v:Value):Prop:=∃ ws,W.Ow y v ws Z∧ws.length≤4∧∀ x∈ws,x.fits
theorem W.Ow.fb {T:TypeId} {Z:Nat} {y y':World} {v:Value} {l:List W.WantD} (h:W.Ow y v l Z) (hT:56≠T) (hF:Fb T Z y y'):W.Ow y' v l Z :=
 ⟨h.1,h.2.imp id (fun ⟨g,cap,cur,h1,h2,h3,h4⟩=>⟨g,cap,cur,h1,h2,by rw [hF.block h2 hT ⟨cur,_,h3⟩]; exact h3,h4⟩)⟩
theorem Ws.keep {T:TypeId} {Z:Nat} {y y':World} {v:Value} (h:Ws Z y v) (hT:56≠T) (hF:Fb T Z y y'):Ws Z y' v:=by
 obtain ⟨ws,h1,h2⟩:=h
 exact ⟨ws,h1.fb hT hF,h2⟩
theorem G.Sl.box {X B:Nat} {m:Int} {y y':World} {v:Value} {l:List G.GrantD} (h:G.Sl y v l B) (he:Ex X y y') (hc:y.cell? ⟨X,0,none⟩=some (.int .i64 m)):G.Sl y' v l B:=by
 rcases id h with h' | ⟨g,cap,rfl,h1,h2,h3,h4⟩
 · exact Or.inl h'
 cases l with
 | nil=>exact Or.inr ⟨g,cap,rfl,h1,Nat.lt_of_lt_of_le h2 he.size,fun k r hk=>by simp at hk,fun j hj=>absurd hj (by simp)⟩
 | cons r l =>
  refine h.off (off_of_ex he) (fun g' e hg=>?_)
  cases e
  have hg:g=X:=hg
  have:=(h3.at (k:=0) (r:=r) rfl).1
  rw [hg] at this
  cases hc.symm.trans this
theorem Pr.Sl.box {X B:Nat} {m:Int} {y y':World} {v:Value} {l:List Pr.PlRaw} (h:Pr.Sl y v l B) (he:Ex X y y') (hc:y.cell? ⟨X,0,none⟩=some (.int .i64 m)):Pr.Sl y' v l B:=by
 rcases id h with h' | ⟨g,cap,rfl,h1,h2,h3,h4⟩
 · exact Or.inl h'
 cases l with
 | nil=>exact Or.inr ⟨g,cap,rfl,h1,Nat.lt_of_lt_of_le h2 he.size,fun k r hk=>by simp at hk,fun j hj=>absurd hj (by simp)⟩
 | cons r l =>
  refine h.off (off_of_ex he) (fun g' e hg=>?_)
  cases e
  have hg:g=X:=hg
  have:=(h3.at (k:=0) (r:=r) rfl).1
  rw [hg] at this
  cases hc.symm.trans this
theorem W.Sl.box {X B:Nat} {m:Int} {y y':World} {v:Value} {l:List W.WantD} (h:W.Sl y v l B) (he:Ex X y y') (hc:y.cell? ⟨X,0,none⟩=some (.int .i64 m)):W.Sl y' v l B:=by
 rcases id h with h' | ⟨g,cap,rfl,h1,h2,h3,h4⟩
 · exact Or.inl h'
 cases l with
 | nil=>exact Or.inr ⟨g,cap,rfl,h1,Nat.lt_of_lt_of_le h2 he.size,fun k r hk=>by simp at hk,fun j hj=>absurd hj (by simp)⟩
 | cons r l =>
  refine h.off (off_of_ex he) (fun g' e hg=>?_)
  cases e
  have hg:g=X:=hg
  have:=(h3.at (k:=0) (r:=r) rfl).1
  rw [hg] at this
  cases hc.symm.trans this
theorem LdO.box {X B:Nat} {m:Int} {y y':World} {gs:List G.GrantD} {qs:List P.PlaceD} {s1 s2:Value} (h:LdO y B gs qs s1 s2) (he:Ex X y y') (hc:y.cell? ⟨X,0,none⟩=some (.int .i64 m)):LdO y' B gs qs s1 s2 :=
 ⟨h.g.box he hc,⟨h.p.o.box he hc,fun j q hq=>(h.p.k j q hq).box he hc,h.p.nr,h.p.dif,h.p.c⟩,h.gp⟩
theorem LdO.fa {Z:Nat} {y y':World} {gs:List G.GrantD} {qs:List P.PlaceD} {s1 s2:Value} (h:LdO y Z gs qs s1 s2) (hF:Fa Z y y'):LdO y' Z gs qs s1 s2 :=
 h.off hF (fun g hg hlt=>by have:=(h.lt g hg).1; omega)
theorem LdO.fb {T:TypeId} {Z:Nat} {y y':World} {gs:List G.GrantD} {qs:List P.PlaceD} {s1 s2:Value} (h:LdO y Z gs qs s1 s2) (hF:Fb T Z y y'):LdO y' Z gs qs s1 s2:=by
 rcases hF with hF | ⟨X,-,-,he,m,hc⟩
 · exact h.fa hF
 exact h.box he hc
def OGz (B:Nat) (gs:List G.GrantD) (y:World) (v:Value):Prop:=OG B gs y v∨gs=[]∧∃ g0,v=.slice (some ⟨g0,0,none⟩) 0 0
theorem OGz.of {B:Nat} {y:World} {v:Value} (h:G.Sl y v [] B) (h0:C0 [] v):OGz B [] y v:=by
 rcases h with ⟨rfl,-⟩ | ⟨g,cap,rfl,-⟩
 · exact Or.inl (World.ownsRow_nil _ _ _ _)
 have:cap=0:=h0 rfl _ _ _ rfl
 subst this
 exact Or.inr ⟨rfl,g,rfl⟩
theorem OGz.grown {B:Nat} {gs:List G.GrantD} {y y':World} {v:Value} {row:Option Nat} (h:OGz B gs y v) (hg:y.grownBy y' row) (hne:v.ownBlock=none∨v.ownBlock≠row):OGz B gs y' v :=
 h.imp (fun h=>OG.grown h hg hne) id
theorem OGz.keep {B:Nat} {gs:List G.GrantD} {y y':World} {v:Value} (h:OGz B gs y v) (hb:Below y.heap.size y y'):OGz B gs y' v:=h.imp (fun h=>h.keep hb) id
theorem wpAppG {o:Oper} {a:Act} {w:World} {K:Act→World→Prop} {Q:Exit→Act→World→Prop} {B:Nat} (s x:Operand) (ho:o.op=.call { callee:=.builtin .append,args:=#[s,x],argTypes:=#[23,23] })
  {gs:List G.GrantD} {g:G.GrantD} {v:Value} (hs:a.eval s=v) (hO:OGz B gs w v) {b:Nat} (hx:a.eval x=.slice (some ⟨b,0,none⟩) 1 1) (hc:∀ j u,g.cells[j]?=some u→w.cell? ((⟨b,0,none⟩:Addr).add j)=some u) (hl:gs.length≤1000) (hB:B≤w.heap.size)
  (h:∀ v' w',OG B (gs++[g]) w' v'→w.grownBy w' v.ownBlock→(v'.ownBlock=v.ownBlock∨∃ k,v'.ownBlock=some k∧w.heap.size≤k)→K (a.put o.dst v') w'):o.wp Tryz.prog a w K Q:=by
 obtain ⟨i0,hi,hz0,hz1,hz2⟩:=info_parts G.infoR
 rcases hO with hO | ⟨rfl,g0,rfl⟩
 ·
  refine wp_append_own_atP s x 23 ho B 40 i0 _ 5 64 Tryz.underlying23 hi hz0 hz1 hz2 rfl (by decide) v gs.length (G.flatR gs) hs hO ⟨b,0,none⟩ 1 1 g.cells hx rfl hc (G.cellsR_one g) (by unfold maxLen; omega) (by omega) hB ?_
  intro v' w' h1 h2 h3
  refine h v' w' ?_ h2 (h3.imp id (fun e=>⟨_,e,Nat.le_refl _⟩))
  unfold OG
  rw [G.flatR_snoc,List.length_append]
  exact h1
 ·
  obtain ⟨v',w',hr,h2,h3⟩:=run_append_arg_grows (P:=Tryz.prog) w 23 o.type 40 i0 _ 5 64 Tryz.underlying23 hi hz0 hz1 hz2 rfl (by decide) ⟨g0,0,none⟩ 0 0 [] (by simp) (fun j u hj=>by simp at hj) ⟨b,0,none⟩ 1 1 g.cells rfl hc (by omega) (by unfold maxLen; omega) (by omega)
  unfold Oper.wp execOp
  simp only [ho,resolve,invoke,builtin,Sem.run_bind,Sem.run_pure,Result.andThen_ok,List.map_toArray,List.map_cons,List.map_nil,hs,hx,hr]
  refine h v' w' (owns_low (B:=w.heap.size) ?_ hB) ⟨h3.os,h3.tape,h3.output,h3.size,fun k hk _=>h3.block k hk (by simp)⟩ (Or.inr ?_)
  · simpa [G.flatR] using h2
  obtain ⟨-,⟨rfl,h4⟩ | ⟨k,cap,cur,rfl,h4,-⟩⟩:=id h2
  · cases h4
  exact ⟨k,rfl,h4⟩
theorem LdO.appG {w w':World} {B:Nat} {gs gs':List G.GrantD} {qs:List P.PlaceD} {s1 s2 v:Value} (h:LdO w B gs qs s1 s2) (ho:OG B gs' w' v) (hg:w.grownBy w' s1.ownBlock) (hat:v.ownBlock=s1.ownBlock∨∃ k,v.ownBlock=some k∧w.heap.size≤k):LdO w' B gs' qs v s2:=by
 refine ⟨G.Sl.of_owns ho,h.p.off (X:=fun j=>s1.ownBlock=some j) (Off.of_grown hg (fun j e=>e)) (fun g hg e=>h.gp g e hg),fun g e=>?_⟩
 rcases hat with hat | ⟨k,hk,hlt⟩
 · rw [hat] at e; exact h.gp g e
 rw [hk] at e; cases e; intro hb; have:=(h.p.lt _ hb).2; omega
theorem G.flatR_cons (r:G.GrantD) (rs:List G.GrantD):G.flatR (r :: rs)=r.cells++G.flatR rs:=by simp [G.flatR]
theorem G.flatR_set:∀ (rs:List G.GrantD) (i j:Nat) (r r':G.GrantD) (v:Value),rs[i]?=some r→r'.cells=r.cells.set j v→j < 5→G.flatR (rs.set i r')=(G.flatR rs).set (i * 5+j) v
 | [],i,j,r,r',v,h,hc,hj=>by simp at h
 | q :: rs,0,j,r,r',v,h,hc,hj=>by
  simp at h; subst h
  rw [List.set_cons_zero,G.flatR_cons,G.flatR_cons,hc,Nat.zero_mul,Nat.zero_add,List.set_append_left _ _ (by show j < 5; exact hj)]
 | q :: rs,i+1,j,r,r',v,h,hc,hj=>by
  have ih:=G.flatR_set rs i j r r' v (by simpa using h) hc hj
  rw [List.set_cons_succ,G.flatR_cons,G.flatR_cons,ih,List.set_append_right _ _ (by show 5≤(i+1) * 5+j; omega)]
  congr 1
  show _=(G.flatR rs).set ((i+1) * 5+j - 5) v
  congr 1
  omega
theorem OG.put {x:World} {g n c B i j:Nat} {rs:List G.GrantD} {r r':G.GrantD} {v:Value} (h:OG B rs x (.slice (some ⟨g,0,none⟩) n c)) (hr:rs[i]?=some r) (hc:r'.cells=r.cells.set j v) (hj:j < 5):OG B (rs.set i r') (x.setCell ⟨g,i * 5+j,none⟩ v) (.slice (some ⟨g,0,none⟩) n c):=by
 have hn:n=rs.length:=by
  obtain ⟨a,p,e⟩:=OG.shape h
  cases e; rfl
 subst hn
 have hi:i < rs.length:=(List.getElem?_eq_some_iff.1 hr).1
 have h1:=owns_setQ h (i * 5+j) (by rw [G.flatR_len]; omega) v
 rw [← G.flatR_set rs i j r r' v hr hc hj] at h1
 unfold OG
 rw [List.length_set]
 exact h1
def BoxT (T:TypeId) (n:Nat) (y:World) (X:Nat):Prop:=(∃ cur,y.heap[X]?=some (.cells cur T (0,0))∧n≤cur.size)∧∃ m,y.cell? ⟨X,0,none⟩=some (.int .i64 m)
theorem BoxT.there {T:TypeId} {n X:Nat} {y:World} (h:BoxT T n y X):y.there X 0 n:=by
 obtain ⟨⟨cur,h1,h2⟩,-⟩:=h
 intro j hj
 refine ⟨?_, ?_⟩
 · simp [World.cell?,h1]; omega
 simp [World.frozen?,h1]
theorem heap_setCellsZ {T:TypeId} {X:Nat}:∀ (C:List Value) (o:Nat) (y:World) (cur:Array Value),y.heap[X]?=some (.cells cur T (0,0))→∃ cur',(y.setCells X o C).heap[X]?=some (.cells cur' T (0,0))∧cur'.size=cur.size
 | [],o,y,cur,h=>⟨cur,h,rfl⟩
 | v :: C,o,y,cur,h=>by
  obtain ⟨c',h1,h2⟩:=heap_setCellsZ C (o+1) (y.setCell ⟨X,o,none⟩ v) _ (heap_setCell_same y X o cur T v h)
  exact ⟨c',h1,by rw [h2]; simp⟩
def Fs (T:TypeId) (n Z:Nat) (y y':World):Prop:=∃ X C m,Z≤X∧BoxT T n y X∧C.length=n∧C[0]?=some (.int .i64 m)∧y'=y.setCells X 0 C
theorem Fs.fb {T:TypeId} {n Z:Nat} {y y':World} (h:Fs T n Z y y'):Fb T Z y y':=by
 obtain ⟨X,C,m,h1,⟨⟨cur,h2,-⟩,h3⟩,-,-,rfl⟩:=h
 exact Or.inr ⟨X,h1,⟨cur,_,h2⟩,(Ex.refl _ _).cells _ _,h3⟩
theorem BoxT.fs {T:TypeId} {n Z X:Nat} {y y':World} (h:BoxT T n y X) (hF:Fs T n Z y y'):BoxT T n y' X:=by
 obtain ⟨X',C,m,h1,h2,h3,h4,rfl⟩:=hF
 by_cases e:X=X'
 ·
  subst e
  obtain ⟨⟨cur,h5,h6⟩,h7⟩:=id h
  obtain ⟨c',h8,h9⟩:=heap_setCellsZ C 0 y cur h5
  refine ⟨⟨c',h8,by omega⟩,m, ?_⟩
  exact World.rangeAt_setCells_same y X 0 C (by rw [h3]; exact h.there) 0 _ h4
 obtain ⟨⟨cur,h5,h6⟩,m',h7⟩:=h
 have hb:(y.setCells X' 0 C).heap[X]?=y.heap[X]?:=((Ex.refl X' y).cells C 0).block X (some_lt h5) e
 exact ⟨⟨cur,hb.trans h5,h6⟩,m',(World.cell?_of_block (w:=y) (a:=⟨X,0,none⟩) hb).trans h7⟩
theorem BoxT.fa {T:TypeId} {n Z X:Nat} {y y':World} (h:BoxT T n y X) (hX:Z≤X) (hF:Fa Z y y'):BoxT T n y' X:=by
 obtain ⟨⟨cur,h5,h6⟩,m',h7⟩:=h
 have hb:=hF.block X (some_lt h5) (by omega)
 exact ⟨⟨cur,hb.trans h5,h6⟩,m',(World.cell?_of_block (w:=y) (a:=⟨X,0,none⟩) hb).trans h7⟩
theorem BoxT.new {T:TypeId} {n:Nat} {y:World} {C:Array Value} {m:Int} (hn:n≤C.size) (h:C[0]?=some (.int .i64 m)):BoxT T n (y.alloc (.cells C T)) y.heap.size :=
 ⟨⟨C,heap_newZ y _,hn⟩,m,by rw [← h]; simp [go_sem]⟩
theorem range_fa {Z X:Nat} {y y':World} {C:List Value} (h:y.rangeAt X 0 C) (hX:Z≤X) (hl:X < y.heap.size) (hF:Fa Z y y'):y'.rangeAt X 0 C:=fun j u hj=>(hF.cell (p:=⟨X,0+j,none⟩) hl (by show ¬ X < Z; omega)).trans (h j u hj)
section
variable {Q:Exit→Act→World→Prop} {L:List Nat} {ops:Array Oper} {a0:Act} {G:World→(Nat→Value)→Nat→Prop} {D:Nat→(Nat→Bool)→World→Prop} {F:Nat→World→World→Prop} {i d:Nat} {o:Oper}
theorem ctWants {kr Z s:Nat} {q:Int} (nx:Nx kr q ops D i) (hq:q+200 * L.length < 700000) (hZs:∀ c S y,D c S y→Z≤y.heap.size) {T:Array TypeId} (j:Nat) (ho:ops[i]?=some o) (hg:o.guard=none) (hd:o.dst=some d)
  (hop:o.op=.call { callee:=.value (.func 39),args:=#[.tmp s],argTypes:=T }) (hw:waits .any ops i j=true) (hs:slAt L j=s) (hj:∀ y V,G y V j→V j=.pointer (some ⟨kr,0,none⟩))
  (hF:∀ y y',Ex kr y y'→F i y y') (hG:∀ y V,Ws Z y (V i)→G y V i):Ct Tryz.prog Q L ops a0 G D F i :=
 ct ho hg hd (fun x y c S hc yy g oo dd K hK=>by
  have e1:x.tmps[s]?.getD undef=.pointer (some ⟨kr,0,none⟩):=ev_tmp (by
   have h:=hj _ _ (g.out j hw)
   rw [vr_own] at h
   unfold vals at h
   rw [hs] at h
   exact h)
  have H:=hidP hK
  have HD:=hidP dd
  have HY:=hidP yy
  have hcc:(c:Int) < (L.length:Int):=by omega
  clear hK g oo dd yy
  go_simp
  refine (wantsQ kr _ y (nx.rd c S y HY.out HD.out) (by omega)).mono ?_
  rintro e y' ⟨ws,v,rfl,o1,l1,f1,r,ex⟩
  have h9:=H.out _ _ (hG _ _ (by rw [vr_self]; exact ⟨ws,W.Ow.low (W.Ow.of_owns o1) (hZs c S y HD.out),l1,f1⟩)) (nx.ex c S y y' 100 HY.out HD.out r (by omega) ex) (hF _ _ ex)
  rw [put_some hd] at h9
  exact h9)
end
theorem rowPl {w:World} {g n cap B m:Nat} {l:List P.PlaceD} {q:P.PlaceD} (h:PlO w B l (.slice (some ⟨g,0,none⟩) n cap)) (hq:l[m]?=some q) :
  g < w.heap.size∧(w.cell? ⟨g,m * 3,none⟩=some (.string q.b)∧w.cell? ⟨g,m * 3+1,none⟩=some (.int .i64 q.s)∧w.cell? ⟨g,m * 3+2,none⟩=some (.slice q.a q.ws.length q.c))∧(w.frozen? ⟨g,m * 3,none⟩=false∧w.frozen? ⟨g,m * 3+1,none⟩=false∧w.frozen? ⟨g,m * 3+2,none⟩=false):=by
 obtain ⟨g',cap',hv,h1,h2,h3⟩:=h.o.row (show (l.map Pr.raw)[m]?=some (Pr.raw q) by rw [List.getElem?_map,hq]; rfl)
 injection hv with e1 e2 e3
 injection e1 with e1
 injection e1 with e1
 subst e1
 have hc:=h2 m _ (show (l.map Pr.raw)[m]?=some (Pr.raw q) by rw [List.getElem?_map,hq]; rfl)
 have c0:=hc 0 _ rfl
 have f0:=h3 0 (by omega)
 have c1:=hc 1 _ rfl
 have f1:=h3 1 (by omega)
 have c2:=hc 2 _ rfl
 have f2:=h3 2 (by omega)
 simp only [Nat.zero_add,Nat.add_zero] at c0 c1 c2 f0 f1 f2
 exact ⟨h1,⟨c0,c1,c2⟩,⟨f0,f1,f2⟩⟩
end Go.Proofs.YtcjhlhijdacinaaGreatDoor
namespace Go.Proofs.YtcjhlhijdacinaaGreatDoor.P
open Go.RowKit
set_option linter.unusedVariables false
theorem Fit.like {gs:List G.GrantD} {ps qs:List PlaceD} (h:Fit gs ps) (hs:Like qs ps):Fit gs qs:=by
 have get:∀ q∈qs,∃ p∈ps,q.b=p.b∧q.ws=p.ws:=fun q hq=>by
  obtain ⟨k,hk⟩:=List.getElem?_of_mem hq
  obtain ⟨p,hp,e1,e2,e3⟩:=hs.get hk
  exact ⟨p,List.mem_of_getElem? hp,e1,e3⟩
 refine ⟨h.g,fun q hq=>?_,h.gl,by rw [hs.len]; exact h.pl,fun q hq=>?_⟩
 ·
  obtain ⟨p,hp,e1,e2⟩:=get q hq
  rw [e1,e2]; exact h.p p hp
 obtain ⟨p,hp,e1,e2⟩:=get q hq
 rw [e2]; exact h.ln p hp
end Go.Proofs.YtcjhlhijdacinaaGreatDoor.P
namespace Go.Proofs.YtcjhlhijdacinaaGreatDoor
open Go.RowKit Go.Maps Go.WideMaps
set_option linter.unusedVariables false
theorem addr_add (g o n:Nat):(⟨g,o,none⟩:Addr).add n=⟨g,o+n,none⟩:=by
 unfold Addr.add
 split
 · subst_vars; rfl
 rfl
def Rst (w:World) (v:Value) (l:List Pr.PlRaw):Prop:=∃ a c,v=.slice a l.length c∧((a=none∧c=0∧l=[])∨∃ g o:Nat,a=some ⟨g,o,none⟩∧g < w.heap.size∧∀ j u,(Pr.flatR l)[j]?=some u→w.cell? ⟨g,o+j,none⟩=some u)
theorem Rst.keep {w w':World} {v:Value} {l:List Pr.PlRaw} (h:Rst w v l) (hb:Below w.heap.size w w'):Rst w' v l:=by
 obtain ⟨a,c,h1,h⟩:=h
 refine ⟨a,c,h1, ?_⟩
 rcases h with h | ⟨g,o,h2,h3,h4⟩
 · exact Or.inl h
 exact Or.inr ⟨g,o,h2,Nat.lt_of_lt_of_le h3 hb.size,fun j u hj=>(hb.cell (p:=⟨g,o+j,none⟩) h3).trans (h4 j u hj)⟩
theorem flat_cellsP {w:World} {g:Nat} {l:List Pr.PlRaw} (h:Pr.RowsAt w g 0 l):∀ j u,(Pr.flatR l)[j]?=some u→w.cell? ⟨g,j,none⟩=some u:=by
 intro j u hj
 have hlt:j < l.length * 3:=by
  rw [← Pr.flatR_len]
  exact (List.getElem?_eq_some_iff.1 hj).1
 have hk:j / 3 < l.length:=by omega
 have h1:=Pr.flatR_at l (j / 3) l[j / 3] (List.getElem?_eq_getElem hk) (j % 3) (by omega)
 rw [show j / 3 * 3+j % 3=j from by omega,hj] at h1
 have h2:=h (j / 3) l[j / 3] (List.getElem?_eq_getElem hk) (j % 3) u h1.symm
 rw [show 0+j / 3 * 3+j % 3=j from by omega] at h2
 exact h2
theorem flat_drop (l:List Pr.PlRaw) (k j:Nat):(Pr.flatR (l.drop k))[j]?=(Pr.flatR l)[k * 3+j]?:=by
 induction l generalizing k with
 | nil=>simp [Pr.flatR]
 | cons r l ih =>
  cases k with
  | zero=>simp
  | succ k =>
   rw [List.drop_succ_cons,ih k]
   show _=(r.cells++Pr.flatR l)[_]?
   rw [List.getElem?_append_right (by show 3≤_; omega)]
   show _=(Pr.flatR l)[(k+1) * 3+j - 3]?
   rw [show (k+1) * 3+j - 3=k * 3+j from by omega]
theorem flat_app (l m:List Pr.PlRaw):Pr.flatR (l++m)=Pr.flatR l++Pr.flatR m:=by simp [Pr.flatR]
theorem flat_take (l:List Pr.PlRaw) (k j:Nat) (u:Value) (h:(Pr.flatR (l.take k))[j]?=some u):(Pr.flatR l)[j]?=some u:=by
 have e:Pr.flatR l=Pr.flatR (l.take k)++Pr.flatR (l.drop k):=by
  rw [← flat_app,List.take_append_drop]
 rw [e,List.getElem?_append_left (List.getElem?_eq_some_iff.1 h).1]
 exact h
theorem rst_from {w:World} {a:Option Addr} {n p B k:Nat} {l:List Pr.PlRaw} (h:Pr.Sl w (.slice a n p) l B) (hn:l.length=n) (hp:n≤p) (hk:k≤n):Rst w (sliced a k n p 3) (l.drop k):=by
 rcases h with ⟨h1,rfl⟩ | ⟨g,cap,h1,h2,h3,h4,h5⟩
 ·
  injection h1 with e1 e2 e3
  subst e1 e2 e3
  refine ⟨none,0, ?_,Or.inl ⟨rfl,rfl,by simp⟩⟩
  unfold sliced
  simp
 injection h1 with e1 e2 e3
 subst e1 e3
 unfold sliced
 by_cases e:p=k
 ·
  have e0:l.drop k=[]:=List.drop_of_length_le (by omega)
  rw [if_pos e,e0]
  exact ⟨_,p - k,by rw [show n - k=0 from by omega]; rfl,Or.inr ⟨g,0,rfl,h3,fun j u hj=>by simp [Pr.flatR] at hj⟩⟩
 rw [if_neg e,Option.map_some,addr_add]
 refine ⟨_,p - k,by rw [List.length_drop,hn],Or.inr ⟨g,0+k * 3,rfl,h3,fun j u hj=>?_⟩⟩
 rw [flat_drop] at hj
 have:=flat_cellsP h4 _ u hj
 rw [Nat.zero_add]
 exact this
theorem rst_to {w:World} {a:Option Addr} {n p B k:Nat} {l:List Pr.PlRaw} (h:Pr.Sl w (.slice a n p) l B) (hn:l.length=n) (hp:n≤p) (hk:k≤n):Rst w (sliced a 0 k p 3) (l.take k):=by
 rcases h with ⟨h1,rfl⟩ | ⟨g,cap,h1,h2,h3,h4,h5⟩
 ·
  injection h1 with e1 e2 e3
  subst e1 e2 e3
  have:k=0:=by simpa using hk
  subst this
  exact ⟨none,0,rfl,Or.inl ⟨rfl,rfl,rfl⟩⟩
 injection h1 with e1 e2 e3
 subst e1 e3
 have ea:(if p=0 then some (⟨g,0,none⟩:Addr) else Option.map (·.add (0 * 3)) (some (⟨g,0,none⟩:Addr)))=some (⟨g,0,none⟩:Addr):=by
  split <;> rfl
 unfold sliced
 rw [ea]
 exact ⟨_,p - 0,by rw [List.length_take,hn,Nat.min_eq_left hk]; rfl,Or.inr ⟨g,0,rfl,h3,fun j u hj=>by rw [Nat.zero_add]; exact flat_cellsP h4 j u (flat_take l k j u hj)⟩⟩
theorem rst_tail {w:World} {a:Option Addr} {n p B k:Nat} {l:List Pr.PlRaw} (h:Pr.Sl w (.slice a n p) l B) (hn:l.length=n) (hp:n≤p) (hk:k < n) {g:Nat} (ha:a=some ⟨g,0,none⟩):Rst w (sliced (some ⟨g,k * 3,none⟩) 1 (n - k) (p - k) 3) (l.drop (k+1)):=by
 subst ha
 rcases h with ⟨h1,rfl⟩ | ⟨g',cap,h1,h2,h3,h4,h5⟩
 · simp at hn; omega
 injection h1 with e1 e2 e3
 have eg:g=g':=by simpa using e1
 subst eg
 unfold sliced
 by_cases e:p - k=1
 ·
  have e0:l.drop (k+1)=[]:=List.drop_of_length_le (by omega)
  rw [if_pos e,e0]
  exact ⟨_,p - k - 1,by rw [show n - k - 1=0 from by omega]; rfl,Or.inr ⟨g,k * 3,rfl,h3,fun j u hj=>by simp [Pr.flatR] at hj⟩⟩
 rw [if_neg e,Option.map_some,addr_add]
 refine ⟨_,p - k - 1,by rw [List.length_drop,hn]; rfl,Or.inr ⟨g,k * 3+1 * 3,rfl,h3,fun j u hj=>?_⟩⟩
 rw [flat_drop] at hj
 have:=flat_cellsP h4 _ u hj
 rw [show k * 3+1 * 3+j=(k+1) * 3+j from by omega]
 exact this
theorem run_from (a:Option Addr) (n p k:Nat) (hk:k≤n) (wx:World):Sem.run Tryz.prog (Instr.slice 24 (.slice a n p) (some (.int .i64 (k:Int))) none none) wx=.ok (sliced a k n p 3) wx:=by
 have hu:Tryz.prog.underlying 24=some (.slice (Tryz.prog.elem 24)):=by kernel_rfl
 have hz:(sizeOf (Tryz.prog.elem 24)).run Tryz.prog wx=.ok 3 wx:=by kernel_rfl
 rw [run_slice_l wx 24 a n p hu .i64 (k:Int) (by omega) (by omega),hz]
 rfl
theorem run_to (a:Option Addr) (n p k:Nat) (hk:k≤p) (wx:World):Sem.run Tryz.prog (Instr.slice 24 (.slice a n p) none (some (.int .i64 (k:Int))) none) wx=.ok (sliced a 0 k p 3) wx:=by
 have hu:Tryz.prog.underlying 24=some (.slice (Tryz.prog.elem 24)):=by kernel_rfl
 have hz:(sizeOf (Tryz.prog.elem 24)).run Tryz.prog wx=.ok 3 wx:=by kernel_rfl
 rw [run_slice_h wx 24 a n p hu .i64 (k:Int) (by omega) (by omega),hz]
 rfl
def CutAt (b:ByteArray) (qs:List P.PlaceD) (k k':Nat) (sv:Int):Prop :=
 k≤qs.length∧(∀ (j:Nat) q,j < k→qs[j]?=some q→Op.bytesLess q.b.toList b.toList=true) ∧
  ((k'=k∧sv=1∧∀ q,qs[k]?=some q→Op.bytesLess q.b.toList b.toList=false∧(q.b.toList == b.toList)=false)∨∃ q,qs[k]?=some q∧Op.bytesLess q.b.toList b.toList=false∧(q.b.toList == b.toList)=true∧k'=k+1∧sv=q.s+1)
theorem cut_put {b:ByteArray} {qs:List P.PlaceD} {k k':Nat} {sv:Int} (hs:Ord.Srt keyP qs) (h:CutAt b qs k k' sv) (av:Option Addr) (cv:Nat) (ws:List W.WantD) :
  qs.take k++⟨b,sv,av,cv,ws⟩ :: qs.drop k'=putP b av cv ws qs:=by
 obtain ⟨hk,hlt,h⟩:=h
 have hL:∀ q:P.PlaceD,Op.bytesLess q.b.toList b.toList=bytesBefore (keyP q) b.data.toList:=fun q=>by
  rw [Ord.less_before,ByteArray.toList_eq,ByteArray.toList_eq]; rfl
 have hE:∀ q:P.PlaceD,(q.b.toList == b.toList)=true↔q.b=b:=fun q=>by
  rw [ByteArray.toList_eq,ByteArray.toList_eq,beq_iff_eq]
  constructor
  ·
   intro e
   have:q.b.data=b.data:=by
    rw [← Array.toList_inj]; exact e
   cases hq:q.b; cases hb:b; rw [hq,hb] at this; simp at this; rw [this]
  intro e; rw [e]
 have sev:sv=seenOf b qs+1:=by
  rcases h with ⟨rfl,rfl,hn⟩ | ⟨q,hq,-,he,rfl,rfl⟩
  ·
   rw [seen_none]
   · rfl
   intro p hp e
   obtain ⟨j,hj⟩:=List.getElem?_of_mem hp
   rcases Nat.lt_trichotomy j k' with h1 | h1 | h1
   ·
    have:=hlt j p h1 hj
    rw [hL] at this
    exact Ord.before_ne this (by unfold keyP; rw [e])
   ·
    subst h1
    have:=(hn p hj).2
    rw [(hE p).2 e] at this
    cases this
   have hjl:=(List.getElem?_eq_some_iff.1 hj).1
   obtain ⟨q,hq⟩:∃ q,qs[k']?=some q:=⟨qs[k']'(by omega),List.getElem?_eq_getElem _⟩
   obtain ⟨h2,h3⟩:=hn q hq
   rw [hL] at h2
   have h4:bytesBefore (keyP q) (keyP p)=true:=by
    obtain ⟨a1,rfl⟩:=List.getElem?_eq_some_iff.1 hq
    obtain ⟨a2,rfl⟩:=List.getElem?_eq_some_iff.1 hj
    exact List.pairwise_iff_getElem.1 hs k' j a1 a2 h1
   have e2:keyP p=b.data.toList:=by unfold keyP; rw [e]
   rw [e2] at h4
   rw [h4] at h2
   cases h2
  rw [seen_of_mem hs (List.mem_of_getElem? hq) ((hE q).1 he)]
 unfold putP
 rw [Ord.insS_cut keyP _ qs k hk (fun j y hj hy=>by have:=hlt j y hj hy; rw [hL] at this; exact this) (fun y hy=>by
  rcases h with ⟨-,-,hn⟩ | ⟨q,hq,hl,-⟩
  · have:=(hn y hy).1; rw [hL] at this; exact this
  rw [hq] at hy; cases hy; rw [hL] at hl; exact hl),← sev]
 congr 1
 congr 1
 rcases h with ⟨rfl,-,hn⟩ | ⟨q,hq,-,he,rfl,-⟩
 ·
  cases hq:qs[k']? with
  | none=>simp only; rw [List.drop_of_length_le (List.getElem?_eq_none_iff.1 hq)]
  | some q =>
   simp only
   rw [if_neg]
   intro e
   have h1:bytesBefore (keyP q) b.data.toList=bytesBefore (keyP q) b.data.toList:=rfl
   have:=(hn q hq).2
   rw [(hE q).2 (by
    have e':q.b.data.toList=b.data.toList:=e
    have:q.b.data=b.data:=by rw [← Array.toList_inj]; exact e'
    cases hq:q.b; cases hb:b; rw [hq,hb] at this; simp at this; rw [this])] at this
   cases this
 ·
  rw [hq]
  simp only
  rw [if_pos]
  show keyP q=b.data.toList
  unfold keyP
  rw [(hE q).1 he]
theorem ldo_cut {x y z:World} {B Z:Nat} {gs:List G.GrantD} {qs:List P.PlaceD} {s1 s2 sv:Value} {k k':Nat} {np:P.PlaceD} (h:LdO x B gs qs s1 s2) (hb:Below x.heap.size x y) (hv:W.Sl y (.slice np.a np.ws.length np.c) np.ws x.heap.size) (hyz:Below y.heap.size y z) (hZ:y.heap.size≤Z) (hk:k≤k') (hkl:k≤qs.length) (hBx:B≤x.heap.size)
  (ho:OQ Z ((qs.take k++np :: qs.drop k').map Pr.raw) z sv) (hcn:np.ws.length≤np.c):LdO z B gs (qs.take k++np :: qs.drop k') s1 sv:=by
 have H:=h.keep (bl_trans hb hyz)
 have hbs:=hb.size
 have hso:=oq_sl ho
 have hsv:∀ g,sv.ownBlock=some g→Z≤g:=fun g hg=>(hso.lt g hg).1
 have hnew:=hv.lt
 have hold:∀ {j:Nat} {r:P.PlaceD} {g:Nat},qs[j]?=some r→(Value.slice r.a r.ws.length r.c).ownBlock=some g→B≤g∧g < x.heap.size:=fun hr hg=>(h.p.k _ _ hr).lt _ hg
 have cs:∀ {j:Nat} {r:P.PlaceD},(qs.take k++np :: qs.drop k')[j]?=some r→(j < k∧qs[j]?=some r)∨(j=k∧r=np)∨(k < j∧qs[k'+(j - k - 1)]?=some r):=by
  intro j r hr
  have hlt:(qs.take k).length=k:=by rw [List.length_take]; omega
  rcases Nat.lt_trichotomy j k with hj | hj | hj
  · rw [List.getElem?_append_left (by omega),List.getElem?_take_of_lt hj] at hr; exact Or.inl ⟨hj,hr⟩
  ·
   subst hj
   rw [List.getElem?_append_right (by omega),hlt,Nat.sub_self,List.getElem?_cons_zero] at hr
   exact Or.inr (Or.inl ⟨rfl,(Option.some.inj hr).symm⟩)
  rw [List.getElem?_append_right (by omega),hlt,show j - k=(j - k - 1)+1 from by omega,List.getElem?_cons_succ,List.getElem?_drop] at hr
  exact Or.inr (Or.inr ⟨hj,hr⟩)
 refine ⟨H.g,⟨hso.low (by omega),fun j r hr=>?_,fun j r g hr hg e=>?_,fun i j r s g hij hr hs hg e=>?_,fun r hr=>?_⟩, ?_⟩
 ·
  rcases cs hr with ⟨-,hr⟩ | ⟨-,rfl⟩ | ⟨-,hr⟩
  · exact H.p.k _ r hr
  · exact sl_lowW (hv.keep hyz) hBx
  exact H.p.k _ r hr
 ·
  have h1:=hsv g e
  rcases cs hr with ⟨-,hr⟩ | ⟨-,rfl⟩ | ⟨-,hr⟩
  · have:=hold hr hg; omega
  · have:=hnew g hg; omega
  have:=hold hr hg; omega
 ·
  rcases cs hr with ⟨i1,hr1⟩ | ⟨i1,er⟩ | ⟨i1,hr1⟩ <;> rcases cs hs with ⟨j1,hs1⟩ | ⟨j1,es⟩ | ⟨j1,hs1⟩
  · exact h.p.dif i j r s g hij hr1 hs1 hg e
  · rw [es] at e; have:=hold hr1 hg; have:=hnew g e; omega
  · exact h.p.dif i _ r s g (by omega) hr1 hs1 hg e
  · omega
  · omega
  · rw [er] at hg; have:=hnew g hg; have:=hold hs1 e; omega
  · omega
  · omega
  exact h.p.dif _ _ r s g (by omega) hr1 hs1 hg e
 ·
  rcases List.mem_append.1 hr with hr | hr
  · exact h.p.c r (List.mem_of_mem_take hr)
  rcases List.mem_cons.1 hr with rfl | hr
  · exact hcn
  exact h.p.c r (List.mem_of_mem_drop hr)
 ·
  rintro g hg (e | ⟨j,r,hr,e⟩)
  ·
   have h1:=hsv g e
   have h2:=h.g.lt g hg
   omega
  rcases cs hr with ⟨-,hr⟩ | ⟨-,rfl⟩ | ⟨-,hr⟩
  · exact h.gp g hg (Or.inr ⟨_,r,hr,e⟩)
  ·
   have h1:=hnew g e
   have h2:=h.g.lt g hg
   omega
  exact h.gp g hg (Or.inr ⟨_,r,hr,e⟩)
theorem bs_cut {x y z:World} {B Z:Nat} {gs:List G.GrantD} {qs:List P.PlaceD} {s1 s2 sv:Value} {k k':Nat} {np:P.PlaceD} (hv:W.Sl y (.slice np.a np.ws.length np.c) np.ws x.heap.size) (hxy:x.heap.size≤y.heap.size) (hZ:y.heap.size≤Z)
  (ho:OQ Z ((qs.take k++np :: qs.drop k').map Pr.raw) z sv):∀ g,LdO.bs (qs.take k++np :: qs.drop k') s1 sv g→LdO.bs qs s1 s2 g∨x.heap.size≤g:=by
 rintro g (hg | hg | ⟨j,r,hr,hg⟩)
 · exact Or.inl (Or.inl hg)
 ·
  have:=((oq_sl ho).lt g hg).1
  exact Or.inr (by omega)
 ·
  have hm:=List.mem_of_getElem? hr
  rcases List.mem_append.1 hm with h | h
  ·
   obtain ⟨i,hi⟩:=List.getElem?_of_mem (List.mem_of_mem_take h)
   exact Or.inl (Or.inr (Or.inr ⟨i,r,hi,hg⟩))
  rcases List.mem_cons.1 h with rfl | h
  · exact Or.inr (hv.lt g hg).1
  obtain ⟨i,hi⟩:=List.getElem?_of_mem (List.mem_of_mem_drop h)
  exact Or.inl (Or.inr (Or.inr ⟨i,r,hi,hg⟩))
theorem ldo_landx {w:World} {B:Nat} {gs:List G.GrantD} {qs:List P.PlaceD} {a1 a2:Option Addr} {c1 c2 n1 n2:Nat} (hL:LdO w B gs qs (.slice a1 n1 c1) (.slice a2 n2 c2)):P.LandX w gs qs a1 a2:=by
 refine ⟨?_, ?_,fun r hr=>?_⟩
 ·
  rcases hL.g with ⟨h1,h2⟩ | ⟨g,cap,h1,h2,h3,h4,h5⟩
  · exact Or.inl h2
  injection h1 with e1 e2 e3
  exact Or.inr ⟨g,e1,h3,h4⟩
 ·
  rcases hL.p.o with ⟨h1,h2⟩ | ⟨g,cap,h1,h2,h3,h4,h5⟩
  · exact Or.inl (List.map_eq_nil_iff.1 h2)
  injection h1 with e1 e2 e3
  refine Or.inr ⟨g,e1,h3,fun k r hr=>?_⟩
  exact h4 k (Pr.raw r) (by rw [List.getElem?_map,hr]; rfl)
 obtain ⟨j,hj⟩:=List.getElem?_of_mem hr
 exact (hL.p.k j r hj).src
theorem fit_put2 {gs:List G.GrantD} {qs ps:List P.PlaceD} {b:ByteArray} {ws:List W.WantD} (a:Option Addr) (c:Nat) (h:P.Fit gs ps) (hk:P.Like qs ps) (hb:b.size≤maxLen) (hwf:∀ r∈ws,r.fits) (hwl:ws.length≤1048576) (h4:ps.length≤4):P.Fit gs (putP b a c ws qs):=by
 have hq:=h.like hk
 have hm:∀ q∈putP b a c ws qs,q=⟨b,seenOf b qs+1,a,c,ws⟩∨q∈qs:=fun q hq=>Ord.insS_mem keyP _ _ q hq
 have hl:=Ord.insS_len keyP ⟨b,seenOf b qs+1,a,c,ws⟩ qs
 have hlen:=hk.len
 refine ⟨h.g,fun p hp=>?_,h.gl, ?_,fun p hp=>?_⟩
 ·
  rcases hm p hp with rfl | hp
  · exact ⟨hb,hwf⟩
  exact hq.p p hp
 ·
  show (Ord.insS _ _ _).length≤_
  omega
 rcases hm p hp with rfl | hp
 · exact hwl
 exact hq.ln p hp
theorem set_box {y:World} {b i:Nat} {O:Array Value} (v:Value) (h:∀ j,y.cell? ⟨b,j,none⟩=O[j]?) (hi:i < O.size):∀ j,(y.setCell ⟨b,i,none⟩ v).cell? ⟨b,j,none⟩=(O.set i v hi)[j]?:=by
 intro j
 by_cases e:j=i
 ·
  subst e
  rw [World.cell?_setCell_same _ _ _ ((h j).trans (Array.getElem?_eq_getElem hi)),Array.getElem?_set_self]
 rw [World.cell?_setCell_other _ _ _ _ (fun h'=>e (by have:=congrArg Addr.off h'; exact this.symm)),h j,Array.getElem?_set_ne _ (fun e'=>e e'.symm)]
theorem setT_back {l:Array Bool} {i j:Nat} (h:(l.setIfInBounds i true).getD j false=false) (hi:i < l.size):l.getD j false=false:=by
 by_cases e:j=i
 · subst e; rw [setT_same hi] at h; cases h
 rw [setT_ne e] at h; exact h
structure Il (sl:Nat→Nat) (n se:Nat) (ops:Array Oper) (a0:Act) (G:Array Bool→World→Nat→Value→Prop) (D:World→Prop) (E:Value→World→Prop) (listed:Array Bool) (a:Act) (w:World):Prop where
 df:a.defers=a0.defers
 sz:a.tmps.size=a0.tmps.size
 out:∀ k,(∀ i,i < n→sl i≠k)→a.tmps.getD k undef=a0.tmps.getD k undef
 lz:listed.size=n+1
 tr:∀ i j,waits .any ops i j=true→listed.getD i false=true→listed.getD j false=true
 good:∀ i,i < n→listed.getD i false=true→listed.getD n false=false→G listed w i (a.tmps.getD (sl i) undef)
 d:listed.getD n false=false→D w
 e:listed.getD n false=true→E (a.tmps.getD se undef) w
section
variable {sl:Nat→Nat} {n se:Nat} {ops:Array Oper} {a0:Act} {G:Array Bool→World→Nat→Value→Prop} {D:World→Prop} {E:Value→World→Prop} {listed:Array Bool} {a:Act} {w w':World} {i:Nat} {v:Value}
theorem Il.put (h:Il sl n se ops a0 G D E listed a w) (hr:i∈Region.ready .any ops listed) (hi:i < n) (hn:listed.getD n false=false) (hlt:sl i < a0.tmps.size) (hinj:∀ j,j < n→sl j=sl i→j=i) (hg:G (listed.setIfInBounds i true) w' i v)
  (hk:∀ j u,j < n→j≠i→listed.getD j false=true→G listed w j u→G (listed.setIfInBounds i true) w' j u) (hd:D w'):Il sl n se ops a0 G D E (listed.setIfInBounds i true) (a.put (some (sl i)) v) w':=by
 have hsz:=h.sz
 have hlz:=h.lz
 have hnn:(listed.setIfInBounds i true).getD n false=false:=by rw [setT_ne (by omega)]; exact hn
 refine ⟨h.df,by simpa [Act.put] using hsz, ?_,by simpa using hlz,trT hr (by omega) h.tr, ?_,fun _=>hd,fun e=>by rw [hnn] at e; cases e⟩
 ·
  intro k hko
  rw [← h.out k hko]
  simp only [Act.put,Array.getD_eq_getD_getElem?]
  rw [Array.getElem?_setIfInBounds_ne (hko i hi)]
 ·
  intro j hj hl _
  by_cases e:j=i
  ·
   subst e
   simp only [Act.put,Array.getD_eq_getD_getElem?]
   rw [Array.getElem?_setIfInBounds_self_of_lt (by omega)]
   exact hg
  rw [setT_ne e] at hl
  have h1:=hk j _ hj e hl (h.good j hj hl hn)
  simp only [Act.put,Array.getD_eq_getD_getElem?] at h1 ⊢
  rw [Array.getElem?_setIfInBounds_ne (fun e'=>e (hinj j hj e'.symm))]
  exact h1
theorem Il.same (h:Il sl n se ops a0 G D E listed a w) (hr:i∈Region.ready .any ops listed) (hi:i < n) (hn:listed.getD n false=false) (hlt:sl i < a0.tmps.size) (hinj:∀ j,j < n→sl j=sl i→j=i) (hg:G (listed.setIfInBounds i true) w i v) (hk:∀ j u,j < n→j≠i→listed.getD j false=true→G listed w j u→G (listed.setIfInBounds i true) w j u):Il sl n se ops a0 G D E (listed.setIfInBounds i true) (a.put (some (sl i)) v) w :=
 h.put hr hi hn hlt hinj hg hk (h.d hn)
theorem Il.last (h:Il sl n se ops a0 G D E listed a w) (hr:n∈Region.ready .any ops listed) {u:Value} (he:E (a.tmps.getD se undef) w'):Il sl n se ops a0 G D E (listed.setIfInBounds n true) (a.put none u) w':=by
 have hlz:=h.lz
 have hnn:(listed.setIfInBounds n true).getD n false=true:=setT_same (by omega)
 exact ⟨h.df,h.sz,h.out,by simpa using hlz,trT hr (by omega) h.tr,(fun j hj hl hc=>by rw [hnn] at hc; cases hc),(fun e=>by rw [hnn] at e; cases e),fun _=>he⟩
end
theorem reg_invL {P:Program} {ops:Array Oper} {Q:Exit→Act→World→Prop} {a0:Act} {w0:World} (sl:Nat→Nat) (n se:Nat) (G:Array Bool→World→Nat→Value→Prop) (D:World→Prop) (E:Value→World→Prop)
  (hd:depsOk ops=true) (hops:ops.size=n+1) (hD:D w0)
  (done:∀ a y,a.defers=a0.defers→a.tmps.size=a0.tmps.size→(∀ k,(∀ i,i < n→sl i≠k)→a.tmps.getD k undef=a0.tmps.getD k undef)→E (a.tmps.getD se undef) y→Q .normal a y)
  (step:∀ listed x y i,Il sl n se ops a0 G D E listed x y→i∈Region.ready .any ops listed→i < n+1→wpOp P ops Q i (Il sl n se ops a0 G D E (listed.setIfInBounds i true)) x y) :
  wpAny P .any ops Q ops.size (Array.replicate ops.size false) a0 w0:=by
 have hrep:openOf (Array.replicate ops.size false)≤ops.size:=by
  unfold openOf
  exact Nat.le_trans List.countP_le_length (by simp)
 have hno:∀ k j,(Array.replicate k false).getD j false=false:=fun k j=>by
  simp only [Array.getD_eq_getD_getElem?,Array.getElem?_replicate]
  split <;> rfl
 refine wpAny_inv (Il sl n se ops a0 G D E) (fun listed x y i hI hi=>step listed x y i hI hi (by have:=List.mem_range.1 (List.mem_filter.1 hi).1; omega)) ?_ _ _ _ _ hrep ?_
 ·
  intro listed x y hI hr
  have hall:=all_listed hd hr (by rw [hI.lz,hops])
  exact done x y hI.df hI.sz hI.out (hI.e (hall n (by omega)))
 · exact ⟨rfl,rfl,fun _ _=>rfl,by simp [hops],(fun i j _ h=>by rw [hno] at h; cases h),(fun i _ h=>by rw [hno] at h; cases h),(fun _=>hD),(fun h=>by rw [hno] at h; cases h)⟩
theorem sbk {l:Array Bool} {n i j:Nat} (h:Hid (l.size=n)) (e:(l.setIfInBounds i true).getD j false=false) (hi:i < n:=by omega):l.getD j false=false:=setT_back e (by rw [h.out]; exact hi)
end Go.Proofs.YtcjhlhijdacinaaGreatDoor
