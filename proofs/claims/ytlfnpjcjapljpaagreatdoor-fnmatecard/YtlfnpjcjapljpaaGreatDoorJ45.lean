import Derived.Test.YtlfnpjcjapljpaaGreatDoorJ43
import Derived.Test.YtlfnpjcjapljpaaGreatDoorJ41
import Derived.Test.YtlfnpjcjapljpaaGreatDoorJ42
namespace Go.Proofs.YtlfnpjcjapljpaaGreatDoor
open Go.Maps Go.Proofs.Tryz Go.RowKit Go.WideMaps
set_option linter.unusedVariables false
structure Tb(w:World)(b:Nat)(O:Array Value)(x:World):Prop where
 a:∀k,x.cell? ⟨b,k,none⟩=O[k]?
 c:∀k,x.frozen? ⟨b,k,none⟩=false
 d:x.there (w.heap.size+1) 0 9
 e:Below w.heap.size w x
 f:w.heap.size+2<b
 g:b<x.heap.size
 o:∃C,x.heap[b]?=some (.cells C 27 (0,0))
theorem tX{b:Nat}{t:TypeId}:∀(vs:List Value)(p:Nat)(x:World),(∃C,x.heap[b]?=some (.cells C t (0,0)))->∃C,(x.setCells b p vs).heap[b]?=some (.cells C t (0,0))
 |[],p,x,h=>h
 |v::r,p,x,⟨C,h⟩=>tX r (p+1) _ ⟨_,heap_setCell_same _ _ _ _ _ v h⟩
section
variable {w x y:World} {b:Nat} {O:Array Value}
theorem Ig(hd:x.there (w.heap.size+1) 0 9)(he:Below w.heap.size w x)(hf:w.heap.size+2<x.heap.size)(O:Array Value):Tb w x.heap.size O (x.alloc (.cells O 27)):=
 ⟨fun k=>by rw[World.cell?_alloc_new],fun k=>by simp[go_sem],bd hd (by omega) (ae bR _),ae he _,hf,by simp,⟨_,fy _ _⟩⟩
theorem Tb.below(h:Tb w b O x)(hb:Below x.heap.size x y):Tb w b O y:=
 have hf:=h.f;have hg:=h.g
 ⟨fun k=>(hb.cell (p:=⟨b,k,none⟩) hg).trans (h.a k),fun k=>(hb.frozen (p:=⟨b,k,none⟩) hg).trans (h.c k),bd h.d (by omega) hb,af h.e hb,hf,Nat.lt_of_lt_of_le hg hb.size,h.o.imp (fun C hC=>(hb.block b hg).trans hC)⟩
theorem Tb.set(h:Tb w b O x)(j:Nat)(hj:j<O.size)(u:Value):Tb w b (O.setIfInBounds j u) (x.setCell ⟨b,j,none⟩ u):=by
 have he:Ex b x (x.setCell ⟨b,j,none⟩ u):=(Ex.refl _ _).set j u;have hf:=h.f;have hg:=h.g;refine⟨fun k=>?_,fun k=>?_,bh h.d (by omega) he (by omega),iY (p:=⟨b,j,none⟩) h.e (by show w.heap.size<=b;omega) u,hf,Nat.lt_of_lt_of_le hg he.size,h.o.elim (fun C hC=>⟨_,heap_setCell_same _ _ _ _ _ u hC⟩)⟩
 ·
  by_cases e:k=j
  ·
   subst e;have h1:=h.a k;rw[Array.getElem?_eq_getElem hj]at h1;rw[Array.getElem?_setIfInBounds_self_of_lt hj];exact World.cell?_setCell_same _ _ _ h1
  rw[Array.getElem?_setIfInBounds_ne (fun h'=>e h'.symm),<-h.a k];exact World.cell?_setCell_other _ _ _ _ (fun h'=>e (by have:=congrArg Addr.off h';exact this.symm))
 rw[World.frozen?_setCell];exact h.c k
theorem Tb.box(h:Tb w b O x)(hO:O.size=9):x.there b 0 9:=fun j hj=>by
 have h1:=h.a j;have h2:j<O.size:=by omega
 rw[Array.getElem?_eq_getElem h2]at h1;exact⟨by rw[Nat.zero_add,h1];rfl,by rw[Nat.zero_add];exact h.c j⟩
theorem Tb.all(h:Tb w b O x)(hO:O.size=9)(l:List Value)(hl:l.length=9):Tb w b l.toArray (x.setCells b 0 l):=by
 have he:Ex b x (x.setCells b 0 l):=(Ex.refl _ _).cells _ _;have hf:=h.f;have hg:=h.g;have hth:x.there b 0 l.length:=by rw[hl];exact h.box hO
 refine⟨fun k=>?_,fun k=>?_,bh h.d (by omega) he (by omega),Ex.mono h.e he (by omega),hf,Nat.lt_of_lt_of_le hg he.size,tX l 0 x h.o⟩
 ·
  by_cases e:k<l.length
  ·
   have h1:=World.rangeAt_setCells_same x b 0 l hth k l[k] (List.getElem?_eq_getElem e);rw[Nat.zero_add]at h1;rw[h1];simp[e]
  rw[World.cell?_setCells_out _ _ _ _ _ (fun _ _=>Or.inr (by show 0+l.length<=k;omega)),h.a k,Array.getElem?_eq_none (by omega),Array.getElem?_eq_none (by simp;omega)]
 rw[World.frozen?_setCells];exact h.c k
theorem Tb.ne(h:Tb w b O x){B z n:Nat}{e:TypeId}{v:Value}{xs:List Value}(ho:x.ownsRow B e z v n xs)(he:e≠27):∀j,v.ownBlock=some j->j≠b:=by
 intro j hj e1;subst e1;obtain⟨C,hC⟩:=h.o;obtain⟨-,⟨h1,-⟩|⟨g,cap,cur,h1,-,h3,-⟩⟩:=ho;·rw[h1]at hj;cases hj
 rw[h1]at hj;have:g=j:=Option.some.inj hj;subst this;rw[h3]at hC;injection hC with hC;injection hC with _ h5;exact he h5
theorem Tb.put(h:Tb w b O x)(l:List Value):Below w.heap.size w (x.setCells (w.heap.size+1) 0 l):=
 Ex.mono h.e ((Ex.refl (w.heap.size+1) x).cells l 0) (Nat.le_succ _)
end
theorem oC(a:Option Addr)(c:Nat)(clock:Int)(w:World):
  Calls prog 30 #[.slice a 0 c,.int .i64 clock] w fun e w'=>(∃v,e=.returned v/\Sl w' v [] w.heap.size)/\Below w.heap.size w w':=by
 have hbn:=oD;go_enter func30,ntmps30
 go_wp2
 refine wp_loop_rounds 1 ?_;rw[rounds_succ];go_wp2
 go_ret
 exact⟨⟨_,rfl,Or.inr ⟨w.heap.size,0,rfl,Nat.le_refl _,by simp,fun k r h=>by simp at h,fun j hj=>absurd hj (Nat.not_lt_zero _)⟩⟩,ae bR _⟩
theorem pz(a:Option Addr)(c:Nat)(rs:List aw)(clock:Int)(w:World)(h:Src w a c rs)(hl:rs.length<=1048576):
  Calls prog 30 #[.slice a rs.length c,.int .i64 clock] w fun e w'=>(∃v,e=.returned v/\Sl w' v (rs.map (bN clock)) w.heap.size)/\Below w.heap.size w w':=by
 rcases h with⟨rfl,rfl,rfl⟩|⟨g,rfl,hg,hr⟩;·exact oC none 0 clock w
 ·
  refine(yn g 0 c rs clock w hr hg hl).mono ?_;rintro e w' ⟨⟨g',cap',rfl,h1,h2,h3,h4⟩,h5⟩;exact⟨⟨_,rfl,Or.inr ⟨g',cap',by rw[List.length_map],h1,h2,h3,by rw[List.length_map];exact h4⟩⟩,h5⟩
theorem mS.src{w:World}{m:aj}{a1 a2 a3 a4:Option Addr}{p1 p2 p3 p4 B:Nat}(h:mS w m (ai a1 m.ws p1) (ai a2 m.rs p2) (ai a3 m.qs p3) (ai a4 m.gs p4) B):gx w m a1 a2 a3 a4 p1 p2 p3 p4:=by
 have k1:W.Src w a1 p1 m.ws:=by
  rcases h.a1.sl with⟨e,e2⟩|⟨g,cap,e,-,h2,h3,-⟩;·injection e with z1 z2 z3;exact Or.inl ⟨z1,z3,e2⟩
  injection e with z1 z2 z3;exact Or.inr ⟨g,z1,h2,h3⟩
 have k2:Src w a2 p2 m.rs:=by
  rcases h.a2.sl with⟨e,e2⟩|⟨g,cap,e,-,h2,h3,-⟩;·injection e with z1 z2 z3;exact Or.inl ⟨z1,z3,e2⟩
  injection e with z1 z2 z3;exact Or.inr ⟨g,z1,h2,h3⟩
 have k3:A.Src w a3 p3 m.qs:=by
  rcases h.a3.sl with⟨e,e2⟩|⟨g,cap,e,-,h2,h3,-⟩;·injection e with z1 z2 z3;exact Or.inl ⟨z1,z3,e2⟩
  injection e with z1 z2 z3;exact Or.inr ⟨g,z1,h2,h3⟩
 have k4:A.Src w a4 p4 m.gs:=by
  rcases h.a4.sl with⟨e,e2⟩|⟨g,cap,e,-,h2,h3,-⟩;·injection e with z1 z2 z3;exact Or.inl ⟨z1,z3,e2⟩
  injection e with z1 z2 z3;exact Or.inr ⟨g,z1,h2,h3⟩
 exact⟨k1,k2,k3,k4,(gd h.a1).1⟩
set_option maxRecDepth 4000
set_option maxHeartbeats 8000000
theorem qj{v:Value}{b:Nat}(h:∀j,v.ownBlock=some j->j≠b):v.ownBlock=none\/v.ownBlock≠some b:=by
 cases hv:v.ownBlock with
 |none=>exact Or.inl rfl
 |some j=>exact Or.inr (fun e=>h j hv (Option.some.inj e))
structure Gq(N:Nat)(x9:World)(q:Value)(l:List A.aC)(out:List Pc.bP)(v:Value)(x:World):Prop where
 e:Below N x9 x
 oq:A.Ow x q l 0
 ov:x.ownsRow (N+2) 43 7 v out.length (Pc.aA out)
 dq:eh q v
 f:N+1<x.heap.size
theorem Gq.keep{N:Nat}{x9 x y:World}{q v:Value}{l:List A.aC}{out:List Pc.bP}(h:Gq N x9 q l out v x)(hb:Below x.heap.size x y):Gq N x9 q l out v y:=
 have hf:=h.f
 ⟨h.e.trans (hb.mono (by omega)),h.oq.keep hb,aN h.ov hb,h.dq,Nat.lt_of_lt_of_le hf hb.size⟩
theorem Gq.row{N:Nat}{x9 x y:World}{q v v':Value}{l:List A.aC}{out out':List Pc.bP}(h:Gq N x9 q l out v x)(hg:x.grownBy y v.ownBlock)(ho:y.ownsRow (N+2) 43 7 v' out'.length (Pc.aA out'))(hat:v'.ownBlock=v.ownBlock\/v'.ownBlock=some x.heap.size):Gq N x9 q l out' v' y:=by
 have hv:=br h.ov;have hf:=h.f;refine⟨Below.grown h.e hg (by omega) (fun k hk=>by have:=hv k hk;omega),h.oq.grown hg h.dq,ho,?_,Nat.lt_of_lt_of_le hf hg.size⟩;rcases hat with e|e
 ·
  rcases h.dq with h'|h';·exact Or.inl h'
  exact Or.inr (by rw[e];exact h')
 cases hsb:q.ownBlock with
 |none=>exact Or.inl hsb
 |some j=>exact Or.inr (by rw[hsb,e];intro e';have:=(h.oq.lt j hsb).2;have:=Option.some.inj e';omega)
theorem tV{x y:World}{b n N:Nat}(h:x.there b 0 n)(hb:Below N x y)(hl:b<N):y.there b 0 n:=fun j hj=>⟨by rw[hb.cell (p:=⟨b,0+j,none⟩) hl];exact(h j hj).1,by rw[hb.frozen (p:=⟨b,0+j,none⟩) hl];exact(h j hj).2⟩
theorem ym{x y:World}{a:Option Addr}{n p B N:Nat}{l:List aw}(h:Sl x (.slice a n p) l B)(hb:Below N x y)(hl:∀g,(Value.slice a n p).ownBlock=some g->g<N):Src y a p l:=by
 rcases h with⟨e,e2⟩|⟨g,cap,e,-,h2,h3,-⟩;·injection e with z1 z2 z3;exact Or.inl ⟨z1,z3,e2⟩
 injection e with z1 z2 z3;subst z1;have hg:=hl g rfl;exact Or.inr ⟨g,rfl,Nat.lt_of_lt_of_le h2 hb.size,fun k r hr j v hj=>(hb.cell (p:=⟨g,_,none⟩) hg).trans (h3 k r hr j v hj)⟩
theorem vG{x y:World}{a:Option Addr}{n p B N:Nat}{l:List A.aC}(h:A.Sl x (.slice a n p) l B)(hb:Below N x y)(hl:∀g,(Value.slice a n p).ownBlock=some g->g<N):A.Src y a p l:=by
 rcases h with⟨e,e2⟩|⟨g,cap,e,-,h2,h3,-⟩;·injection e with z1 z2 z3;exact Or.inl ⟨z1,z3,e2⟩
 injection e with z1 z2 z3;subst z1;have hg:=hl g rfl;exact Or.inr ⟨g,rfl,Nat.lt_of_lt_of_le h2 hb.size,fun k r hr j v hj=>(hb.cell (p:=⟨g,_,none⟩) hg).trans (h3 k r hr j v hj)⟩
theorem DV{x:World}{a:Option Addr}{n p B:Nat}{l:List A.aC}(h:A.Sl x (.slice a n p) l B):A.Src x a p l:=by
 rcases h with⟨e,e2⟩|⟨g,cap,e,-,h2,h3,-⟩;·injection e with z1 z2 z3;exact Or.inl ⟨z1,z3,e2⟩
 injection e with z1 z2 z3;exact Or.inr ⟨g,z1,h2,h3⟩
theorem E7{w:World}{a:Option Addr}{n p B:Nat}{l:List aw}(h:Sl w (.slice a n p) l B):Gv w a l:=by
 rcases h with⟨-,rfl⟩|⟨g,cap,e,-,h2,h3,-⟩;·exact Or.inl rfl
 injection e with e1 e2 e3;subst e1;exact Or.inr ⟨g,rfl,h2,h3⟩
theorem xB(m:aj)(rate:Int)(x1 x2 x3 x4:Option Addr)(n1 n2 n3 n4:Nat)(w:World)(hL:gx w m x1 x2 x3 x4 n1 n2 n3 n4)(hf:m.fits)(hq:m.qs.length<=20):
  Calls prog 6 #[.agg (bK m x1 x2 x3 x4 n1 n2 n3 n4),.int .i64 rate] w fun e w'=>wq m rate w.heap.size e w'/\Below w.heap.size w w':=by
 have S0:Hid (Sc w (bK m x1 x2 x3 x4 n1 n2 n3 n4) (((w.alloc (.cells (bK m x1 x2 x3 x4 n1 n2 n3 n4) 27)).alloc (.cells iU 27)).alloc (.cells #[] 43))):=(ic m x1 x2 x3 x4 n1 n2 n3 n4 w).below (ae bR _);have hinfo:(prog.info? 27).map (·.size)=some 9:=by kernel_rfl
 have DW:Hid (∀y:World,w.heap.size+2<y.heap.size->Pc.Sl y (.slice (some ⟨w.heap.size+1+1,0,none⟩) 0 0) [] w.heap.size):=fun y hy=>Or.inr ⟨w.heap.size+1+1,0,rfl,by omega,by omega,fun k r h=>by simp at h,fun j hj=>absurd hj (Nat.not_lt_zero _)⟩;have U2:Hid (w.heap.size+2<(World.heap (((w.alloc (.cells (bK m x1 x2 x3 x4 n1 n2 n3 n4) 27)).alloc (.cells iU 27)).alloc (.cells #[] 43))).size):=by show _<_;simp
 have Es:=wm;go_enter func6,ntmps6
 go_wp2_with fail
 clear Es;refine(fu m x1 x2 x3 x4 n1 n2 n3 n4 _ (hL.keep S0.out.e).lists hf).mono ?_;rintro e w1 ⟨⟨q,rfl,hsv⟩,c1⟩;have S1:=ah (S0.out.below c1);have Jc:Hid (w.heap.size+2<w1.heap.size):=Nat.lt_of_lt_of_le U2.out c1.size;have Hq:=ah hsv;clear hsv c1;have ka:=S1.out.b;cases q
 ·
  go_wp2_with (refine wpList_store_mid (by rfl) 27 _ _ (by rfl) (w.heap.size+1) 0 iU (by rfl) (by rfl) (by exact S1.out.d) hinfo (by exact all_oneCell_toArray (iH)) ?_)
  have hrg:=World.rangeAt_setCells_same w1 (w.heap.size+1) 0 (dP ⟨#[]⟩ false 0 false 0 (.slice none 0 0) (.slice none 0 0) (.slice none 0 0) (.slice none 0 0)) S1.out.d;obtain⟨d0,d1,d2,d3,d4,d5,d6,d7,d8⟩:=d9 hrg;exact bodyPost_ret (v:=.tuple #[.agg iU,.slice (some ⟨w.heap.size+1+1,0,none⟩) 0 0]) (by simp[results,results6,go_sem,d0,d1,d2,d3,d4,d5,d6,d7,d8]) rfl ⟨⟨ju,_,_,_,_,_,[],rfl,Or.inr ⟨dA Hq.out,rfl,rfl⟩,jw _ _,mZ,DW.out _ (Nat.lt_of_lt_of_le Jc.out (Ex.size ((Ex.refl (w.heap.size+1) w1).cells (dP ⟨#[]⟩ false 0 false 0 (.slice none 0 0) (.slice none 0 0) (.slice none 0 0) (.slice none 0 0)) 0)))⟩,S1.out.put _⟩
 have hv:=ah (Hq.out.1 rfl);clear Hq;have hp:=hv.out.1;simp only[cV,cA,Bool.and_eq_true,decide_eq_true_eq]at hp;obtain⟨-,⟨hc0,hc1⟩,-⟩:=hp;go_wp2_with fail
 refine(ku m x1 x2 x3 x4 n1 n2 n3 n4 w1 (hL.keep S1.out.e).r1 (hL.keep S1.out.e).r2 (hL.keep S1.out.e).r3 (hL.keep S1.out.e).r4 ⟨hf.k1,hf.k2,hf.k3,hf.k4⟩).mono ?_;rintro e w2 ⟨⟨s1,s2,s3,s4,rfl,hO⟩,c2⟩;obtain⟨a1,p1,rfl⟩:=hO.a1.shape;obtain⟨a2,p2,rfl⟩:=hO.a2.shape;obtain⟨a3,p3,rfl⟩:=hO.a3.shape;obtain⟨a4,p4,rfl⟩:=hO.a4.shape;have S2:=ah (S1.out.below c2);have U3:=ah c2.size;have HS2:Hid (w.heap.size+2<w2.heap.size):=Nat.lt_of_lt_of_le Jc.out c2.size;have T0:=Ig S2.out.d S2.out.e HS2.out (bK m a1 a2 a3 a4 p1 p2 p3 p4);obtain⟨W3,hW3⟩:∃W3,W3=w2.alloc (.cells (bK m a1 a2 a3 a4 p1 p2 p3 p4) 27):=⟨_,rfl⟩
 have HW3:=ah hW3;have B3:Hid (Below w2.heap.size w2 W3):=by show Below _ _ _;rw[hW3];exact ae bR _
 rw[<-hW3]at T0;have T3:=ah T0;have OM:=ah hO;have M3:=ah (hO.sl.keep B3.out);have Sv:=ah (iy hO.a1);have PN:Hid (w.heap.size+2<W3.heap.size):=Nat.lt_of_lt_of_le HS2.out B3.out.size;clear hW3 T0 hO c2 ka;cases hrt:cA rate 1 4
 ·
  go_upto_region 5 with(fail)
  rw[<-HW3.out];have ka:=T3.out.a
  go_upto_region 6 with(go_at_call 28;refine(aI _ _ _ _).mono ?_;rintro e w' ⟨rfl,jD⟩;rw[hrt,jD];clear jD w')
  go_wp2_with (refine wpList_store_mid (by rfl) 27 _ _ (by rfl) (w.heap.size+1) 0 (bK m a1 a2 a3 a4 p1 p2 p3 p4) (by rfl) (by rfl) (by exact T3.out.d) hinfo (by exact all_oneCell_toArray (ones m M3.out.a1 M3.out.a2 M3.out.a3 M3.out.a4)) ?_)
  have hrg:=World.rangeAt_setCells_same W3 (w.heap.size+1) 0 (kg m a1 a2 a3 a4 p1 p2 p3 p4) T3.out.d;obtain⟨d0,d1,d2,d3,d4,d5,d6,d7,d8⟩:=d9 hrg;exact bodyPost_ret (v:=.tuple #[.agg (bK m a1 a2 a3 a4 p1 p2 p3 p4),.slice (some ⟨w.heap.size+1+1,0,none⟩) 0 0]) (by simp[results,results6,go_sem,d0,d1,d2,d3,d4,d5,d6,d7,d8]) rfl ⟨⟨m,_,_,_,_,_,[],rfl,Or.inl ⟨hv.out,by rw[tU hrt]⟩,(M3.out.ex ((Ex.refl (w.heap.size+1) W3).cells (kg m a1 a2 a3 a4 p1 p2 p3 p4) 0) (by have:=Jc.out;omega)).low (by have:=Jc.out;omega),Sv.out,DW.out _ (Nat.lt_of_lt_of_le PN.out (Ex.size ((Ex.refl (w.heap.size+1) W3).cells (kg m a1 a2 a3 a4 p1 p2 p3 p4) 0)))⟩,T3.out.put _⟩
 have hr4:1<=rate/\rate<=4:=by simpa[cA]using hrt
 obtain⟨hr1,hr4⟩:=hr4
 go_upto_region 5 with(fail)
 rw[<-HW3.out];have ka:=T3.out.a;have kf:=T3.out.c;by_cases hov:1000000<m.ck+rate
 ·
  go_wp2_with (go_at_call 28;refine(aI _ _ _ _).mono ?_;rintro e w' ⟨rfl,jD⟩;rw[hrt,jD];clear jD w')
  refine(pG true m a1 a2 a3 a4 p1 p2 p3 p4 W3 (OM.out.src.keep B3.out) hf).mono ?_;rintro e w4 ⟨⟨r,s1,s2,s3,s4,rfl,hfl,rr⟩,c4⟩;have HR:Hid (r=fQ true m):=(hfl.resolve_right (fun h=>h.1 hv.out)).2;obtain⟨b1,q1,b2,q2,b3,q3,b4,q4,e1,e2,e3,e4⟩:=rr.shapes;subst e1 e2 e3 e4;have T4:=ah (T3.out.below c4);have hon:=ones r rr.a1 rr.a2 rr.a3 rr.a4;have R4:=ah rr;have U4:=ah hon;clear hfl rr hon ka kf c4
  go_upto_region 9 with(refine wpList_store_mid (by rfl) 27 _ _ (by rfl) w2.heap.size 0 (bK r b1 b2 b3 b4 q1 q2 q3 q4) (by rfl) (by rfl) (by exact T4.out.box rfl) hinfo (by exact all_oneCell_toArray U4.out) ?_)
  have J7:Ex w2.heap.size w4 (w4.setCells w2.heap.size 0 (kg r b1 b2 b3 b4 q1 q2 q3 q4)):=(Ex.refl _ _).cells _ _;have T5:=T4.out.all rfl (kg r b1 b2 b3 b4 q1 q2 q3 q4) rfl;have R5:=R4.out.ex J7 T3.out.g;clear J7;generalize w4.setCells w2.heap.size 0 (kg r b1 b2 b3 b4 q1 q2 q3 q4)=x5 at T5 R5 ⊢;have ka:=T5.a;have kf:=T5.c;have T6:Hid (Tb w w2.heap.size (bY r.nm r.up 1000000 r.kn r.se (ai b1 r.ws q1) (ai b2 r.rs q2) (ai b3 r.qs q3) (ai b4 r.gs q4)) (x5.setCell ⟨w2.heap.size,2,none⟩ (.int .i64 1000000))):=T5.set 2 (by simp) _;have R6:Hid (dI (x5.setCell ⟨w2.heap.size,2,none⟩ (.int .i64 1000000)) r (ai b1 r.ws q1) (ai b2 r.rs q2) (ai b3 r.qs q3) (ai b4 r.gs q4) W3.heap.size):=R5.ex ((Ex.refl _ _).set 2 _) T3.out.g;have Ih:=ah (ones {r with ck:=1000000} R6.out.a1 R6.out.a2 R6.out.a3 R6.out.a4);clear T5 R5;go_wp2_with (refine wpList_store_mid (by rfl) 27 _ _ (by rfl) (w.heap.size+1) 0 (bY r.nm r.up 1000000 r.kn r.se (ai b1 r.ws q1) (ai b2 r.rs q2) (ai b3 r.qs q3) (ai b4 r.gs q4)) (by rfl) (by rfl) (by exact T6.out.d) hinfo (by exact all_oneCell_toArray (Ih.out)) ?_)
  have hrg:=World.rangeAt_setCells_same (x5.setCell ⟨w2.heap.size,2,none⟩ (.int .i64 1000000)) (w.heap.size+1) 0 (dP r.nm r.up 1000000 r.kn r.se (ai b1 r.ws q1) (ai b2 r.rs q2) (ai b3 r.qs q3) (ai b4 r.gs q4)) T6.out.d;obtain⟨d0,d1,d2,d3,d4,d5,d6,d7,d8⟩:=d9 hrg;exact bodyPost_ret (v:=.tuple #[.agg (bY r.nm r.up 1000000 r.kn r.se (ai b1 r.ws q1) (ai b2 r.rs q2) (ai b3 r.qs q3) (ai b4 r.gs q4)),.slice (some ⟨w.heap.size+1+1,0,none⟩) 0 0]) (by simp[results,results6,go_sem,d0,d1,d2,d3,d4,d5,d6,d7,d8]) rfl ⟨⟨{r with ck:=1000000},_,_,_,_,_,[],rfl,Or.inl ⟨hv.out,by rw[qe hrt hov,HR.out]⟩,(dI.ex (m:=r) R6.out ((Ex.refl (w.heap.size+1) (x5.setCell ⟨w2.heap.size,2,none⟩ (.int .i64 1000000))).cells (dP r.nm r.up 1000000 r.kn r.se (ai b1 r.ws q1) (ai b2 r.rs q2) (ai b3 r.qs q3) (ai b4 r.gs q4)) 0) (by have:=PN.out;omega)).low (by have:=PN.out;omega) |> fun h=>⟨h.a1,h.a2,h.a3,h.a4,h.gR,h.im,h.iq,h.iu,h.iV,h.jo⟩,(fun a n c h=>by injection h with _ h2 _;rw[<-h2,HR.out];exact Nat.zero_le _),DW.out _ (Nat.lt_of_lt_of_le (Nat.lt_of_lt_of_le (show w.heap.size+2<w2.heap.size from HS2.out) (Nat.le_of_lt T6.out.g)) (Ex.size ((Ex.refl (w.heap.size+1) (x5.setCell ⟨w2.heap.size,2,none⟩ (.int .i64 1000000))).cells (dP r.nm r.up 1000000 r.kn r.se (ai b1 r.ws q1) (ai b2 r.rs q2) (ai b3 r.qs q3) (ai b4 r.gs q4)) 0)))⟩,T6.out.put _⟩
 ·
  have Mp:m.ck+rate<=1000000:=by omega
  clear hov;go_wp2_with (go_at_call 28;refine(aI _ _ _ _).mono ?_;rintro e w' ⟨rfl,jD⟩;rw[hrt,jD];clear jD w')
  have B4:Hid (Below w2.heap.size w2 (W3.setCell ⟨w2.heap.size,2,none⟩ (.int .i64 (m.ck+rate)))):=iY (p:=⟨w2.heap.size,2,none⟩) B3.out (Nat.le_refl _) _;have T4:Hid (Tb w w2.heap.size (bY m.nm m.up (m.ck+rate) m.kn m.se (ai a1 m.ws p1) (ai a2 m.rs p2) (ai a3 m.qs p3) (ai a4 m.gs p4)) (W3.setCell ⟨w2.heap.size,2,none⟩ (.int .i64 (m.ck+rate)))):=T3.out.set 2 (by simp) _;obtain⟨x4,hx4⟩:∃x4,x4=(W3.setCell ⟨w2.heap.size,2,none⟩ (.int .i64 (m.ck+rate))):=⟨_,rfl⟩
  rw[<-hx4]at B4 T4 ⊢;clear ka kf hx4;obtain⟨rs',hrs⟩:∃rs',rs'=m.rs.map (bN (m.ck+rate)):=⟨_,rfl⟩
  have xU:=ah hrs;refine(pz a2 p2 m.rs (m.ck+rate) x4 (OM.out.src.keep B4.out).r2 (by have:=hf.k2;omega)).mono ?_;rintro e w5 ⟨⟨v,rfl,hs⟩,c5⟩;rw[<-hrs]at hs;obtain⟨b2,q2,rfl⟩:=Sl.shape hs;have B5:=ah (af B4.out c5);have T5:=T4.out.below c5;have J9:Ex w2.heap.size w5 (w5.setCell ⟨w2.heap.size,6,none⟩ (ai b2 rs' q2)):=(Ex.refl _ _).set 6 _;have L6:Hid (Sl (w5.setCell ⟨w2.heap.size,6,none⟩ (ai b2 rs' q2)) (ai b2 rs' q2) rs' x4.heap.size):=hs.grown (av J9) (bC (N:=w2.heap.size) (fun g hg=>Nat.lt_of_lt_of_le T4.out.g (hs.lt g hg).1) (Nat.le_refl _));have B6:Hid (Below w2.heap.size w2 (w5.setCell ⟨w2.heap.size,6,none⟩ (ai b2 rs' q2))):=iY (p:=⟨w2.heap.size,6,none⟩) B5.out (Nat.le_refl _) _;have T6:Hid (Tb w w2.heap.size (bY m.nm m.up (m.ck+rate) m.kn m.se (ai a1 m.ws p1) (ai b2 rs' q2) (ai a3 m.qs p3) (ai a4 m.gs p4)) (w5.setCell ⟨w2.heap.size,6,none⟩ (ai b2 rs' q2))):=T5.set 6 (by simp) _;have Sw:Hid (w2.heap.size<=x4.heap.size):=Nat.le_of_lt T4.out.g;have ka:=T5.a;have kf:=T5.c;clear hs c5 hrs J9 T5
  go_upto_region 13 with(fail)
  obtain⟨x6,hx6⟩:∃x6,x6=w5.setCell ⟨w2.heap.size,6,none⟩ (ai b2 rs' q2):=⟨_,rfl⟩
  rw[<-hx6]at L6 B6 T6 ⊢;clear ka kf hx6;have ka:=T6.out.a;have kf:=T6.out.c;cases hup:m.up
  ·
   have PQ:=ah hup
   go_upto_region 14 with(fail)
   clear hup;have R6:Hid (dI x6 {m with ck:=m.ck+rate,rs:=rs'} (ai a1 m.ws p1) (ai b2 rs' q2) (ai a3 m.qs p3) (ai a4 m.gs p4) w1.heap.size):=by
    have h:=(OM.out.sl.keep B6.out)
    have h9:w1.heap.size<=x4.heap.size:=(by have:=Sw.out;have:=U3.out;omega);have l1:∀g,(Value.slice a1 m.ws.length p1).ownBlock=some g->g<w2.heap.size:=fun g hg=>(OM.out.a1.lt g hg).2;have l3:∀g,(Value.slice a3 m.qs.length p3).ownBlock=some g->g<w2.heap.size:=fun g hg=>(OM.out.a3.lt g hg).2;have l4:∀g,(Value.slice a4 m.gs.length p4).ownBlock=some g->g<w2.heap.size:=fun g hg=>(OM.out.a4.lt g hg).2;have lv:∀g,(Value.slice b2 rs'.length q2).ownBlock=some g->w2.heap.size<=g:=fun g hg=>Nat.le_trans Sw.out (L6.out.lt g hg).1;exact⟨h.a1,L6.out.low h9,h.a3,h.a4,cj l1 lv (Nat.le_refl _),h.im,h.iq,eh.symm (cj l3 lv (Nat.le_refl _)),eh.symm (cj l4 lv (Nat.le_refl _)),h.jo⟩
   have Ih:=ah (ones {m with ck:=m.ck+rate,rs:=rs'} R6.out.a1 R6.out.a2 R6.out.a3 R6.out.a4);go_wp2_with (refine wpList_store_mid (by rfl) 27 _ _ (by rfl) (w.heap.size+1) 0 (bY m.nm m.up (m.ck+rate) m.kn m.se (ai a1 m.ws p1) (ai b2 rs' q2) (ai a3 m.qs p3) (ai a4 m.gs p4)) (by rfl) (by rfl) (by exact T6.out.d) hinfo (by exact all_oneCell_toArray (Ih.out)) ?_)
   have hrg:=World.rangeAt_setCells_same x6 (w.heap.size+1) 0 (dP m.nm m.up (m.ck+rate) m.kn m.se (ai a1 m.ws p1) (ai b2 rs' q2) (ai a3 m.qs p3) (ai a4 m.gs p4)) T6.out.d;obtain⟨d0,d1,d2,d3,d4,d5,d6,d7,d8⟩:=d9 hrg;exact bodyPost_ret (v:=.tuple #[.agg (bY m.nm m.up (m.ck+rate) m.kn m.se (ai a1 m.ws p1) (ai b2 rs' q2) (ai a3 m.qs p3) (ai a4 m.gs p4)),.slice (some ⟨w.heap.size+1+1,0,none⟩) 0 0]) (by simp[results,results6,go_sem,d0,d1,d2,d3,d4,d5,d6,d7,d8]) rfl ⟨⟨{m with ck:=m.ck+rate,rs:=rs'},_,_,_,_,_,[],rfl,Or.inl ⟨hv.out,by rw[qf hrt (by omega) PQ.out,<-xU.out]⟩,(R6.out.ex ((Ex.refl (w.heap.size+1) x6).cells (dP m.nm m.up (m.ck+rate) m.kn m.se (ai a1 m.ws p1) (ai b2 rs' q2) (ai a3 m.qs p3) (ai a4 m.gs p4)) 0) (by have:=Jc.out;omega)).low (by have:=Jc.out;omega),Sv.out,DW.out _ (Nat.lt_of_lt_of_le (Nat.lt_of_lt_of_le (show w.heap.size+2<w2.heap.size from HS2.out) (Nat.le_of_lt T6.out.g)) (Ex.size ((Ex.refl (w.heap.size+1) x6).cells (dP m.nm m.up (m.ck+rate) m.kn m.se (ai a1 m.ws p1) (ai b2 rs' q2) (ai a3 m.qs p3) (ai a4 m.gs p4)) 0)))⟩,T6.out.put _⟩
  have PQ:=ah hup
  go_upto_region 15 with(fail)
  clear hup;have Ja:Hid (dV (m.ck+rate) rs'):=by show dV _ _;rw[xU.out];exact nL ((cv m.ck m.rs).1 hv.out.2.2.1.2)
  have Mk:Hid (rs'.length<=20):=by show _<=_;rw[xU.out,List.length_map];exact hv.out.2.2.1.1
  have PH:Hid (Work (m.ck+rate) m rs'):=mV hv.out (by omega) Ja.out Mk.out;have Mq:Hid (cQ (m.ck+rate) ⟨rs',m.qs,m.gs,[]⟩):=⟨Ja.out,hv.out.qg (by omega),Mk.out,by show m.qs.length<=100;omega,Nat.zero_le _⟩
  have W1:=ah ((OM.out.src.keep B6.out).lists.r1)
  go_upto_if 50 with(fail)
  go_cut [] (fun wx=>∃lr lq lg b5 q5 b6 q6 b7 q7,Hid ((⟨lr,lq,lg,[]⟩:WD)=eC (m.ck+rate) m rs')/\Hid (Tb w w2.heap.size (bY m.nm m.up (m.ck+rate) m.kn m.se (ai a1 m.ws p1) (ai b5 lr q5) (ai b6 lq q6) (ai b7 lg q7)) wx)/\Hid (Sl wx (ai b5 lr q5) lr 0)/\Hid (A.Ow wx (ai b6 lq q6) lq 0)/\Hid (A.Ow wx (ai b7 lg q7) lg 0)/\Hid (∀j,(Value.slice b5 lr.length q5).ownBlock=some j->j≠w2.heap.size)/\Hid (Below w2.heap.size w2 wx))
  case first=>
   generalize hkn:m.kn=kn at *;cases kn
   ·
    have Ii:=ah hkn;clear hkn;have Jd:Hid ((⟨rs',m.qs,m.gs,[]⟩:WD)=eC (m.ck+rate) m rs'):=(by show _=_;unfold eC fx bS;rw[Ii.out];rfl);go_wp2_with fail
    go_meet
    exact⟨rs',m.qs,m.gs,_,_,_,_,_,_,Jd.out,T6.out,L6.out.low (Nat.zero_le _),(OM.out.a3.keep B6.out).low (Nat.zero_le _),(OM.out.a4.keep B6.out).low (Nat.zero_le _),(fun j hj=>by have:=(L6.out.lt j hj).1;have:=T4.out.g;omega),B6.out⟩
   have Ii:=ah hkn;clear hkn;have hlen:=hv.out.2.1.1.1;go_wp2_with fail
   refine(xX ({m with kn:=true,ck:=m.ck+rate,rs:=rs'}:aj) a1 b2 a3 a4 p1 q2 p3 p4 x6 (W1.out) (E7 L6.out) ((OM.out.a3.keep B6.out).low (Nat.zero_le _)) ((OM.out.a4.keep B6.out).low (Nat.zero_le _)) Mq.out (fun q hq=>jk hv.out q hq) hlen).mono ?_;rintro e w7 ⟨⟨v2,v3,v4,rfl,o2,o3,o4⟩,c7⟩;obtain⟨lr,hlr⟩:∃lr,lr=kL m.ws (dr (m.ck+rate) m.ws rs' (m.qs,m.gs)).1:=⟨_,rfl⟩
   obtain⟨lq,hlq⟩:∃lq,lq=(dr (m.ck+rate) m.ws rs' (m.qs,m.gs)).2.1:=⟨_,rfl⟩
   obtain⟨lg,Nc⟩:∃lg,lg=(dr (m.ck+rate) m.ws rs' (m.qs,m.gs)).2.2:=⟨_,rfl⟩
   have PR:Ow w7 v2 lr 0:=(by rw[hlr];exact o2);have Ij:A.Ow w7 v3 lq 0:=(by rw[hlq];exact o3);have PS:A.Ow w7 v4 lg 0:=(by rw[Nc];exact o4);obtain⟨b5,q5,rfl⟩:=PR.shape;obtain⟨b6,q6,rfl⟩:=Ij.shape;obtain⟨b7,q7,rfl⟩:=PS.shape;have Jd:Hid ((⟨lr,lq,lg,[]⟩:WD)=eC (m.ck+rate) m rs'):=(by show _=_;unfold eC fx bS;rw[hlr,hlq,Nc,Ii.out];rfl);have T7:=ah (T6.out.below c7);have B7:=ah (af B6.out c7);have P2:=ah PR;have P3:=ah Ij;have P4:=ah PS;have H1:Hid (W.Sl w7 (ai a1 m.ws p1) m.ws 0):=((OM.out.a1.keep B7.out).low (Nat.zero_le _)).sl;have PT:=ah (ones {m with kn:=true,ck:=m.ck+rate,rs:=lr,qs:=lq,gs:=lg} H1.out P2.out.sl P3.out.sl P4.out.sl);clear o2 o3 o4 PR Ij PS c7 hlr hlq Nc ka kf;go_wp2_with (refine wpList_store_mid (by rfl) 27 _ _ (by rfl) w2.heap.size 0 (bY m.nm m.up (m.ck+rate) true m.se (ai a1 m.ws p1) (ai b5 lr q5) (ai b6 lq q6) (ai b7 lg q7)) (by rfl) (by rfl) (by exact T7.out.box rfl) hinfo (by exact all_oneCell_toArray PT.out) ?_)
   have hE:Ex w2.heap.size w7 (w7.setCells w2.heap.size 0 (dP m.nm m.up (m.ck+rate) true m.se (ai a1 m.ws p1) (ai b5 lr q5) (ai b6 lq q6) (ai b7 lg q7))):=(Ex.refl _ _).cells _ _
   go_meet
   exact⟨lr,lq,lg,_,_,_,_,_,_,Jd.out,T7.out.all rfl _ rfl,(P2.out.grown (av hE) (qj (T7.out.ne P2.out (by decide)))).sl,P3.out.grown (A.av hE) (qj (T7.out.ne P3.out (by decide))),P4.out.grown (A.av hE) (qj (T7.out.ne P4.out (by decide))),T7.out.ne P2.out (by decide),Ex.mono B7.out hE (Nat.le_refl _)⟩
  rename World=>x8
  obtain⟨lr,lq,lg,b5,q5,b6,q6,b7,q7,Jd,T8,L8,Q8,G8,N8,B8⟩:=hcut;have Nw:=tW PH.out hq;rw[<-Jd.out]at Nw;have Mr:=ah Nw.1;have I7:=ah Nw.2;have Sy:=ah Mr.out.qg.l4;have W8:=ah ((OM.out.src.keep B8.out).lists.r1);clear Nw;clear ka kf;have ka:=T8.out.a;obtain⟨i0,hi,hz0,hz1,hz2⟩:=info_parts Pc.cE;go_wp2_with fail
  refine(AX ({m with ck:=m.ck+rate,rs:=lr,qs:=lq,gs:=lg}:aj) a1 b5 b6 b7 p1 q5 q6 q7 x8 W8.out (E7 L8.out) Q8.out (A.Ow.gv G8.out).1 Mr.out hv.out.2.1.1.1 (by show 0<=m.ck+rate;omega) Mp I7.out).mono ?_;rintro e w9 ⟨⟨v3,vo,rfl,o3,oo,dd,Sz⟩,c9⟩;obtain⟨jr,DX⟩:∃l,l=(dC m.nm (m.ck+rate) m.ws lg lr lq).1:=⟨_,rfl⟩
  obtain⟨Ik,Ea⟩:∃l,l=(dC m.nm (m.ck+rate) m.ws lg lr lq).2:=⟨_,rfl⟩
  have Ij:A.Ow w9 v3 jr 0:=by rw[DX];exact o3
  have SA:w9.ownsRow (x8.heap.size+2) 43 7 vo Ik.length (Pc.aA Ik):=by rw[Ea];exact oo
  have Ny:Hid (jr=(dC m.nm (m.ck+rate) m.ws lg lr lq).1/\Ik=(dC m.nm (m.ck+rate) m.ws lg lr lq).2):=⟨DX,Ea⟩
  have U9:Hid (Ik.length<=20):=by show _<=_;have:=lp (nm:=m.nm) (ck:=m.ck+rate) (ws:=m.ws) (gs:=lg) lr (lq,[]);have h2:=Mr.out.ln;rw[Ea];unfold dC;simp only[List.length_nil]at this;have h3:lr.length<=20:=h2;omega
  have Va:Hid (jr.length<=100):=by have h:=(jE (nm:=m.nm) (ws:=m.ws) (D:=⟨lr,lq,lg,[]⟩) Mr.out (by omega) Mp I7.out (Nat.zero_le _) lr.length).1.lq;show _<=_;rw[DX];have h2:=jF m.nm (m.ck+rate) m.ws ⟨lr,lq,lg,[]⟩;rw[h2]at h;exact h
  obtain⟨b8,q8,rfl⟩:=Ij.shape;have P3:=ah Ij;have PO:=ah SA;have DD:=ah dd;have T9:=ah (T8.out.below c9);have B9:=ah (af B8.out c9);have L9:=ah (L8.out.keep c9);have G9:=ah (G8.out.keep c9);have H1:Hid (W.Sl w9 (ai a1 m.ws p1) m.ws 0):=((OM.out.a1.keep B9.out).low (Nat.zero_le _)).sl;have PU:=ah (ones {m with ck:=m.ck+rate,rs:=lr,qs:=jr,gs:=lg} H1.out L9.out P3.out.sl G9.out.sl);have Vb:=ah Sz;clear o3 oo dd Sz Ij SA c9 DX Ea ka;go_wp2_with (refine wpList_store_mid (by rfl) 27 _ _ (by rfl) w2.heap.size 0 (bY m.nm m.up (m.ck+rate) m.kn m.se (ai a1 m.ws p1) (ai b5 lr q5) (ai b8 jr q8) (ai b7 lg q7)) (by rfl) (by rfl) (by exact T9.out.box rfl) hinfo (by exact all_oneCell_toArray PU.out) ?_)
  have hE:Ex w2.heap.size w9 (w9.setCells w2.heap.size 0 (dP m.nm m.up (m.ck+rate) m.kn m.se (ai a1 m.ws p1) (ai b5 lr q5) (ai b8 jr q8) (ai b7 lg q7))):=(Ex.refl _ _).cells _ _;obtain⟨x9,E6⟩:∃x9,x9=(w9.setCells w2.heap.size 0 (dP m.nm m.up (m.ck+rate) m.kn m.se (ai a1 m.ws p1) (ai b5 lr q5) (ai b8 jr q8) (ai b7 lg q7))):=⟨_,rfl⟩
  rw[<-E6]at hE ⊢;have yK:=ah T8.out.g;have yV:Hid (Tb w w2.heap.size (bY m.nm m.up (m.ck+rate) m.kn m.se (ai a1 m.ws p1) (ai b5 lr q5) (ai b8 jr q8) (ai b7 lg q7)) x9):=by show Tb _ _ _ _;rw[E6];exact T9.out.all rfl _ rfl
  have Vd:=ah (L9.out.grown (av hE) (qj N8.out));have Ve:Hid (A.Ow x9 (ai b8 jr q8) jr 0):=P3.out.grown (A.av hE) (qj (T9.out.ne P3.out (by decide)));have yF:Hid (A.Ow x9 (ai b7 lg q7) lg 0):=G9.out.grown (A.av hE) (qj (T9.out.ne G9.out (by decide)));have B10:Hid (Below w2.heap.size w2 x9):=Ex.mono B9.out hE (Nat.le_refl _);have Vf:Hid (Gq x8.heap.size x9 (ai b8 jr q8) jr Ik vo x9):=⟨Below.refl _ _,Ve.out,fU PO.out hE (by have:=yK.out;omega),DD.out,Nat.lt_of_lt_of_le Vb.out hE.size⟩
  clear hE E6
  go_loopw [6,8] (fun v i wx=>∃(k:Nat),k<=lg.length/\i=.int .i64 k/\∃out,Hid (out=Ik++(lg.take k).map (lM m.nm))/\Hid (Gq x8.heap.size x9 (ai b8 jr q8) jr out v wx)) (fun _ i _=>lg.length-(intOf i).toNat)
  case atStart=>exact⟨0,Nat.zero_le _,rfl,_,(by show _=_;simp),Vf.out⟩
  obtain⟨k,hk,rfl,out,PV,HV⟩:=hrel;have ka:∀j,wr.cell? ⟨w2.heap.size,j,none⟩=((bY m.nm m.up (m.ck+rate) m.kn m.se (ai a1 m.ws p1) (ai b5 lr q5) (ai b8 jr q8) (ai b7 lg q7)):Array Value)[j]?:=fun j=>(HV.out.e.cell (p:=⟨w2.heap.size,j,none⟩) yK.out).trans (yV.out.a j);have SD:=Sy.out;have hol:out.length<=100:=by rw[PV.out,List.length_append,List.length_map,List.length_take];have:=U9.out;have:=Sy.out;omega
  by_cases hlt:k<lg.length
  ·
   obtain⟨r,hr⟩:∃r,lg[k]?=some r:=⟨lg[k],List.getElem?_eq_getElem hlt⟩
   have i1:(k:Int)<(lg.length:Int):=(by omega);have Vg:Hid (out++[(eB m.nm 4 0 r.h r.c r.t)]=Ik++(lg.take (k+1)).map (lM m.nm)):=(by show _=_;rw[qk hr,PV.out,List.append_assoc]);rcases yF.out.sl with⟨-,h⟩|⟨g4,cap,h,-,hg4,Ns,-⟩;·rw[h]at hlt;simp at hlt
   injection h with e1 e2 e3;subst e1 e3;have Eb:g4<x8.heap.size:=(G8.out.lt g4 rfl).2;have hrw:=Ns.at hr;simp only[Nat.zero_add]at hrw;obtain⟨t0,t1,t2,t3⟩:=hrw;have ML:wr.cell? ⟨g4,k*4,none⟩=some (.string r.h):=(HV.out.e.cell (p:=⟨g4,k*4,none⟩) Eb).trans t0;have PW:wr.cell? ⟨g4,k*4+1,none⟩=some (.string r.c):=(HV.out.e.cell (p:=⟨g4,k*4+1,none⟩) Eb).trans t1;have PX:wr.cell? ⟨g4,k*4+2,none⟩=some (.int .i64 r.f):=(HV.out.e.cell (p:=⟨g4,k*4+2,none⟩) Eb).trans t2;have PY:wr.cell? ⟨g4,k*4+3,none⟩=some (.int .i64 r.t):=(HV.out.e.cell (p:=⟨g4,k*4+3,none⟩) Eb).trans t3;obtain⟨Je,Ec⟩:∃Je,Je=(wr.alloc (.cells (cZ r.h r.c r.f r.t) 64)):=⟨_,rfl⟩
   have PZ:=ah Ec;have B11:Hid (Below wr.heap.size wr Je):=(by show Below _ _ _;rw[Ec];exact ae bR _);have KX:Hid (Er Je wr.heap.size r.h r.c r.f r.t):=(by show _/\_;rw[Ec];exact⟨by simp[go_sem],by simp[go_sem],by simp[go_sem],by simp[go_sem]⟩);have Il:Hid (Gq x8.heap.size x9 (ai b8 jr q8) jr out u6 (Je.alloc (.cells (eB m.nm 4 0 r.h r.c r.t).cells.toArray 43))):=(HV.out.keep B11.out).keep (ae bR _);have Vh:∀j,Je.cell? ⟨w2.heap.size,j,none⟩=((bY m.nm m.up (m.ck+rate) m.kn m.se (ai a1 m.ws p1) (ai b5 lr q5) (ai b8 jr q8) (.slice (some ⟨g4,0,none⟩) lg.length q7)):Array Value)[j]?:=fun j=>((HV.out.keep B11.out).e.cell (p:=⟨w2.heap.size,j,none⟩) yK.out).trans (yV.out.a j);have hbb:=pZ m.nm 4 0 r.h r.c r.t;clear t0 t1 t2 t3 Ns hr Ec
   go_upto_region 22 with(fail)
   rw[<-PZ.out];obtain⟨LU,LV,LW,LX⟩:=KX.out;clear ka ML PW PX PY;go_wp2_with (at_builtin;refine wpList_append_own_at _ rfl _ _ 30 rfl (x8.heap.size+2) 43 i0 _ 7 96 underlying30 hi hz0 hz1 hz2 rfl (by decide) u6 out.length _ rfl (by exact Il.out.ov) ⟨_,0,none⟩ 1 1 (eB m.nm 4 0 r.h r.c r.t).cells rfl rfl (Pc.bG _ _ (by simp) _ _ _ rfl) (Pc.aU _) (by unfold maxLen;omega) (by omega) (by have h1:=Il.out.f;simp at h1 ⊢;omega) ?_;intro v' y ho hg EU hat)
   have Bb:=Il.out.row (out':=out++[(eB m.nm 4 0 r.h r.c r.t)]) hg (by rw[List.length_append,Pc.cP];exact ho) (by rcases hat with h'|h';exact Or.inl h';exact Or.inr (by rw[h'];simp));exact⟨⟨k+1,by omega,by go_num,_,Vg.out,Bb⟩,by simp[intOf];omega⟩
  have e9:k=lg.length:=by omega
  subst e9;clear hlt;have Nu:Hid ((({m with ck:=m.ck+rate,rs:=lr,qs:=jr,gs:=lg}:aj),out++[(eB m.nm 6 m.se {data:=#[]} {data:=#[]} 0)])=eS m rate):=by show _=_;rw[wu hrt (by omega) PQ.out,<-xU.out];unfold gG;have h:=Jd.out;unfold eC at h;injection h with z1 z2 z3 z4;simp only[<-z1,<-z2,<-z3];rw[<-Ny.out.1,<-Ny.out.2,PV.out,List.take_length];rfl
  have Il:Hid (Gq x8.heap.size x9 (ai b8 jr q8) jr out u6 (wr.alloc (.cells (eB m.nm 6 m.se {data:=#[]} {data:=#[]} 0).cells.toArray 43))):=HV.out.keep (ae bR _);have hbb:=pZ m.nm 6 m.se {data:=#[]} {data:=#[]} 0
  go_upto_region 24 with(at_builtin;refine wpList_append_own_at _ rfl _ _ 30 rfl (x8.heap.size+2) 43 i0 _ 7 96 underlying30 hi hz0 hz1 hz2 rfl (by decide) u6 out.length _ rfl (by exact Il.out.ov) ⟨_,0,none⟩ 1 1 (eB m.nm 6 m.se {data:=#[]} {data:=#[]} 0).cells rfl rfl (Pc.bG _ _ (by simp) _ _ _ rfl) (Pc.aU _) (by unfold maxLen;omega) (by omega) (by have h1:=Il.out.f;simp at h1 ⊢;omega) ?_;intro v' y ho hg EU hat)
  have Bb:Hid (Gq x8.heap.size x9 (ai b8 jr q8) jr (out++[(eB m.nm 6 m.se {data:=#[]} {data:=#[]} 0)]) v' y):=Il.out.row (out':=out++[(eB m.nm 6 m.se {data:=#[]} {data:=#[]} 0)]) hg (by rw[List.length_append,Pc.cP];exact ho) (by rcases hat with h'|h';exact Or.inl h';exact Or.inr (by rw[h'];simp));clear ka hbb ho hg EU hat;have ka:∀j,y.cell? ⟨w2.heap.size,j,none⟩=((bY m.nm m.up (m.ck+rate) m.kn m.se (ai a1 m.ws p1) (ai b5 lr q5) (ai b8 jr q8) (ai b7 lg q7)):Array Value)[j]?:=fun j=>(Bb.out.e.cell (p:=⟨w2.heap.size,j,none⟩) yK.out).trans (yV.out.a j);have AF:=ah (B10.out.trans (Bb.out.e.mono (Nat.le_of_lt yK.out)));have sC:Hid (y.there (w.heap.size+1) 0 9):=tV yV.out.d Bb.out.e (by have:=HS2.out;have:=yK.out;omega);have Ic:=ah Bb.out.f;go_wp2_with fail
  refine(ku ({m with ck:=m.ck+rate,rs:=lr,qs:=jr,gs:=lg}:aj) a1 b5 b8 b7 p1 q5 q8 q7 y (OM.out.src.keep AF.out).r1 (ym Vd.out Bb.out.e (fun g hg=>(L8.out.lt g hg).2)) (DV Bb.out.oq.sl) (vG yF.out.sl Bb.out.e (fun g hg=>(G8.out.lt g hg).2)) ⟨hf.k1,by have h:=Mr.out.ln;show lr.length<=1048576;have h:lr.length<=20:=h;omega,by show jr.length<=1048576;have:=Va.out;omega,by show lg.length<=1048576;omega⟩).mono ?_;rintro e yI ⟨⟨s1,s2,s3,s4,rfl,hO⟩,c13⟩;obtain⟨c1,d1',rfl⟩:=hO.a1.shape;obtain⟨c2,Im,rfl⟩:=hO.a2.shape;obtain⟨c3,Io,rfl⟩:=hO.a3.shape;obtain⟨c4,Iq,rfl⟩:=hO.a4.shape;have Jf:Hid (mS yI ({m with ck:=m.ck+rate,rs:=lr,qs:=jr,gs:=lg}:aj) (.slice c1 m.ws.length d1') (.slice c2 lr.length Im) (.slice c3 jr.length Io) (.slice c4 lg.length Iq) y.heap.size):=hO;have oO:Hid (yI.there (w.heap.size+1) 0 9):=bd sC.out (by have:=HS2.out;have:=yK.out;have:=Ic.out;omega) c13;have xV:Hid (Below w.heap.size w yI):=af (yV.out.e.trans (Bb.out.e.mono (by have:=HS2.out;have:=yK.out;omega))) c13;have P5:Hid (Pc.Sl yI v' (out++[(eB m.nm 6 m.se {data:=#[]} {data:=#[]} 0)]) (x8.heap.size+2)):=Pc.Sl.bE (Pc.aN Bb.out.ov c13);have Ms:=ah (ones ({m with ck:=m.ck+rate,rs:=lr,qs:=jr,gs:=lg}:aj) Jf.out.sl.a1 Jf.out.sl.a2 Jf.out.sl.a3 Jf.out.sl.a4);clear hO c13 ka;go_wp2_with (refine wpList_store_mid (by rfl) 27 _ _ (by rfl) (w.heap.size+1) 0 (bY m.nm m.up (m.ck+rate) m.kn m.se (.slice c1 m.ws.length d1') (.slice c2 lr.length Im) (.slice c3 jr.length Io) (.slice c4 lg.length Iq)) (by rfl) (by rfl) (by exact oO.out) hinfo (by exact all_oneCell_toArray (Ms.out)) ?_)
  have hrg:=World.rangeAt_setCells_same yI (w.heap.size+1) 0 (dP m.nm m.up (m.ck+rate) m.kn m.se (.slice c1 m.ws.length d1') (.slice c2 lr.length Im) (.slice c3 jr.length Io) (.slice c4 lg.length Iq)) oO.out;obtain⟨d0,d1,d2,d3,d4,d5,d6,d7,d8⟩:=d9 hrg;exact bodyPost_ret (v:=.tuple #[.agg (bY m.nm m.up (m.ck+rate) m.kn m.se (.slice c1 m.ws.length d1') (.slice c2 lr.length Im) (.slice c3 jr.length Io) (.slice c4 lg.length Iq)),v']) (by simp[results,results6,go_sem,d0,d1,d2,d3,d4,d5,d6,d7,d8]) rfl ⟨⟨({m with ck:=m.ck+rate,rs:=lr,qs:=jr,gs:=lg}:aj),_,_,_,_,_,out++[(eB m.nm 6 m.se {data:=#[]} {data:=#[]} 0)],rfl,Or.inl ⟨hv.out,Nu.out⟩,(Jf.out.sl.ex ((Ex.refl (w.heap.size+1) yI).cells (dP m.nm m.up (m.ck+rate) m.kn m.se (.slice c1 m.ws.length d1') (.slice c2 lr.length Im) (.slice c3 jr.length Io) (.slice c4 lg.length Iq)) 0) (by have:=HS2.out;have:=yK.out;have:=Ic.out;omega)).low (by have:=HS2.out;have:=yK.out;have:=Ic.out;omega),iy Jf.out.a1,(P5.out.ex ((Ex.refl (w.heap.size+1) yI).cells (dP m.nm m.up (m.ck+rate) m.kn m.se (.slice c1 m.ws.length d1') (.slice c2 lr.length Im) (.slice c3 jr.length Io) (.slice c4 lg.length Iq)) 0) (by have:=HS2.out;have:=yK.out;omega)).low (by have:=HS2.out;have:=yK.out;omega)⟩,Ex.mono xV.out ((Ex.refl (w.heap.size+1) yI).cells (dP m.nm m.up (m.ck+rate) m.kn m.se (.slice c1 m.ws.length d1') (.slice c2 lr.length Im) (.slice c3 jr.length Io) (.slice c4 lg.length Iq)) 0) (Nat.le_succ _)⟩
end Go.Proofs.YtlfnpjcjapljpaaGreatDoor
