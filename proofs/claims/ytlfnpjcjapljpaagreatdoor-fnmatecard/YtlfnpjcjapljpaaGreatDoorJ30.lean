import Derived.Test.YtlfnpjcjapljpaaGreatDoorJ26
import Derived.Test.YtlfnpjcjapljpaaGreatDoorJ27
namespace Go.Proofs.YtlfnpjcjapljpaaGreatDoor
open Go.Maps Go.RowKit Go.WideMaps
set_option linter.unusedVariables false
def qy(gs:List A.aC)(h:ByteArray)(t:Int):Prop:=∃a∈gs,a.h=h/\a.t=t
open Classical in
noncomputable def jY (gs:List A.aC) (h:ByteArray) (t:Int):List A.aC:=if qy gs h t then Ord.out A.aM h.data.toList gs else gs
theorem kT{gs:List A.aC}{h:ByteArray}{t:Int}(hn:¬qy gs h t):jY gs h t=gs:=if_neg hn
theorem pA{gs:List A.aC}{h:ByteArray}{t:Int}(hn:qy gs h t):jY gs h t=Ord.out A.aM h.data.toList gs:=if_pos hn
theorem kU{gs:List A.aC}{a:A.aC}{t:Int}(hs:A.dx gs)(ha:a∈gs):qy gs a.h t↔a.t=t:=by
 constructor
 ·
  rintro⟨b,hb,e,h1⟩;have:b=a:=Ord.same A.aM hs hb ha (by show b.h.data.toList=a.h.data.toList;rw[e]);subst this;exact h1
 exact fun h=>⟨a,ha,rfl,h⟩
theorem Ex.iz{x y:World}{k:Nat}(h:x.mapTurned y k):Ex k x y:=Ex.di h.grown
open Classical in
noncomputable def iP (m:aj) (p:bI):aj:=
 if m.up=true/\p.b.toList=m.nm.toList then
  if p.k=1 then(if iZ m p then⟨m.nm,m.up,m.ck,true,p.s,p.ws,m.rs,m.qs,m.gs⟩else m)
  else if p.k=3 then⟨m.nm,m.up,m.ck,m.kn,m.se,m.ws,fG m.qs p m.rs,m.qs,m.gs⟩
  else if p.k=5 then⟨m.nm,m.up,m.ck,m.kn,m.se,m.ws,m.rs,m.qs,jY m.gs p.h p.t⟩
  else m
 else m
def Takes(m:aj)(p:bI)(r:aj):Prop:=(Valid m/\r=iP m p)\/(¬Valid m/\r=ju)
theorem Takes.one{m r r':aj}{p:bI}(h:Takes m p r)(h':Takes m p r'):r=r':=by
 rcases h with⟨h1,rfl⟩|⟨h1,rfl⟩<;>rcases h' with⟨h2,rfl⟩|⟨h2,rfl⟩
 ·rfl
 ·exact(h2 h1).elim
 ·exact(h1 h2).elim
 rfl
theorem iM{m:aj}{p:bI}(h:¬(m.up=true/\p.b.toList=m.nm.toList)):iP m p=m:=if_neg h
theorem jQ{m:aj}{p:bI}(h:m.up=true/\p.b.toList=m.nm.toList)(k:p.k=1)(hh:iZ m p):iP m p=⟨m.nm,m.up,m.ck,true,p.s,p.ws,m.rs,m.qs,m.gs⟩:=by unfold iP;rw[if_pos h,if_pos k,if_pos hh]
theorem iN{m:aj}{p:bI}(h:m.up=true/\p.b.toList=m.nm.toList)(k:p.k=1)(hh:¬iZ m p):iP m p=m:=by unfold iP;rw[if_pos h,if_pos k,if_neg hh]
theorem fA{m:aj}{p:bI}(h:m.up=true/\p.b.toList=m.nm.toList)(k:p.k=3):iP m p=⟨m.nm,m.up,m.ck,m.kn,m.se,m.ws,fG m.qs p m.rs,m.qs,m.gs⟩:=by unfold iP;rw[if_pos h,if_neg (by omega),if_pos k]
theorem iO{m:aj}{p:bI}(h:m.up=true/\p.b.toList=m.nm.toList)(k:p.k=5):iP m p=⟨m.nm,m.up,m.ck,m.kn,m.se,m.ws,m.rs,m.qs,jY m.gs p.h p.t⟩:=by unfold iP;rw[if_pos h,if_neg (by omega),if_neg (by omega),if_pos k]
theorem kN{m:aj}{p:bI}(k1:p.k≠1)(k3:p.k≠3)(k5:p.k≠5):iP m p=m:=by simp[iP,k1,k3,k5]
structure mq(m:aj):Prop where
 s1:W.dx m.ws
 s2:dx m.rs
 s3:A.dx m.qs
 s4:A.dx m.gs
theorem yf{c:Int}{rs:List aw}(h:dW c rs rs.length):fh rs rs.length:=by intro j q r hj hq hr;have:=h (j+1) r hj hr;simp only[eI,hq,Bool.and_eq_true]at this;exact this.2
theorem dO{m:aj}(h:Valid m):mq m:=
 ⟨W.fT h.2.1.1.2.2.1,fT (yf h.2.2.1.2),A.fT h.2.2.2.1.1.2.1,A.fT h.2.2.2.1.2.2.1⟩
theorem mA{m:aj}(h:Valid m):∀a∈m.qs,0<=a.f/\a.t<=1000000:=by intro a ha;have h1:=h.2.2.2.1.1.2.2 a ha;have h2:=h.1;simp only[A.dR,cV,cA,Bool.and_eq_true,decide_eq_true_eq]at h1 h2;omega
theorem tQ(h c:ByteArray)(t:Int)(r:aw):(bump h c t r).c=r.c:=by unfold bump;split<;>rfl
theorem yg{h c:ByteArray}{t:Int}{r:aw}(hr:r.fits):(bump h c t r).fits:=by unfold bump;split<;>exact hr
theorem A7{qs:List A.aC}{p:bI}{rs:List aw}(h:dx rs):dx (fG qs p rs):=by
 unfold fG;split
 ·
  unfold dx Ord.dx at h ⊢;rw[List.pairwise_map];exact h.imp (fun {a b} hab=>by simp only[aM,tQ];exact hab)
 exact h
theorem tR(qs:List A.aC)(p:bI)(rs:List aw):(fG qs p rs).length=rs.length:=by unfold fG;split<;>simp
theorem yh{qs:List A.aC}{p:bI}{rs:List aw}(h:∀r∈rs,r.fits):∀r∈fG qs p rs,r.fits:=by
 unfold fG;split
 ·
  intro r hr;obtain⟨q,hq,rfl⟩:=List.mem_map.1 hr;exact yg (h q hq)
 exact h
theorem lK(gs:List A.aC)(h:ByteArray)(t:Int):(jY gs h t).Sublist gs:=by
 unfold jY;split
 ·unfold Ord.out;exact List.filter_sublist
 exact List.Sublist.refl _
theorem A2{m:aj}{p:bI}(h:mq m)(hh:iZ m p):mq ⟨m.nm,m.up,m.ck,true,p.s,p.ws,m.rs,m.qs,m.gs⟩:=⟨W.fT hh.2.2.2.2.1,h.s2,h.s3,h.s4⟩
theorem A1{m:aj}{p:bI}(h:m.fits)(hp:p.fits):aj.fits ⟨m.nm,m.up,m.ck,true,p.s,p.ws,m.rs,m.qs,m.gs⟩:=⟨h.n,hp.w,h.f2,h.f3,h.f4,hp.l,h.k2,h.k3,h.k4⟩
theorem yc{m:aj}{p:bI}(h:mq m):mq ⟨m.nm,m.up,m.ck,m.kn,m.se,m.ws,fG m.qs p m.rs,m.qs,m.gs⟩:=⟨h.s1,A7 h.s2,h.s3,h.s4⟩
theorem yb{m:aj}{p:bI}(h:m.fits):aj.fits ⟨m.nm,m.up,m.ck,m.kn,m.se,m.ws,fG m.qs p m.rs,m.qs,m.gs⟩:=⟨h.n,h.f1,yh h.f2,h.f3,h.f4,h.k1,(by show(fG _ _ _).length<=_;rw[tR];exact h.k2),h.k3,h.k4⟩
theorem tP{m:aj}{p:bI}(h:mq m):mq ⟨m.nm,m.up,m.ck,m.kn,m.se,m.ws,m.rs,m.qs,jY m.gs p.h p.t⟩:=⟨h.s1,h.s2,h.s3,List.Pairwise.sublist (lK _ _ _) h.s4⟩
theorem A4{m:aj}{p:bI}(h:m.fits):aj.fits ⟨m.nm,m.up,m.ck,m.kn,m.se,m.ws,m.rs,m.qs,jY m.gs p.h p.t⟩:=⟨h.n,h.f1,h.f2,h.f3,fun r hr=>h.f4 r ((lK _ _ _).subset hr),h.k1,h.k2,h.k3,Nat.le_trans (lK _ _ _).length_le h.k4⟩
def cI(ws:List W.ay)(c:ByteArray):Option W.ay:=ws.find? (fun q=>q.c.toList==c.toList)
def pY(r:aw)(q:W.ay):Bool:=fL r.c r.h q.c q.h r.v r.p r.s r.d r.g q.v q.p q.s q.d q.g
def eK(ws:List W.ay)(r:aw):Bool:=match cI ws r.c with|some q=>pY r q|none=>false
def Ba(r:aw)(x:Int×Int×Int):aw:={r with a:=x.1,b:=x.2.1,i:=x.2.2}
def cX(ck:Int)(ws:List W.ay)(r:aw):Option aw:=(aW r.h r.s r.d r.g r.a r.b r.i r.u ck (eK ws r)).map (Ba r)
def bU(qs:List A.aC)(h:ByteArray):Option A.aC:=qs.find? (fun q=>q.h.toList==h.toList)
def fR(h:ByteArray)(s:List A.aC×List A.aC):List A.aC×List A.aC:=
 match bU s.1 h with
 |none=>s
 |some a=>(A.db h s.1,if s.2.length<40 then Ord.cJ A.aM a s.2 else s.2)
abbrev Jb:=List aw×List A.aC×List A.aC
def cm(ck:Int)(ws:List W.ay)(st:Jb)(r:aw):Jb:=
 match cX ck ws r with
 |some r'=>(st.1++[r'],st.2)
 |none=>(st.1,fR r.h st.2)
def dr(ck:Int)(ws:List W.ay)(rs:List aw)(s:List A.aC×List A.aC):Jb:=rs.foldl (cm ck ws) ([],s)
def newR(q:W.ay):aw:=⟨q.c,q.h,q.v,q.p,q.s,q.d,q.g,1,q.p,0,0⟩
def tJ(rs:List aw)(c:ByteArray):Bool:=rs.any (fun r=>r.c.toList==c.toList)
def cN(rs:List aw)(q:W.ay):List aw:=if rs.length<20/\tJ rs q.c=false then Ord.cJ aM (newR q) rs else rs
def kL(ws:List W.ay)(rs:List aw):List aw:=ws.foldl cN rs
def jW(ck:Int)(qs:List A.aC)(h c:ByteArray):Bool:=match bU qs h with|none=>true|some a=>!(a.c.toList==c.toList)||decide (a.t+6<=ck)
def dH(ck:Int)(qs:List A.aC)(h c:ByteArray):Int:=match bU qs h with|none=>ck|some a=>if(a.c.toList==c.toList)=true then a.f else ck
def jj(gs:List A.aC)(h:ByteArray):Bool:=gs.any (fun g=>g.h.toList==h.toList)
def PL(nm:ByteArray)(ck:Int)(r:aw):Pc.bP:=⟨2,nm,0,none,0,0,r.h,r.c,ck⟩
def ib(ck:Int)(ws:List W.ay)(gs qs:List A.aC)(r:aw):Bool:=eK ws r&&(!r.h.toList.isEmpty&&(!jj gs r.h&&jW ck qs r.h r.c))
abbrev Mm:=List A.aC×List Pc.bP
def dF(nm:ByteArray)(ck:Int)(ws:List W.ay)(gs:List A.aC)(st:Mm)(r:aw):Mm:=
 if ib ck ws gs st.1 r=true then(Ord.cJ A.aM ⟨r.h,r.c,dH ck st.1 r.h r.c,ck⟩ st.1,st.2++[PL nm ck r])else st
def dC(nm:ByteArray)(ck:Int)(ws:List W.ay)(gs:List A.aC)(rs:List aw)(qs:List A.aC):Mm:=rs.foldl (dF nm ck ws gs) (qs,[])
def lM(nm:ByteArray)(g:A.aC):Pc.bP:=⟨4,nm,0,none,0,0,g.h,g.c,g.t⟩
def Mn(nm:ByteArray)(se:Int):Pc.bP:=⟨6,nm,se,none,0,0,⟨#[]⟩,⟨#[]⟩,0⟩
def bS(ck:Int)(m:aj)(rs:List aw):Jb:=if m.kn=true then dr ck m.ws rs (m.qs,m.gs)else(rs,m.qs,m.gs)
def fx(m:aj)(rs:List aw):List aw:=if m.kn=true then kL m.ws rs else rs
def gG(ck:Int)(m:aj)(rs:List aw):aj×List Pc.bP:=
 let L:=bS ck m rs
 let R:=fx m L.1
 let Q:=dC m.nm ck m.ws L.2.2 R L.2.1
 (⟨m.nm,m.up,ck,m.kn,m.se,m.ws,R,Q.1,L.2.2⟩,Q.2++L.2.2.map (lM m.nm)++[Mn m.nm m.se])
def eS(m:aj)(rate:Int):aj×List Pc.bP:=
 if cA rate 1 4=false then(m,[])
 else if 1000000<m.ck+rate then({fQ true m with ck:=1000000},[])
 else if m.up=false then({m with ck:=m.ck+rate,rs:=m.rs.map (bN (m.ck+rate))},[])
 else gG (m.ck+rate) m (m.rs.map (bN (m.ck+rate)))
def tC(m:aj)(rate:Int)(r:aj)(out:List Pc.bP):Prop:=(Valid m/\(r,out)=eS m rate)\/(¬Valid m/\r=ju/\out=[])
theorem tC.one{m r r':aj}{k:Int}{o o':List Pc.bP}(h:tC m k r o)(h':tC m k r' o'):r=r'/\o=o':=by
 rcases h with⟨h1,e⟩|⟨h1,rfl,rfl⟩<;>rcases h' with⟨h2,e'⟩|⟨h2,rfl,rfl⟩
 ·rw[<-e']at e;exact⟨congrArg Prod.fst e,congrArg Prod.snd e⟩
 ·exact(h2 h1).elim
 ·exact(h1 h2).elim
 exact⟨rfl,rfl⟩
theorem eG{α β:Type}(f:β->α->β)(b:β){l:List α}{k:Nat}{x:α}(h:l[k]?=some x):(l.take (k+1)).foldl f b=f ((l.take k).foldl f b) x:=by
 have hlt:k<l.length:=(List.getElem?_eq_some_iff.1 h).1;have he:l[k]=x:=by rw[List.getElem?_eq_getElem hlt]at h;exact Option.some.inj h
 rw[List.take_succ_eq_append_getElem hlt,he,List.foldl_append];rfl
theorem A.sr{l:List A.aC}(h:A.dx l):A.fh l l.length:=by intro j q r hj hq hr;obtain⟨h1,rfl⟩:=List.getElem?_eq_some_iff.1 hq;obtain⟨h2,rfl⟩:=List.getElem?_eq_some_iff.1 hr;have:=List.pairwise_iff_getElem.1 h j (j+1) h1 h2 (by omega);rw[Ord.dD,ByteArray.toList_eq,ByteArray.toList_eq];exact this
theorem gM{l:List aw}:dx l↔l.Pairwise (fun q r=>Op.bytesLess q.c.toList r.c.toList=true):=by
 show l.Pairwise _↔_;constructor<;>refine fun h=>h.imp (fun {a b} hab=>?_)
 ·rw[Ord.dD,ByteArray.toList_eq,ByteArray.toList_eq];exact hab
 rw[Ord.dD,ByteArray.toList_eq,ByteArray.toList_eq]at hab;exact hab
theorem qm{c c':Int}{a:A.aC}(h:A.dR c a=true)(hc:c<=c'):A.dR c' a=true:=by simp only[A.dR,cA,Bool.and_eq_true,decide_eq_true_eq]at h ⊢;exact⟨h.1,h.2.1,⟨h.2.2.1.1,by omega⟩,h.2.2.2⟩
structure QG(ck:Int)(qs gs:List A.aC):Prop where
 s3:A.dx qs
 s4:A.dx gs
 v3:∀a∈qs,A.dR ck a=true
 v4:∀a∈gs,A.dR ck a=true
 dj:∀a∈qs,jj gs a.h=false
 l4:gs.length<=40
theorem Bc{gs:List A.aC}{h:ByteArray}:jj gs h=true↔A.jt gs h:=by unfold jj A.jt;rw[List.any_eq_true]
theorem wv{gs:List A.aC}{h:ByteArray}:jj gs h=false↔¬A.jt gs h:=by rw[<-Bc];simp
theorem Valid.qg{m:aj}(h:Valid m){ck:Int}(hc:m.ck<=ck):QG ck m.qs m.gs:=
 ⟨(dO h).s3,(dO h).s4,fun a ha=>qm (h.2.2.2.1.1.2.2 a ha) hc,fun a ha=>qm (h.2.2.2.1.2.2.2 a ha) hc,fun a ha=>wv.2 (h.2.2.2.2.1 a ha),h.2.2.2.1.2.1⟩
theorem dt{qs:List A.aC}{h:ByteArray}{a:A.aC}(e:bU qs h=some a):a∈qs/\a.h=h:=
 ⟨List.mem_of_find?_eq_some e,eU (by have:=List.find?_some e;simpa using this)⟩
theorem kP{qs:List A.aC}{h:ByteArray}(e:bU qs h=none):∀a∈qs,a.h≠h:=by intro a ha he;have:=List.find?_eq_none.1 e a ha;rw[he]at this;simp at this
theorem QG.fR{ck:Int}{qs gs:List A.aC}(h:QG ck qs gs)(x:ByteArray):QG ck (fR x (qs,gs)).1 (fR x (qs,gs)).2:=by
 unfold Go.Proofs.YtlfnpjcjapljpaaGreatDoor.fR;cases e:bU (qs,gs).1 x with
 |none=>exact h
 |some a=>
  obtain⟨ha,hx⟩:=dt e;have sub:∀b∈A.db x qs,b∈qs/\b.h≠x:=fun b hb=>by obtain⟨h1,h2⟩:=List.mem_filter.1 hb;exact⟨h1,fun he=>by rw[he]at h2;simp at h2⟩
  refine⟨List.Pairwise.sublist List.filter_sublist h.s3,?_,fun b hb=>h.v3 b (sub b hb).1,?_,?_,?_⟩
  ·
   show A.dx (if _ then _ else _);split
   ·exact Ord.lA A.aM a gs h.s4
   exact h.s4
  ·
   intro b hb;have hb:b∈(if gs.length<40 then Ord.cJ A.aM a gs else gs):=hb;split at hb
   ·
    rcases Ord.gL A.aM a gs b hb with rfl|hb;·exact h.v3 b ha
    exact h.v4 b hb
   exact h.v4 b hb
  ·
   intro b hb;obtain⟨h1,h2⟩:=sub b hb;have h3:=h.dj b h1;show jj (if gs.length<40 then Ord.cJ A.aM a gs else gs) b.h=false;split
   ·
    unfold jj at h3 ⊢;rw[List.any_eq_false]at h3 ⊢;intro g hg;rcases Ord.gL A.aM a gs g hg with rfl|hg;·rw[hx];simp;exact fun e=>h2 (eU e).symm
    exact h3 g hg
   exact h3
  show(if gs.length<40 then Ord.cJ A.aM a gs else gs).length<=40;split
  ·have:=Ord.lB A.aM a gs;omega
  exact h.l4
theorem yo(x:ByteArray)(s:List A.aC×List A.aC):(fR x s).1.length<=s.1.length:=by
 unfold fR;split
 ·exact Nat.le_refl _
 exact List.length_filter_le _ _
theorem oE{ck:Int}{ws:List W.ay}:∀(rs:List aw)(st:Jb),QG ck st.2.1 st.2.2->QG ck (rs.foldl (cm ck ws) st).2.1 (rs.foldl (cm ck ws) st).2.2/\(rs.foldl (cm ck ws) st).2.1.length<=st.2.1.length
 |[],st,h=>⟨h,Nat.le_refl _⟩
 |r::rs,st,h=>by
  rw[List.foldl_cons];have h1:QG ck (cm ck ws st r).2.1 (cm ck ws st r).2.2/\(cm ck ws st r).2.1.length<=st.2.1.length:=by
   unfold cm;split
   ·exact⟨h,Nat.le_refl _⟩
   exact⟨QG.fR (qs:=st.2.1) (gs:=st.2.2) h r.h,yo r.h st.2⟩
  have h2:=oE (ck:=ck) (ws:=ws) rs _ h1.1;exact⟨h2.1,Nat.le_trans h2.2 h1.2⟩
theorem lH{ck:Int}{ws:List W.ay}:∀(rs:List aw)(st:Jb),(rs.foldl (cm ck ws) st).1=st.1++rs.filterMap (cX ck ws)
 |[],st=>by simp
 |r::rs,st=>by
  rw[List.foldl_cons,lH rs];unfold cm;cases e:cX ck ws r with
  |none=>simp[e]
  |some r'=>simp[e]
theorem iQ{ck:Int}{ws:List W.ay}{r r':aw}(h:cX ck ws r=some r'):r'.c=r.c:=by unfold cX at h;obtain⟨x,-,rfl⟩:=Option.map_eq_some_iff.1 h;rfl
theorem wy(n:Int):0<=eJ n/\eJ n<=100:=by unfold eJ;repeat' split<;>omega
theorem eN{ck:Int}{r:aw}{a b i:Int}(hr:r.ok ck=true)(ha:1<=a/\a<=6)(hb:fK a b=true)(hi:0<=i/\i<=1000)(hl:bq a=false\/bj r.h r.u ck=true):(Ba r (a,b,i)).ok ck=true:=by simp only[aw.ok,eL,Bool.and_eq_true]at hr;simp only[aw.ok,eL,Bool.and_eq_true,Ba,cA,Bool.or_eq_true,Bool.not_eq_true'];exact⟨hr.1,⟨decide_eq_true ha.1,decide_eq_true ha.2⟩,hb,⟨decide_eq_true hi.1,decide_eq_true hi.2⟩,hr.2.2.2.2.1,hl⟩
theorem Bd{ck:Int}{ws:List W.ay}{r r':aw}(hr:r.ok ck=true)(h:cX ck ws r=some r'):r'.ok ck=true:=by
 unfold cX at h;obtain⟨x,hx,rfl⟩:=Option.map_eq_some_iff.1 h;have hr':=hr;simp only[aw.ok,eL,dc,dv,Bool.and_eq_true,cA,decide_eq_true_eq,Bool.or_eq_true,Bool.not_eq_true']at hr';obtain⟨⟨-,-,-,t1,t2,t3,t4⟩,h1,h2,h3,h4,h5⟩:=hr';have b1:=wy r.i;have b2:=wy (r.i+1);have al:∀{P:Prop},bq r.a=true->bj r.h r.u ck=true:=fun ha=>by
  rcases h5 with h5|h5;·rw[ha]at h5;cases h5
  exact h5
 have L:∀{a b:Int},a≠2->0<=b->b<=100->fK a b=true:=fun h h' h''=>by unfold fK cA;rw[if_neg h];simp[h',h'']
 unfold aW at hx;split at hx
 ·
  split at hx
  ·
   rename_i hal;cases hx;exact eN hr (by omega) (L (by omega) t4.1 t4.2) h3 (Or.inr (al (P:=True) hal))
  cases hx
 split at hx
 ·
  split at hx
  ·rename_i hl;cases hx;exact eN hr (by omega) (L (by omega) t2.1 t2.2) h3 (Or.inr hl)
  cases hx;exact eN hr (by omega) (by rfl) h3 (Or.inl (by rfl))
 rename_i ha2;unfold fK cA at h2;rw[if_neg ha2]at h2;simp only[Bool.and_eq_true,decide_eq_true_eq]at h2;split at hx
 ·cases hx;exact eN hr h1 (L ha2 (by omega) (by omega)) h3 h5
 split at hx
 ·
  split at hx
  ·rename_i hl;cases hx;exact eN hr (by omega) (L (by omega) t2.1 t2.2) h3 (Or.inr hl)
  cases hx;exact eN hr (by omega) (by rfl) h3 (Or.inl (by rfl))
 split at hx
 ·
  rename_i Vi;cases hx;exact eN hr (by omega) (L (by omega) t3.1 t3.2) h3 (Or.inr (al (P:=True) (by rw[Vi];rfl)))
 split at hx
 ·
  split at hx
  ·cases hx;exact eN hr (by omega) (L (by omega) b2.1 b2.2) (by omega) (Or.inl (by rfl))
  cases hx;exact eN hr (by omega) (L (by omega) b1.1 b1.2) h3 (Or.inl (by rfl))
 split at hx
 ·cases hx
 cases hx;exact eN hr h1 (L ha2 h2.1 h2.2) h3 h5
theorem Be{c ck:Int}{r:aw}(h:r.ok c=true):(bN ck r).ok ck=true:=by
 simp only[aw.ok,eL,Bool.and_eq_true]at h;obtain⟨h1,h2,h3,h4,h5,h6⟩:=h;unfold bN;split
 ·
  simp only[aw.ok,eL,Bool.and_eq_true];exact⟨h1,by rfl,by rfl,h4,h5,by rfl⟩
 rename_i hn;simp only[aw.ok,eL,Bool.and_eq_true];refine⟨h1,h2,h3,h4,h5,?_⟩;cases ha:bq r.a;·rfl
 cases hl:bj r.h r.u ck;·exact absurd ⟨ha,hl⟩ hn
 rfl
theorem mB(ck:Int)(r:aw):(bN ck r).c=r.c/\(bN ck r).h=r.h:=by unfold bN;split<;>exact⟨rfl,rfl⟩
theorem nL{c ck:Int}{rs:List aw}(h:dV c rs):dV ck (rs.map (bN ck)):=by
 refine⟨fun x hx=>?_,?_⟩
 ·
  obtain⟨y,hy,rfl⟩:=List.mem_map.1 hx;exact Be (h.1 y hy)
 rw[List.pairwise_map];exact h.2.imp (fun {a b} hab=>by rw[(mB ck a).1,(mB ck b).1];exact hab)
theorem Bf{ck:Int}{ws:List W.ay}{rs:List aw}(h:dV ck rs):dV ck (rs.filterMap (cX ck ws)):=by
 refine⟨fun x hx=>?_,?_⟩
 ·
  obtain⟨y,hy,e⟩:=List.mem_filterMap.1 hx;exact Bd (h.1 y hy) e
 rw[List.pairwise_filterMap];exact h.2.imp (fun {a b} hab x hx y hy=>by rw[iQ hx,iQ hy];exact hab)
theorem Ed{ck:Int}{q:W.ay}(h:q.ok=true):(newR q).ok ck=true:=by
 have h':=h;simp only[W.ay.ok,dc,dv,cA,Bool.and_eq_true,decide_eq_true_eq]at h';simp only[aw.ok,eL,Bool.and_eq_true,newR];refine⟨h,by rfl,?_,by rfl,?_,by rfl⟩;·unfold fK cA;simp;omega
 unfold fz;split<;>rfl
theorem vH{ck:Int}:∀(ws:List W.ay)(rs:List aw),(∀q∈ws,q.ok=true)->dV ck rs->rs.length<=20->dV ck (ws.foldl cN rs)/\(ws.foldl cN rs).length<=20
 |[],rs,_,h,hl=>⟨h,hl⟩
 |q::ws,rs,hw,h,hl=>by
  rw[List.foldl_cons];refine vH ws _ (fun x hx=>hw x (List.mem_cons_of_mem _ hx)) ?_ ?_
  ·
   unfold cN;split
   ·
    refine⟨fun x hx=>?_,gM.1 (Ord.lA aM _ rs (gM.2 h.2))⟩;rcases Ord.gL aM _ rs x hx with rfl|hx;·exact Ed (hw q (List.mem_cons_self ..))
    exact h.1 x hx
   exact h
  unfold cN;split
  ·
   rename_i hc;have:=Ord.lB aM (newR q) rs;omega
  exact hl
theorem Bg{ck:Int}{r:aw}(h:r.ok ck=true)(hh:r.h.toList.isEmpty=false):holdB r.h=true/\cF r.c=true:=by
 simp only[aw.ok,eL,dc,Bool.and_eq_true,Bool.or_eq_true]at h;obtain⟨⟨h1,h2,h3,h4⟩,-⟩:=h;rcases h3 with h3|h3;·rw[hh]at h3;cases h3
 exact⟨h3,h1⟩
def kH(nm:ByteArray)(c:Pc.bP):Prop:=c.b=nm/\c.a=none/\c.n=0/\c.c=0/\((c.k=2\/c.k=4)/\c.s=0/\holdB c.h=true/\cF c.p=true/\(0<=c.t/\c.t<=1000000)\/c.k=6/\(0<=c.s/\c.s<=1000000)/\c.h=⟨#[]⟩/\c.p=⟨#[]⟩/\c.t=0)
theorem su{nm:ByteArray}{ck:Int}{ws:List W.ay}{gs:List A.aC}(h0:0<=ck)(h1:ck<=1000000):∀(rs:List aw)(st:Mm),(∀r∈rs,r.ok ck=true)->QG ck st.1 gs->(∀c∈st.2,kH nm c) ->
  QG ck (rs.foldl (dF nm ck ws gs) st).1 gs/\(∀c∈(rs.foldl (dF nm ck ws gs) st).2,kH nm c)/\(rs.foldl (dF nm ck ws gs) st).1.length<=st.1.length+rs.length
 |[],st,_,h,hs=>⟨h,hs,Nat.le_refl _⟩
 |r::rs,st,hr,h,hs=>by
  rw[List.foldl_cons];have h2:QG ck (dF nm ck ws gs st r).1 gs/\(∀c∈(dF nm ck ws gs st r).2,kH nm c)/\(dF nm ck ws gs st r).1.length<=st.1.length+1:=by
   unfold dF;split
   ·
    rename_i hb;simp only[ib,Bool.and_eq_true,Bool.not_eq_true']at hb;obtain⟨-,hb1,hb2,-⟩:=hb;obtain⟨k1,k2⟩:=Bg (hr r (List.mem_cons_self ..)) hb1;have hf:0<=dH ck st.1 r.h r.c/\dH ck st.1 r.h r.c<=ck:=by
     unfold dH;split
     ·omega
     rename_i a ha;split
     ·
      have:=h.v3 a (dt ha).1;simp only[A.dR,cA,Bool.and_eq_true,decide_eq_true_eq]at this;omega
     omega
    refine⟨⟨Ord.lA _ _ _ h.s3,h.s4,fun a ha=>?_,h.v4,fun a ha=>?_,h.l4⟩,fun c hc=>?_,Ord.lB _ _ _⟩
    ·
     rcases Ord.gL _ _ _ a ha with rfl|ha
     ·
      simp only[A.dR,cA,Bool.and_eq_true,decide_eq_true_eq];exact⟨k1,k2,⟨h0,Int.le_refl _⟩,hf⟩
     exact h.v3 a ha
    ·
     rcases Ord.gL _ _ _ a ha with rfl|ha;·exact hb2
     exact h.dj a ha
    rcases List.mem_append.1 hc with hc|hc;·exact hs c hc
    simp only[List.mem_singleton]at hc;subst hc;exact⟨rfl,rfl,rfl,rfl,Or.inl ⟨Or.inl rfl,rfl,k1,k2,h0,h1⟩⟩
   exact⟨h,hs,Nat.le_succ _⟩
  obtain⟨a1,a2,a3⟩:=su h0 h1 rs _ (fun x hx=>hr x (List.mem_cons_of_mem _ hx)) h2.1 h2.2.1;exact⟨a1,a2,by rw[List.length_cons];omega⟩
theorem QG.say{ck:Int}{qs gs:List A.aC}(h:QG ck qs gs)(hl:qs.length<=40):(ml ck qs/\ml ck gs)/\∀r∈qs,¬A.jt gs r.h:=
 ⟨⟨⟨hl,A.sr h.s3,h.v3⟩,⟨h.l4,A.sr h.s4,h.v4⟩⟩,fun a ha=>wv.1 (h.dj a ha)⟩
structure Work(ck:Int)(m:aj)(rs:List aw):Prop where
 lv:dV ck (bS ck m rs).1
 ll:(bS ck m rs).1.length<=20
 qg:QG ck (bS ck m rs).2.1 (bS ck m rs).2.2
 ql:(bS ck m rs).2.1.length<=m.qs.length
 pl:dV ck (fx m (bS ck m rs).1)
 pn:(fx m (bS ck m rs).1).length<=20
theorem jk{m:aj}(h:Valid m):∀q∈m.ws,q.ok=true:=fun q hq=>by obtain⟨j,hj⟩:=List.getElem?_of_mem hq;exact h.2.1.1.2.1 j q (List.getElem?_eq_some_iff.1 hj).1 hj
theorem mV{m:aj}{ck:Int}{rs:List aw}(h:Valid m)(hc:m.ck<=ck)(hr:dV ck rs)(hl:rs.length<=20):Work ck m rs:=by
 have lv:dV ck (bS ck m rs).1/\(bS ck m rs).1.length<=20/\QG ck (bS ck m rs).2.1 (bS ck m rs).2.2/\(bS ck m rs).2.1.length<=m.qs.length:=by
  unfold bS;split
  ·
   have h1:=oE (ck:=ck) (ws:=m.ws) rs ([],m.qs,m.gs) (h.qg hc);have h2:(dr ck m.ws rs (m.qs,m.gs)).1=rs.filterMap (cX ck m.ws):=(by unfold dr;rw[lH];rfl);rw[h2];exact⟨Bf hr,Nat.le_trans (List.length_filterMap_le _ _) hl,h1.1,h1.2⟩
  exact⟨hr,hl,h.qg hc,Nat.le_refl _⟩
 have pl:dV ck (fx m (bS ck m rs).1)/\(fx m (bS ck m rs).1).length<=20:=by
  unfold fx;split
  ·exact vH m.ws _ (jk h) lv.1 lv.2.1
  exact⟨lv.1,lv.2.1⟩
 exact⟨lv.1,lv.2.1,lv.2.2.1,lv.2.2.2,pl.1,pl.2⟩
theorem yp{c c':Int}{r:aw}(h:r.ok c=true):(eZ r).ok c'=true:=by simp only[aw.ok,eL,Bool.and_eq_true]at h ⊢;obtain⟨h1,h2,h3,h4,h5,h6⟩:=h;exact⟨h1,by simp[eZ,cA],by simp[eZ,fK],h4,h5,by simp[eZ,bq]⟩
theorem yq{m:aj}(h:Valid m):Valid {fQ true m with ck:=1000000}:=by
 obtain⟨h1,h2,h3,h4,h5,h6⟩:=va (dm:=true) h;have hP:=(cv m.ck m.rs).1 h.2.2.1.2;refine⟨?_,h2,⟨h3.1,(cv _ _).2 ⟨fun x hx=>?_,((cv _ _).1 h3.2).2⟩⟩,⟨⟨h4.1.1,h4.1.2.1,fun r hr=>by cases hr⟩,⟨h4.2.1,h4.2.2.1,fun r hr=>by cases hr⟩⟩,h5,Or.inr (h6.resolve_left (by intro h;cases h))⟩
 ·
  simp only[cV,fQ,Bool.and_eq_true]at h1 ⊢;exact⟨h1.1,by decide,h1.2.2⟩
 have hx:x∈cx true m.rs:=hx;unfold cx at hx;rw[if_pos rfl]at hx;obtain⟨y,hy,rfl⟩:=List.mem_map.1 hx;exact yp (hP.1 y (List.mem_filter.1 (List.mem_filter.1 hy).1).1)
theorem nM{m:aj}{rate:Int}(h:Valid m)(hq:m.qs.length<=20):Valid (eS m rate).1/\(∀c∈(eS m rate).2,kH m.nm c)/\m.ck<=(eS m rate).1.ck:=by
 have hP:=(cv m.ck m.rs).1 h.2.2.1.2;have hp:=h.1;simp only[cV,cA,Bool.and_eq_true,decide_eq_true_eq]at hp;obtain⟨p1,⟨p2,p3⟩,p4,p5⟩:=hp;unfold eS;split
 ·exact⟨h,(fun c hc=>by cases hc),Int.le_refl _⟩
 rename_i hr;have hr':1<=rate/\rate<=4:=by simp only[Bool.not_eq_false,cA,Bool.and_eq_true,decide_eq_true_eq]at hr;exact hr
 split
 ·exact⟨yq h,(fun c hc=>by cases hc),p3⟩
 rename_i hck;have xC:m.ck<=m.ck+rate:=by omega
 have hW:dV (m.ck+rate) (m.rs.map (bN (m.ck+rate))):=nL hP;have hpp:cV {m with ck:=m.ck+rate}=true:=by simp only[cV,cA,Bool.and_eq_true,decide_eq_true_eq];exact⟨p1,⟨by omega,by omega⟩,p4,p5⟩
 split
 ·
  rename_i hu;have hd:=h.2.2.2.2.2.resolve_left (by rw[hu];simp);have hq:=(h.qg xC).say h.2.2.2.1.1.1;refine⟨⟨hpp,h.2.1,⟨by show(m.rs.map _).length<=20;rw[List.length_map];exact h.2.2.1.1,(cv _ _).2 hW⟩,hq.1,hq.2,Or.inr ⟨hd.1,hd.2.1,hd.2.2.1,fun r hr=>?_⟩⟩,(fun c hc=>by cases hc),xC⟩;have hr:r∈m.rs.map (bN (m.ck+rate)):=hr;obtain⟨y,hy,rfl⟩:=List.mem_map.1 hr;have hy':=hd.2.2.2 y hy;unfold dL at hy' ⊢;rw[(mB _ y).2];unfold bN;split
  ·
   rename_i hc;unfold bj at hc;have h3:=hc.2;simp only[Bool.or_eq_false_iff]at h3;rw[h3.1];simp
  exact hy'
 rename_i hu;have hu':m.up=true:=by simpa using hu
 have K:=mV h xC hW (by rw[List.length_map];exact h.2.2.1.1);obtain⟨a1,a2,a3⟩:=su (nm:=m.nm) (ws:=m.ws) (by omega) (by omega) (fx m (bS (m.ck+rate) m (m.rs.map (bN (m.ck+rate)))).1) ((bS (m.ck+rate) m (m.rs.map (bN (m.ck+rate)))).2.1,[]) K.pl.1 K.qg (fun c hc=>by cases hc);have K1:=K.ql;have K2:=K.pn;have hq2:=a1.say (by simp only at a3;omega);refine⟨⟨hpp,h.2.1,⟨K.pn,(cv _ _).2 K.pl⟩,hq2.1,hq2.2,Or.inl hu'⟩,fun c hc=>?_,xC⟩;simp only[gG,List.mem_append,List.mem_map,List.mem_singleton]at hc;rcases hc with(hc|⟨g,hg,rfl⟩)|rfl;·exact a2 c hc
 ·
  have:=K.qg.v4 g hg;simp only[A.dR,cA,Bool.and_eq_true,decide_eq_true_eq]at this;exact⟨rfl,rfl,rfl,rfl,Or.inl ⟨Or.inr rfl,rfl,this.1,this.2.1,by show 0<=g.t;omega,by show g.t<=_;omega⟩⟩
 exact⟨rfl,rfl,rfl,rfl,Or.inr ⟨rfl,⟨p4,p5⟩,rfl,rfl,rfl⟩⟩
theorem DI{ck t:Int}{h c:ByteArray}{r:aw}(hr:r.ok ck=true)(hh:holdB h=true)(h0:0<=t)(h1:t<=1000000):(bump h c t r).ok ck=true:=by
 unfold bump;split
 ·
  rename_i hb;obtain⟨e1,e2,e3⟩:=hb;simp only[aw.ok,eL,Bool.and_eq_true]at hr ⊢;obtain⟨q1,q2,q3,q4,q5,q6⟩:=hr;have hne:r.h.toList.isEmpty=false:=by
   rw[e1];unfold holdB cF at hh;simp only[Bool.and_eq_true,cA,decide_eq_true_eq]at hh;have hs:=hh.1.1.1;cases hl:h.toList.isEmpty;·rfl
   rw[ByteArray.toList_eq,List.isEmpty_iff]at hl;have h2:h.data.toList.length=h.data.size:=Array.length_toList;rw[hl]at h2;have h3:h.size=h.data.size:=rfl;simp only[List.length_nil]at h2;omega
  refine⟨q1,q2,q3,q4,?_,?_⟩
  ·
   unfold fz;rw[if_neg (by rw[hne];simp)];simp only[cA,Bool.and_eq_true,decide_eq_true_eq];omega
  unfold bj at q6 ⊢;rw[hne]at q6 ⊢;simp only[Bool.false_or,Bool.or_eq_true,decide_eq_true_eq]at q6 ⊢;exact q6.imp id (fun q=>by omega)
 exact hr
theorem nN{m:aj}{p:bI}(h:Valid m):Valid (iP m p):=by
 by_cases hs:m.up=true/\p.b.toList=m.nm.toList;rotate_left;·rw[iM hs];exact h
 by_cases k1:p.k=1
 ·
  by_cases hh:iZ m p
  ·
   rw[jQ hs k1 hh];obtain⟨h1,h2,h3,h4,h5,h6⟩:=h;simp only[cV,Bool.and_eq_true]at h1;have hp:=hh.2.1;simp only[cA,Bool.and_eq_true,decide_eq_true_eq]at hp;exact⟨by simp only[cV,Bool.and_eq_true];exact⟨h1.1,h1.2.1,by simp only[cA,Bool.and_eq_true,decide_eq_true_eq];omega⟩,⟨hh.2.2,Or.inl rfl⟩,h3,h4,h5,Or.inl hs.1⟩
  rw[iN hs k1 hh];exact h
 by_cases k3:p.k=3
 ·
  rw[fA hs k3];have hP:=(cv m.ck m.rs).1 h.2.2.1.2;have hlen:=tR m.qs p m.rs;have hq:dV m.ck (fG m.qs p m.rs):=by
   by_cases hy:i5 m.qs p.h p.c p.t
   ·
    rw[fX hy];obtain⟨a,ha,e1,e2,e3⟩:=hy;have hv:=h.2.2.2.1.1.2.2 a ha;have hb:=mA h a ha;simp only[A.dR,Bool.and_eq_true]at hv;rw[e1]at hv;simp only[cA,Bool.and_eq_true,decide_eq_true_eq]at e3;refine⟨fun r hr=>?_,?_⟩
    ·
     obtain⟨q,hq,rfl⟩:=List.mem_map.1 hr;exact DI (hP.1 q hq) hv.1 (by omega) (by omega)
    rw[List.pairwise_map];exact hP.2.imp (fun {a b} hab=>by simp only[tQ];exact hab)
   rw[gu hy];exact hP
  obtain⟨h1,h2,h3,h4,h5,h6⟩:=h;exact⟨h1,h2,⟨by show(fG _ _ _).length<=20;rw[hlen];exact h3.1,(cv _ _).2 hq⟩,h4,h5,Or.inl hs.1⟩
 by_cases k5:p.k=5
 ·
  rw[iO hs k5];have hsub:=lK m.gs p.h p.t;have hsrt:=(tP (p:=p) (dO h)).s4;obtain⟨h1,h2,h3,h4,h5,h6⟩:=h;exact⟨h1,h2,h3,⟨h4.1,Nat.le_trans hsub.length_le h4.2.1,A.sr hsrt,fun r hr=>h4.2.2.2 r (hsub.subset hr)⟩,fun r hr ⟨g,hg,e⟩=>h5 r hr ⟨g,hsub.subset hg,e⟩,Or.inl hs.1⟩
 rw[kN k1 k3 k5];exact h
theorem qT{m:aj}(h:Valid m):∀r∈m.rs,bq r.a=true->r.h.toList.isEmpty=false->m.ck+4<=r.u:=by
 intro r hr ha hh;have hP:=((cv m.ck m.rs).1 h.2.2.1.2).1 r hr;have hp:=h.1;simp only[cV,cA,Bool.and_eq_true,decide_eq_true_eq]at hp;simp only[aw.ok,eL,Bool.and_eq_true]at hP;have h6:=hP.2.2.2.2.2;unfold bj at h6;rw[ha,hh]at h6;simp only[Bool.not_true,Bool.false_or,decide_eq_true_eq]at h6;have hw:wrap64 (m.ck+4)=m.ck+4:=by unfold wrap64;omega
 omega
end Go.Proofs.YtlfnpjcjapljpaaGreatDoor
namespace Go.Proofs.YtlfnpjcjapljpaaGreatDoor
open Go.Proofs.Tryz Go.RowKit
set_option maxRecDepth 4000
set_option maxHeartbeats 4000000
set_option linter.unusedVariables false
theorem iD{c:Bool}{p q:Prop}(h:c=true)(hp:p):if c=true then p else q:=by rw[if_pos h];exact hp
theorem da{y:World}{o:Obj}{z:Nat}(hz:z=y.heap.size):(y.alloc o).heap[z]?=some o:=by subst hz;show(y.heap.push o)[y.heap.size]?=some o;simp
theorem iE{y:World}{o o':Obj}{z:Nat}(h:y.heap[z]?=some o):(y.alloc o').heap[z]?=some o:=by
 have hz:z<y.heap.size:=by
  rcases Nat.lt_or_ge z y.heap.size with h'|h';·exact h'
  rw[Array.getElem?_eq_none h']at h;cases h
 show(y.heap.push o')[z]?=some o;rw[Array.getElem?_push_lt hz,<-h,Array.getElem?_eq_getElem hz]
theorem heap_drew{y:World}{o:Obj}{z:Nat}(h:y.heap[z]?=some o):(y.drew).heap[z]?=some o:=h
theorem uI{x y:World}{z:Nat}(hg:x.grownBy y (some z)):∀j o,x.heap[j]?=some o->j≠z->y.heap[j]?=some o:=by
 intro j o h hne;have hz:j<x.heap.size:=by
  rcases Nat.lt_or_ge j x.heap.size with h'|h';·exact h'
  rw[Array.getElem?_eq_none h']at h;cases h
 rw[hg.block j hz (fun e=>hne (Option.some.inj e))];exact h
theorem pD{y:World}{z size:Nat}{t:TypeId}(h:y.heap[z]?=some (.cells #[] t)):y.ownsRow z t size (.slice (some ⟨z,0,none⟩) 0 0) 0 []:=
 ⟨by simp,Or.inr ⟨z,0,#[],rfl,Nat.le_refl _,h,Nat.le_refl _,Nat.zero_le _,by simp,by simp⟩⟩
theorem lS{y:World}{u:Nat}{C:Array Value}{t:TypeId}(h:y.heap[u]?=some (.cells C t)):∀j v,C.toList[j]?=some v->y.cell? ((⟨u,0,none⟩:Addr).add j)=some v:=by intro j v hj;rw[Addr.add_mid];rw[cell_of_row y u _ C _ (0,0) h,Nat.zero_add];simpa using hj
theorem Ey{x y:World}{base k:Nat}{e:TypeId}{size:Nat}{v:Value}{n:Nat}{xs:List Value}(h:x.ownsRow base e size v n xs)(he:Ex k x y)(hk:k<base):y.ownsRow base e size v n xs:=
 ⟨h.1,h.2.imp id (fun⟨g,cap,cur,h1,h2,h3,h4⟩=>⟨g,cap,cur,h1,h2,by
  have hg:g<x.heap.size:=by
   rcases Nat.lt_or_ge g x.heap.size with h'|h';·exact h'
   rw[Array.getElem?_eq_none h']at h3;cases h3
  rw[he.block g hg (by omega)];exact h3,h4⟩)⟩
theorem eE{x:World}{base:Nat}{e:TypeId}{size:Nat}{v:Value}{n:Nat}{xs:List Value}(h:x.ownsRow base e size v n xs):∃a p,v=.slice a n p:=by
 rcases h.2 with⟨h1,h2⟩|⟨g,cap,cur,h1,-⟩;·subst h2;exact⟨none,0,h1⟩
 exact⟨_,_,h1⟩
theorem W.pE(r:W.ay):∀u∈r.cells,u.oneCell'=true:=by intro u hu;exact W.bw [r] u (by simpa[W.aA]using hu)
theorem W.step1{o:Oper}{a:Act}{Y:World}{K:Act->World->Prop}{Q:Exit->Act->World->Prop}(z:Nat)(s x:Operand)
  (ho:o.op=.call {callee:=.builtin .append,args:=#[s,x],argTypes:=#[23,23]}) (l:List W.ay) (ad:Option Addr) (c:Nat)
  (hs:a.eval s=.slice (some ⟨z,0,none⟩) 0 0) (hz:Y.heap[z]?=some (.cells #[] 37)) (hx:a.eval x=.slice ad l.length c) (hsrc:W.Src Y ad c l) (hl:l.length<=1048576)
  (h:∀s' w',w'.ownsRow z 37 7 s' l.length (W.aA l)->Y.grownBy w' (some z)->K (a.put o.dst s') w'):o.wp prog a Y K Q:=by
 obtain⟨i0,hi,hz0,hz1,hz2⟩:=info_parts W.cE;have hown:Y.ownsRow z 37 7 (.slice (some ⟨z,0,none⟩) 0 0) 0 []:=pD hz;have hzl:z<Y.heap.size:=by
  rcases Nat.lt_or_ge z Y.heap.size with h'|h';·exact h'
  rw[Array.getElem?_eq_none h']at hz;cases hz
 rcases hsrc with⟨rfl,rfl,rfl⟩|⟨g,rfl,hg,hr⟩
 ·
  have hrun:=run_append_owned_none (P:=prog) (w:=Y) z 23 o.type 37 i0 7 underlying23 hi _ 0 [] hown;unfold Oper.wp;simp[execOp,ho,resolve,invoke,builtin,hs,hx,hrun,Result.andThen];exact h _ _ hown ⟨rfl,rfl,rfl,Nat.le_refl _,fun _ _ _=>rfl⟩
 ·
  refine wp_append_own _ s x 23 ho z 37 i0 _ 7 72 underlying23 hi hz0 hz1 hz2 rfl (by decide) _ 0 [] hs hown ⟨g,0,none⟩ l.length c (W.aA l) hx (W.aZ _) (W.cO hr) (W.bw _) (by unfold maxLen;omega) (by omega) (by omega) ?_;intro s' w' ho' hg' hn';exact h s' w' (by simpa using ho') hg'
theorem W.step2{o:Oper}{a:Act}{Y:World}{K:Act->World->Prop}{Q:Exit->Act->World->Prop}(B z:Nat)(s x:Operand)
  (ho:o.op=.call {callee:=.builtin .append,args:=#[s,x],argTypes:=#[23,23]}) (l:List W.ay) (r:W.ay) (v:Value)
  (hs:a.eval s=v) (hown:Y.ownsRow B 37 7 v l.length (W.aA l)) (hB:B<=Y.heap.size) (hx:a.eval x=.slice (some ⟨z,0,none⟩) 1 1) (hz:Y.heap[z]?=some (.cells r.cells.toArray 37)) (hl:l.length<=1048576)
  (h:∀s' w',w'.ownsRow B 37 7 s' (l.length+1) (W.aA (l++[r]))->Y.grownBy w' v.ownBlock->K (a.put o.dst s') w'):o.wp prog a Y K Q:=by
 obtain⟨i0,hi,hz0,hz1,hz2⟩:=info_parts W.cE;refine wp_append_own _ s x 23 ho B 37 i0 _ 7 72 underlying23 hi hz0 hz1 hz2 rfl (by decide) v l.length _ hs hown ⟨z,0,none⟩ 1 1 r.cells hx rfl (fun j u hj=>lS hz j u (by simpa using hj)) (W.pE r) (by unfold maxLen;omega) (by omega) hB ?_;intro s' w' ho' hg' hn';refine h s' w' ?_ hg';have e:W.aA (l++[r])=W.aA l++r.cells:=by simp[W.aA]
 rw[e];exact ho'
theorem W.qC(ws:List W.ay)(r:W.ay)(a:Option Addr)(p B:Nat)(y:World)(h:y.ownsRow B 37 7 (.slice a (ws.length+1) p) (ws.length+1) (W.aA (ws++[r])))(hf:∀x∈ws,x.fits)(hr:r.fits)(hl:ws.length<=1000):
  Calls prog 38 #[.slice a (ws.length+1) p] y fun e y'=>(∃q,e=.returned (.bool q))/\Below y.heap.size y y':=by
 have e:ws.length+1=(ws++[r]).length:=by simp
 rw[e]at h ⊢;refine(W.gy a p (ws++[r]) y (W.Sl.bE h).gv (fun x hx=>?_) (by simp;omega)).mono ?_
 ·
  rcases List.mem_append.1 hx with h1|h1;·exact hf x h1
  rw[List.mem_singleton.1 h1];exact hr
 ·
  rintro e y' ⟨⟨q,rfl,-⟩,hb⟩;exact⟨⟨q,rfl⟩,hb⟩
theorem wL{rs:List W.ay}{r:W.ay}(h:∀x∈rs,x.fits)(hr:r.fits):∀x∈rs++[r],x.fits:=by
 intro x hx;rcases List.mem_append.1 hx with h1|h1;·exact h x h1
 rw[List.mem_singleton.1 h1];exact hr
theorem FI{w3 y:World}{C:Array Value}(hb:Below (w3.alloc (.cells C 37)).heap.size (w3.alloc (.cells C 37)) y):∀j,y.cell? ⟨w3.heap.size,j,none⟩=C[j]?:=by intro j;rw[hb.cell (p:=⟨w3.heap.size,j,none⟩) (by simp)];simp[go_sem]
theorem yT(kr:Nat)(q:Int)(w:World)(hr:Rq w kr q)(hq:q<700000):
  Calls prog 102 #[.pointer (some ⟨kr,0,none⟩)] w fun e w'=>∃ws v,e=.returned v/\w'.ownsRow w.heap.size 37 7 v ws.length (W.aA ws)/\ws.length<=4/\(∀x∈ws,x.fits)/\Rq w' kr (q+100)/\Ex kr w w':=by
 obtain⟨i0,hi,hz0,hz1,hz2⟩:=info_parts W.cE;have hkr:=hr.lt;have MB:=kS;have HR:=ah hr;clear hr;go_enter func102,ntmps102
 go_wp2_with fail
 go_loopw [3,4] (fun v i wx=>∃(k:Nat)(ws:List W.ay),k<=4/\i=.int .i64 k/\ws.length<=k/\Hid (∀x∈ws,x.fits)/\Hid (wx.ownsRow w.heap.size 37 7 v ws.length (W.aA ws))/\Hid (Rq wx kr (q+23*k))/\Hid (Ex kr w wx)) (fun _ i _=>4-(intOf i).toNat)
 case atStart=>exact⟨0,[],by omega,rfl,Nat.le_refl _,(fun x hx=>by cases hx),pD (da rfl),(HR.out.below (ae bR (.cells #[] 37))).up (by omega),Ex.of_below (ae bR _)⟩
 case round=>
  obtain⟨k,ws,hk,rfl,hws,HF,HO,HQ,HE⟩:=hrel;by_cases hlt:k<4
  ·
   go_wp2_with fail
   refine(bO kr _ 2 _ HQ.out (by omega) (by omega) (by omega)).mono ?_;rintro e w1 ⟨m,rfl,m0,m1,r1,e1⟩;have O1:=ah (Ey HO.out e1 hkr);have E1:=ah (HE.out.trans e1);have R1:=ah r1;clear HO HE HQ r1 e1;by_cases hm:m=0
   ·
    subst hm;go_wp2_with fail
    refine(jI k (by omega) (by omega) _).mono ?_;rintro e w2 ⟨x,rfl,hx,b2⟩;have R2:=ah (R1.out.below b2);have E2:=ah (E1.out.dh b2);have O2:=ah (aN O1.out b2);clear b2 R1 E1 O1;go_wp2_with fail
    refine(wK kr _ _ _ R2.out (by omega)).mono ?_;rintro e w3 ⟨h,v1,p1,s,d,g,rfl,hh,r3,e3⟩;have O3:=ah (Ey O2.out e3 hkr);have E3:=ah (E2.out.trans e3);have R3:=ah r3;have hxs:({data:=#[99]}++x).size<=maxLen:=(by rw[i7,hx];unfold maxLen;omega);have hz3:=E3.out.size;clear r3 e3 O2 E2 R2;go_wp2_with fail
    obtain⟨a3,p3,hs3⟩:=eE O3.out;subst hs3;have HS:=ah ((W.Sl.bE O3.out).src);have HW:Hid ((⟨{data:=#[99]}++x,h,v1,p1,s,d,g⟩:W.ay).fits):=⟨hxs,by show h.size<=maxLen;unfold maxLen;omega⟩
    have kx:=FI (C:=(aX ({data:=#[99]}++x) v1 h p1 s d g)) (Below.refl (w3.alloc (.cells (aX ({data:=#[99]}++x) v1 h p1 s d g) 37)).heap.size (w3.alloc (.cells (aX ({data:=#[99]}++x) v1 h p1 s d g) 37)));go_cut [25] (fun v wx=>(∃b,v=.bool b)/\Below (w3.alloc (.cells (aX ({data:=#[99]}++x) v1 h p1 s d g) 37)).heap.size (w3.alloc (.cells (aX ({data:=#[99]}++x) v1 h p1 s d g) 37)) wx)
    case first=>
     have cB:Below (w3.alloc (.cells (aX ({data:=#[99]}++x) v1 h p1 s d g) 37)).heap.size (w3.alloc (.cells (aX ({data:=#[99]}++x) v1 h p1 s d g) 37)) (w3.alloc (.cells (aX ({data:=#[99]}++x) v1 h p1 s d g) 37)):=Below.refl _ _
     go_region_law (first
      |(refine iD (by rfl) ?_;refine W.step1 _ (.tmp 19) (.tmp 20) rfl ws a3 p3 rfl (by first|exact heap_drew (da (by simp))|exact heap_drew (iE (da (by simp)))|exact da (by simp)|exact iE (da (by simp))) rfl (HS.out.keep (af (ae bR _) (by repeat (first|exact cB|refine ae ?_ _|refine au ?_)))) (by omega) ?_;intro s1 y1 ho1 hg1;have hp1:=uI hg1;have hs1:=hg1.size;have cB1:Below (w3.alloc (.cells (aX ({data:=#[99]}++x) v1 h p1 s d g) 37)).heap.size (w3.alloc (.cells (aX ({data:=#[99]}++x) v1 h p1 s d g) 37)) y1:=Below.grown (by repeat (first|exact cB|refine ae ?_ _|refine au ?_)) hg1 (by have h9:=cB.size;first|omega|(simp at h9 ⊢;done)|(simp at h9 ⊢;omega)) (fun j hj=>by cases hj;first|(simp;done)|(simp;omega));clear cB hg1;have cB:=cB1;clear cB1;have kx:=FI cB)
      |(refine iD (by rfl) ?_;refine W.step2 _ _ (.tmp 21) (.tmp 23) rfl ws (⟨{data:=#[99]}++x,h,v1,p1,s,d,g⟩:W.ay) _ rfl (by first|exact ho1|exact aN ho1 (ae bR _)) (by have h9:=hs1;first|(simp at h9 ⊢;done)|(simp at h9 ⊢;omega)) rfl (by first|exact hp1 _ _ (by first|exact heap_drew (da (by simp))|exact heap_drew (iE (da (by simp)))|exact da (by simp)|exact iE (da (by simp))) (by simp)|first|exact heap_drew (da (by simp))|exact heap_drew (iE (da (by simp)))|exact da (by simp)|exact iE (da (by simp))) (by omega) ?_;intro s2 y2 ho2 hg2;have cB2:Below (w3.alloc (.cells (aX ({data:=#[99]}++x) v1 h p1 s d g) 37)).heap.size (w3.alloc (.cells (aX ({data:=#[99]}++x) v1 h p1 s d g) 37)) y2:=Below.grown (by repeat (first|exact cB|refine ae ?_ _|refine au ?_)) hg2 (by have h9:=cB.size;first|omega|(simp at h9 ⊢;done)|(simp at h9 ⊢;omega)) (fun j hj=>by have h1:=br ho1 j hj;first|(simp at h1 ⊢;done)|(simp at h1 ⊢;omega));clear cB hg2;have cB:=cB2;clear cB2;obtain⟨a9,p9,jq⟩:=eE ho2;subst jq)
      |(go_simp;go_at_call 38;refine(W.qC ws (⟨{data:=#[99]}++x,h,v1,p1,s,d,g⟩:W.ay) a9 p9 _ _ ho2 HF.out HW.out (by omega)).mono ?_;rintro e y3 ⟨⟨qq,rfl⟩,hb3⟩;have cB3:=af cB hb3;clear cB hb3;have cB:=cB3;clear cB3;go_wp2_with fail))
     all_goals (go_wp2_with fail;go_meet;exact⟨⟨_,rfl⟩,cB⟩)
    obtain⟨⟨b,rfl⟩,c4⟩:=hcut;have Bz:Hid (Below w3.heap.size w3 wc):=af (ae bR _) c4;clear kx;have kx:=FI c4;have Tm:w3.heap.size<wc.heap.size:=Nat.lt_of_lt_of_le (by simp) c4.size;clear c4;cases b
    ·
     go_wp2
     exact⟨⟨k+1,ws,by omega,by go_num,by omega,HF.out,aN O3.out Bz.out,(R3.out.below Bz.out).up (by omega),E3.out.dh Bz.out⟩,by simp[intOf];omega⟩
    go_wp2_with (at_builtin;refine wpList_append_own _ rfl _ _ 23 rfl w.heap.size 37 i0 _ 7 72 underlying23 hi hz0 hz1 hz2 rfl (by decide) (ai a3 ws p3) ws.length _ rfl (by exact aN O3.out (ae Bz.out _)) ⟨_,0,none⟩ 1 1 (⟨{data:=#[99]}++x,h,v1,p1,s,d,g⟩:W.ay).cells rfl rfl (bG _ _ (by simp) _ _ _ rfl) (W.pE _) (by unfold maxLen;omega) (by omega) (by have:=(ae Bz.out (.cells #[] 37)).size;simp at this ⊢;omega) ?_;intro v' w5 ho hg hn)
    refine⟨⟨k+1,ws++[(⟨{data:=#[99]}++x,h,v1,p1,s,d,g⟩:W.ay)],by omega,by go_num,by simp;omega,wL HF.out HW.out,?_,((R3.out.below (ae Bz.out _)).grown hg (fun j hj=>Nat.lt_of_lt_of_le hkr (br O3.out j hj))).up (by omega),(E3.out.dh (ae Bz.out _)).grown hg (fun j hj=>br O3.out j hj)⟩,by simp[intOf];omega⟩;show w5.ownsRow _ _ _ _ (ws++[(⟨{data:=#[99]}++x,h,v1,p1,s,d,g⟩:W.ay)]).length _;rw[List.length_append];simpa[W.aA]using ho
   go_wp2
   exact⟨⟨k+1,ws,by omega,by go_num,by omega,HF.out,O1.out,R1.out.up (by omega),E1.out⟩,by simp[intOf];omega⟩
  go_wp2
  go_ret
  have hk4:k=4:=by omega
  subst hk4;exact⟨ws,_,rfl,HO.out,by omega,HF.out,HQ.out.up (by omega),HE.out⟩
open Go.Maps Go.WideMaps
structure Sp(w:World)(O P:Array Value)(x:World):Prop where
 b:∀k,x.cell? ⟨w.heap.size,k,none⟩=O[k]?
 c:∀k,x.frozen? ⟨w.heap.size,k,none⟩=false
 b2:∀k,x.cell? ⟨w.heap.size+1,k,none⟩=P[k]?
 c2:∀k,x.frozen? ⟨w.heap.size+1,k,none⟩=false
 d:x.there (w.heap.size+2) 0 9
 e:Below w.heap.size w x
 f:w.heap.size+2<x.heap.size
theorem Sp.ex{w x y:World}{O P:Array Value}{k:Nat}(h:Sp w O P x)(he:Ex k x y)(hk:w.heap.size+2<k):Sp w O P y:=
 have hf:=h.f
 ⟨fun j=>(he.cell (p:=⟨w.heap.size,j,none⟩) (by show w.heap.size<_;omega) (by show w.heap.size≠_;omega)).trans (h.b j),fun j=>(he.frozen (p:=⟨w.heap.size,j,none⟩) (by show w.heap.size<_;omega) (by show w.heap.size≠_;omega)).trans (h.c j),fun j=>(he.cell (p:=⟨w.heap.size+1,j,none⟩) (by show w.heap.size+1<_;omega) (by show w.heap.size+1≠_;omega)).trans (h.b2 j),fun j=>(he.frozen (p:=⟨w.heap.size+1,j,none⟩) (by show w.heap.size+1<_;omega) (by show w.heap.size+1≠_;omega)).trans (h.c2 j),bh h.d hf he (by omega),Ex.mono h.e he (by omega),Nat.lt_of_lt_of_le hf he.size⟩
theorem Sp.below{w x y:World}{O P:Array Value}(h:Sp w O P x)(hb:Below x.heap.size x y):Sp w O P y:=h.ex (k:=w.heap.size+3) (Ex.of_below hb) (by omega)
theorem Sp.put{w x:World}{O P:Array Value}(h:Sp w O P x)(l:List Value):Below w.heap.size w (x.setCells (w.heap.size+2) 0 l):=
 Ex.mono h.e ((Ex.refl (w.heap.size+2) x).cells l 0) (by omega)
def gN(h c:ByteArray)(t:Int)(k:Nat)(rs:List aw):List aw:=(rs.take k).map (bump h c t)++rs.drop k
theorem vE(h c:ByteArray)(t:Int)(rs:List aw):gN h c t 0 rs=rs:=by simp[gN]
theorem yd(h c:ByteArray)(t:Int)(rs:List aw):gN h c t rs.length rs=rs.map (bump h c t):=by simp[gN]
theorem ye(h c:ByteArray)(t:Int)(k:Nat)(rs:List aw):(gN h c t k rs).length=rs.length:=by simp[gN];omega
theorem oy{h c:ByteArray}{t:Int}{k:Nat}{rs:List aw}{r:aw}(hr:rs[k]?=some r):(gN h c t k rs)[k]?=some r:=by have hlt:k<rs.length:=(List.getElem?_eq_some_iff.1 hr).1;unfold gN;rw[List.getElem?_append_right (by simp;omega)];simp only[List.length_map,List.length_take,List.getElem?_drop];rw[Nat.min_eq_left (by omega),Nat.sub_self,Nat.add_zero];exact hr
theorem oz{h c:ByteArray}{t:Int}{k:Nat}{rs:List aw}{r:aw}(hr:rs[k]?=some r):gN h c t (k+1) rs=(gN h c t k rs).set k (bump h c t r):=by
 have hlt:k<rs.length:=(List.getElem?_eq_some_iff.1 hr).1;have he:rs[k]=r:=by rw[List.getElem?_eq_getElem hlt]at hr;exact Option.some.inj hr
 unfold gN;rw[List.set_append_right _ _ (by simp;omega)];simp only[List.length_map,List.length_take];rw[Nat.min_eq_left (by omega),Nat.sub_self,List.take_succ_eq_append_getElem hlt,he,List.drop_eq_getElem_cons hlt];simp only[List.map_append,List.map_cons,List.map_nil,List.append_assoc,List.singleton_append,List.set_cons_zero]
theorem kO{h c:ByteArray}{t:Int}{k:Nat}{rs:List aw}{r:aw}(hr:rs[k]?=some r)(hb:bump h c t r=r):gN h c t (k+1) rs=gN h c t k rs:=by
 rw[oz hr,hb];have h1:=oy (h:=h) (c:=c) (t:=t) hr;apply List.ext_getElem?;intro j;rw[List.getElem?_set];split
 ·
  rename_i e;subst e;rw[h1];have hlt:k<rs.length:=(List.getElem?_eq_some_iff.1 hr).1;rw[if_pos (by rw[ye];exact hlt)]
 rfl
theorem A5{h c:ByteArray}{t:Int}{r:aw}(h1:r.h.toList=h.toList)(h2:r.c.toList=c.toList)(h3:r.u<t+16):bump h c t r={r with u:=t+16}:=if_pos ⟨h1,h2,h3⟩
theorem Ad{w:World}{a:Option Addr}{n p B k:Nat}{l:List aw}{r:aw}(h:Sl w (.slice a n p) l B)(hr:l[k]?=some r):
  ∃g,a=some ⟨g,0,none⟩/\g<w.heap.size/\(oN w g (k*11) r.c r.v r.h r.p r.s r.d r.g r.a r.b r.i r.u)/\∀j,j<11->w.frozen? ⟨g,k*11+j,none⟩=false:=by
 have hlt:k<l.length:=(List.getElem?_eq_some_iff.1 hr).1;rcases h with⟨h1,h2⟩|⟨g,cap,h1,h2,h3,h4,h5⟩;·rw[h2]at hlt;simp at hlt
 ·
  injection h1 with e1 e2 e3;have:=h4.at hr;simp only[Nat.zero_add]at this;refine⟨g,e1,h3,this,fun j hj=>?_⟩;have:=(h5 (k*11+j) (by omega)).2
  rwa [Nat.zero_add]at this
theorem A6{w:World}{g n p B k:Nat}{l:List aw}{r:aw}{u:Int}(h:Sl w (.slice (some ⟨g,0,none⟩) n p) l B)(hr:l[k]?=some r):
  Sl (w.setCell ⟨g,k*11+10,none⟩ (.int .i64 u)) (.slice (some ⟨g,0,none⟩) n p) (l.set k {r with u:=u}) B:=by
 have hlt:k<l.length:=(List.getElem?_eq_some_iff.1 hr).1;rcases h with⟨h1,h2⟩|⟨g',cap,h1,h2,h3,h4,h5⟩;·rw[h2]at hlt;simp at hlt
 ·
  injection h1 with e1 e2 e3;injection e1 with e1;injection e1 with e1;subst e1 e2 e3;have he:Ex g w (w.setCell ⟨g,k*11+10,none⟩ (.int .i64 u)):=(Ex.refl _ _).set _ _;refine Or.inr ⟨g,_,by rw[List.length_set],h2,Nat.lt_of_lt_of_le h3 he.size,?_,by rw[List.length_set];exact World.there_setCells h5 g (k*11+10) [.int .i64 u]⟩;intro j q hj i v hi;have UM:i<11:=by
   rcases Nat.lt_or_ge i 11 with h'|h';·exact h'
   rw[List.getElem?_eq_none (by simpa[aw.cells]using h')]at hi;cases hi
  rw[Nat.zero_add];by_cases e:k=j
  ·
   subst e;rw[List.getElem?_set_self hlt]at hj;injection hj with hj;subst hj;by_cases e2:i=10
   ·
    subst e2;have h0:=h4 k r hr 10 _ rfl;rw[Nat.zero_add]at h0;injection hi with hi;subst hi;exact World.cell?_setCell_same _ _ _ h0
   rw[World.cell?_setCell_other _ _ _ _ (fun h'=>e2 (by have:=congrArg Addr.off h';simp only at this;omega))];have h0:=h4 k r hr i v (by rw[<-hi];rcases i with _|_|_|_|_|_|_|_|_|_|i;all_goals first|rfl|omega)
   rwa [Nat.zero_add]at h0
  rw[List.getElem?_set_ne e]at hj;rw[World.cell?_setCell_other _ _ _ _ (fun h'=>e (by have:=congrArg Addr.off h';simp only at this;omega))];have h0:=h4 j q hj i v hi
  rwa [Nat.zero_add]at h0
end Go.Proofs.YtlfnpjcjapljpaaGreatDoor
