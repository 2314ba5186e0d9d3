import Derived.Test.YtlfnpjcjapljpaaGreatDoorJ27
namespace Go.Proofs.YtlfnpjcjapljpaaGreatDoor
open Go.RowKit
set_option linter.unusedVariables false
theorem Sc.off{P:Nat->Prop}{w x y:World}{O:Array Value}(h:Sc w O x)(ho:Off P x y)(hP:∀j,P j->w.heap.size+1<j):Sc w O y:=by
 have hf:=h.f;have h0:¬P w.heap.size:=fun hp=>by have:=hP _ hp;omega
 have h1:¬P (w.heap.size+1):=fun hp=>by have:=hP _ hp;omega
 have hb0:=ho.block w.heap.size (by omega) h0;have hb1:=ho.block (w.heap.size+1) hf h1;refine⟨fun k=>(World.cell?_of_block (w:=x) (a:=⟨w.heap.size,k,none⟩) hb0).trans (h.b k),fun k=>(World.frozen?_of_block (w:=x) (a:=⟨w.heap.size,k,none⟩) hb0).trans (h.c k),fun j hj=>⟨by rw[World.cell?_of_block (w:=x) (a:=⟨w.heap.size+1,0+j,none⟩) hb1];exact(h.d j hj).1,by rw[World.frozen?_of_block (w:=x) (a:=⟨w.heap.size+1,0+j,none⟩) hb1];exact(h.d j hj).2⟩,h.e.trans (ho.below (fun j hj=>by have:=hP j hj;omega) h.e.size),Nat.lt_of_lt_of_le hf ho.size⟩
structure Fs(w:World)(O:Array Value)(m:aj)(bx:Nat)(v:Value)(x:World):Prop where
 s:Sc w O x
 b:∀k,x.cell? ⟨bx,k,none⟩=((bY m.nm false m.ck false 0 (.slice none 0 0) v (.slice none 0 0) (.slice none 0 0)):Array Value)[k]?
 c:∀k,x.frozen? ⟨bx,k,none⟩=false
 l:bx<x.heap.size
 lw:w.heap.size+1<bx
theorem Fs.off{P:Nat->Prop}{w x y:World}{O:Array Value}{m:aj}{bx:Nat}{v:Value}(h:Fs w O m bx v x)(ho:Off P x y)(hP:∀j,P j->bx<j):Fs w O m bx v y:=by have MQ:=h.lw;have hb:=ho.block bx h.l (fun hp=>by have:=hP _ hp;omega);exact⟨h.s.off ho (fun j hj=>by have:=hP j hj;omega),fun k=>(World.cell?_of_block (w:=x) (a:=⟨bx,k,none⟩) hb).trans (h.b k),fun k=>(World.frozen?_of_block (w:=x) (a:=⟨bx,k,none⟩) hb).trans (h.c k),Nat.lt_of_lt_of_le h.l ho.size,MQ⟩
theorem Fs.below{w x y:World}{O:Array Value}{m:aj}{bx:Nat}{v:Value}(h:Fs w O m bx v x)(hb:Below x.heap.size x y):Fs w O m bx v y:=
 h.off (P:=fun _=>False) (Off.of_below hb) (fun j hj=>hj.elim)
theorem Fs.set{w x:World}{O:Array Value}{m:aj}{bx:Nat}{v v':Value}(h:Fs w O m bx v x):Fs w O m bx v' (x.setCell ⟨bx,6,none⟩ v'):=by
 have he:Ex bx x (x.setCell ⟨bx,6,none⟩ v'):=(Ex.refl _ _).set 6 v';have MQ:=h.lw;have ho:Off (fun j=>j=bx) x (x.setCell ⟨bx,6,none⟩ v'):=⟨he.os,he.tape,he.output,he.size,fun i hi hn=>he.block i hi hn⟩
 refine⟨h.s.off ho (fun j hj=>by subst hj;exact MQ),fun k=>?_,fun k=>by rw[World.frozen?_setCell];exact h.c k,Nat.lt_of_lt_of_le h.l he.size,MQ⟩;by_cases e:k=6
 ·
  subst e;exact World.cell?_setCell_same _ _ _ (h.b 6)
 rw[World.cell?_setCell_other _ _ _ _ (fun h'=>e (by have:=congrArg Addr.off h';exact this.symm)),h.b k]
 match k,e with
 |0,_=>rfl
 |1,_=>rfl
 |2,_=>rfl
 |3,_=>rfl
 |4,_=>rfl
 |5,_=>rfl
 |7,_=>rfl
 |8,_=>rfl
 |(n+9),_=>rfl
theorem Gn{w x:World}{O:Array Value}{m:aj}(h:Sc w O x):Fs w O m x.heap.size (.slice none 0 0) (x.alloc (.cells (bY m.nm false m.ck false 0 (.slice none 0 0) (.slice none 0 0) (.slice none 0 0) (.slice none 0 0)) 27)):=
 ⟨h.below (ae bR _),fun k=>by simp[go_sem],fun k=>by simp[go_sem],by simp,h.f⟩
theorem wU(m:aj)(a1 a6 a3 a4:Option Addr)(n p1 p6 p3 p4:Nat):∀u∈((dP m.nm false m.ck false 0 (.slice a1 0 p1) (.slice a6 n p6) (.slice a3 0 p3) (.slice a4 0 p4)):List Value),u.oneCell'=true:=by intro u hu;simp only[List.mem_cons,List.not_mem_nil,or_false]at hu;rcases hu with rfl|rfl|rfl|rfl|rfl|rfl|rfl|rfl|rfl<;>rfl
theorem nD{x:World}{base:Nat}{e:TypeId}{size:Nat}{v:Value}{n:Nat}{xs:List Value}(h:x.ownsRow base e size v n xs):∃a p,v=.slice a n p:=by
 rcases h.2 with⟨h1,h2⟩|⟨g,cap,cur,h1,-⟩;·subst h2;exact⟨none,0,h1⟩
 exact⟨_,_,h1⟩
theorem fU{x y:World}{base k:Nat}{e:TypeId}{size:Nat}{v:Value}{n:Nat}{xs:List Value}(h:x.ownsRow base e size v n xs)(he:Ex k x y)(hk:k<base):y.ownsRow base e size v n xs:=
 ⟨h.1,h.2.imp id (fun⟨g,cap,cur,h1,h2,h3,h4⟩=>⟨g,cap,cur,h1,h2,by
  have hg:g<x.heap.size:=by
   rcases Nat.lt_or_ge g x.heap.size with h'|h';·exact h'
   rw[Array.getElem?_eq_none h']at h3;cases h3
  rw[he.block g hg (by omega)];exact h3,h4⟩)⟩
theorem kC{dm:Bool}{rs:List aw}{k:Nat}{r:aw}(hr:rs[k]?=some r):cx dm (rs.take (k+1))=cx dm (rs.take k)++cx dm [r]:=by
 have hlt:k<rs.length:=(List.getElem?_eq_some_iff.1 hr).1;have he:rs[k]=r:=by rw[List.getElem?_eq_getElem hlt]at hr;exact Option.some.inj hr
 rw[List.take_succ_eq_append_getElem hlt,he];unfold cx;split<;>simp only[List.filter_append,List.map_append]
theorem kD{dm:Bool}{rs:List aw}{k:Nat}{r:aw}(hr:rs[k]?=some r)(h:cx dm [r]=[]):cx dm (rs.take (k+1))=cx dm (rs.take k):=by rw[kC hr,h,List.append_nil]
def A.Ow(w:World)(v:Value)(l:List A.aC)(B:Nat):Prop:=w.ownsRow B 64 4 v l.length (A.aA l)
theorem A.Ow.sl{w:World}{v:Value}{l:List A.aC}{B:Nat}(h:A.Ow w v l B):A.Sl w v l B:=A.Sl.bE h
theorem A.Ow.grown{w w':World}{v:Value}{l:List A.aC}{B:Nat}{row:Option Nat}(h:A.Ow w v l B)(hg:w.grownBy w' row)(hne:v.ownBlock=none\/v.ownBlock≠row):A.Ow w' v l B:=
 ⟨h.1,h.2.imp id (fun⟨g,cap,cur,h1,h2,h3,h4⟩=>⟨g,cap,cur,h1,h2,by
  have hl:g<w.heap.size:=by
   rcases Nat.lt_or_ge g w.heap.size with h'|h';·exact h'
   rw[Array.getElem?_eq_none h']at h3;cases h3
  have hn:some g≠row:=by subst h1;simpa[Value.ownBlock]using hne
  rw[hg.block g hl hn];exact h3,h4⟩)⟩
theorem A.Ow.keep{w w':World}{v:Value}{l:List A.aC}{B:Nat}(h:A.Ow w v l B)(hb:Below w.heap.size w w'):A.Ow w' v l B:=Go.Proofs.YtlfnpjcjapljpaaGreatDoor.aN h hb
theorem A.Ow.lt{w:World}{v:Value}{l:List A.aC}{B:Nat}(h:A.Ow w v l B):∀g,v.ownBlock=some g->B<=g/\g<w.heap.size:=A.Sl.lt (A.Ow.sl h)
theorem A.Ow.shape{w:World}{v:Value}{l:List A.aC}{B:Nat}(h:A.Ow w v l B):∃a p,v=.slice a l.length p:=A.Sl.shape (A.Ow.sl h)
theorem A.Ow.low{w:World}{v:Value}{l:List A.aC}{B B':Nat}(h:A.Ow w v l B)(hB:B'<=B):A.Ow w v l B':=
 ⟨h.1,h.2.imp id (fun⟨g,cap,cur,h1,h2,h3,h4⟩=>⟨g,cap,cur,h1,Nat.le_trans hB h2,h3,h4⟩)⟩
theorem A.Ow.nil(w:World)(B:Nat):A.Ow w (.slice none 0 0) [] B:=World.ownsRow_nil _ _ _ _
theorem A.Ow.bE{w:World}{v:Value}{l:List A.aC}{B:Nat}(h:w.ownsRow B 64 4 v l.length (A.aA l)):A.Ow w v l B:=h
structure mS(w:World)(m:aj)(s1 s2 s3 s4:Value)(B:Nat):Prop where
 a1:W.Ow w s1 m.ws B
 a2:Ow w s2 m.rs B
 a3:A.Ow w s3 m.qs B
 a4:A.Ow w s4 m.gs B
 gR:eh s1 s2
 im:eh s1 s3
 iq:eh s1 s4
 iu:eh s2 s3
 iV:eh s2 s4
 jo:eh s3 s4
theorem mS.sl{w:World}{m:aj}{s1 s2 s3 s4:Value}{B:Nat}(h:mS w m s1 s2 s3 s4 B):dI w m s1 s2 s3 s4 B:=⟨h.a1.sl,h.a2.sl,h.a3.sl,h.a4.sl,h.gR,h.im,h.iq,h.iu,h.iV,h.jo⟩
theorem mS.keep{w w':World}{m:aj}{s1 s2 s3 s4:Value}{B:Nat}(h:mS w m s1 s2 s3 s4 B)(hb:Below w.heap.size w w'):mS w' m s1 s2 s3 s4 B:=
 ⟨h.a1.keep hb,h.a2.keep hb,h.a3.keep hb,h.a4.keep hb,h.gR,h.im,h.iq,h.iu,h.iV,h.jo⟩
theorem mS.ex{w w':World}{m:aj}{s1 s2 s3 s4:Value}{B k:Nat}(h:mS w m s1 s2 s3 s4 B)(he:Ex k w w')(hk:k<B):mS w' m s1 s2 s3 s4 B:=
 ⟨h.a1.grown (W.av he) (bC (N:=k) (fun g hg=>Nat.lt_of_lt_of_le hk (h.a1.lt g hg).1) (Nat.le_refl _)),h.a2.grown (av he) (bC (N:=k) (fun g hg=>Nat.lt_of_lt_of_le hk (h.a2.lt g hg).1) (Nat.le_refl _)),h.a3.grown (A.av he) (bC (N:=k) (fun g hg=>Nat.lt_of_lt_of_le hk (h.a3.lt g hg).1) (Nat.le_refl _)),h.a4.grown (A.av he) (bC (N:=k) (fun g hg=>Nat.lt_of_lt_of_le hk (h.a4.lt g hg).1) (Nat.le_refl _)),h.gR,h.im,h.iq,h.iu,h.iV,h.jo⟩
open Go.Proofs.Tryz
set_option maxRecDepth 4000
set_option maxHeartbeats 2000000
theorem qD(w:World)(t:TypeId):(w.alloc (.cells (aX ⟨#[]⟩ 0 ⟨#[]⟩ 0 0 0 0) t)).there w.heap.size 0 7:=
 fun j hj=>⟨by simp[go_sem];omega,by simp[go_sem]⟩
def JU:W.ay:=⟨{data:=#[]},{data:=#[]},0,0,0,0,0⟩
theorem Ez(a:Option Addr)(cap:Nat)(ws:List W.ay)(c:ByteArray)(w:World)(hG:W.Gv w a ws)(hf:∀x∈ws,x.fits)(hl:ws.length<=1048576):
  Calls prog 83 #[.slice a ws.length cap,.string c] w fun e w'=>∃(r:W.ay)(b:Bool),e=.returned (.tuple #[.agg (aX r.c r.v r.h r.p r.s r.d r.g),.bool b])/\r.fits/\Below w.heap.size w w':=by
 have hinfo:(prog.info? 37).map (·.size)=some 7:=by kernel_rfl
 have HF:=ah hf;have HT:Hid ((w.alloc (.cells (aX ⟨#[]⟩ 0 ⟨#[]⟩ 0 0 0 0) 37)).there w.heap.size 0 7):=qD _ _;have HG:Hid (W.Gv (w.alloc (.cells (aX ⟨#[]⟩ 0 ⟨#[]⟩ 0 0 0 0) 37)) a ws):=hG.keep (ae bR _);clear hf hG;go_enter func83,ntmps83
 go_wp2_with fail
 go_loopw [6] (fun i wx=>∃(k:Nat),k<=ws.length/\i=.int .i64 k/\wx=(w.alloc (.cells (aX ⟨#[]⟩ 0 ⟨#[]⟩ 0 0 0 0) 37))) (fun i _=>ws.length-(intOf i).toNat)
 case atStart=>exact⟨0,Nat.zero_le _,rfl,rfl⟩
 case round=>
  obtain⟨k,hk,rfl,rfl⟩:=hrel;by_cases hlt:k<ws.length
  ·
   obtain⟨b,hab,hb,hR⟩:=HG.out.resolve_left (fun h=>by rw[h]at hlt;simp at hlt);subst hab;obtain⟨r,hr⟩:∃r,ws[k]?=some r:=⟨ws[k],List.getElem?_eq_getElem hlt⟩
   obtain⟨c0,c1,c2,c3,c4,c5,c6⟩:=hR.at hr;simp only[Nat.zero_add]at c0 c1 c2 c3 c4 c5 c6;have Hr:=ah (HF.out r (List.mem_of_getElem? hr));clear hr hR;cases hq:(r.c.toList==c.toList)
   ·
    go_wp2
    exact⟨⟨k+1,by omega,by go_num,trivial⟩,by simp[intOf];omega⟩
   go_wp2_with (refine wpList_store_mid (by rfl) 37 _ _ (by rfl) w.heap.size 0 (aX r.c r.v r.h r.p r.s r.d r.g) (by rfl) (by rfl) (by exact HT.out) hinfo (by simp[Value.oneCell']) ?_)
   have hrg:=World.rangeAt_setCells_same (w.alloc (.cells (aX ⟨#[]⟩ 0 ⟨#[]⟩ 0 0 0 0) 37)) w.heap.size 0 (iT r.c r.v r.h r.p r.s r.d r.g) HT.out;have d0:=hrg 0 _ rfl;have d1:=hrg 1 _ rfl;have d2:=hrg 2 _ rfl;have d3:=hrg 3 _ rfl;have d4:=hrg 4 _ rfl;have d5:=hrg 5 _ rfl;have d6:=hrg 6 _ rfl;simp only[Nat.zero_add]at d0 d1 d2 d3 d4 d5 d6;exact bodyPost_ret (v:=.tuple #[.agg (aX r.c r.v r.h r.p r.s r.d r.g),.bool true]) (by simp[results,results83,go_sem,d0,d1,d2,d3,d4,d5,d6]) rfl ⟨r,true,rfl,Hr.out,cL (Nat.le_refl _) _ _ _ (ae bR _)⟩
  go_wp2_with (refine wpList_store_mid (by rfl) 37 _ _ (by rfl) w.heap.size 0 (aX ⟨#[]⟩ 0 ⟨#[]⟩ 0 0 0 0) (by rfl) (by rfl) (by exact HT.out) hinfo (by simp[Value.oneCell']) ?_)
  have hrg:=World.rangeAt_setCells_same (w.alloc (.cells (aX ⟨#[]⟩ 0 ⟨#[]⟩ 0 0 0 0) 37)) w.heap.size 0 (iT ⟨#[]⟩ 0 ⟨#[]⟩ 0 0 0 0) HT.out;have d0:=hrg 0 _ rfl;have d1:=hrg 1 _ rfl;have d2:=hrg 2 _ rfl;have d3:=hrg 3 _ rfl;have d4:=hrg 4 _ rfl;have d5:=hrg 5 _ rfl;have d6:=hrg 6 _ rfl;simp only[Nat.zero_add]at d0 d1 d2 d3 d4 d5 d6;exact bodyPost_ret (v:=.tuple #[.agg (aX ⟨#[]⟩ 0 ⟨#[]⟩ 0 0 0 0),.bool false]) (by simp[results,results83,go_sem,d0,d1,d2,d3,d4,d5,d6]) rfl ⟨JU,false,rfl,⟨Nat.zero_le _,Nat.zero_le _⟩,cL (Nat.le_refl _) _ _ _ (ae bR _)⟩
set_option maxHeartbeats 4000000
theorem pG(dm:Bool)(m:aj)(x1 x2 x3 x4:Option Addr)(n1 n2 n3 n4:Nat)(w:World)(hL:gx w m x1 x2 x3 x4 n1 n2 n3 n4)(hf:m.fits):
  Calls prog 29 #[.agg (bK m x1 x2 x3 x4 n1 n2 n3 n4),.bool dm] w fun e w'=>(∃r s1 s2 s3 s4,e=.returned (.agg (bY r.nm r.up r.ck r.kn r.se s1 s2 s3 s4))/\Falls dm m r/\dI w' r s1 s2 s3 s4 w.heap.size)/\Below w.heap.size w w':=by
 have S0:Hid (Sc w (bK m x1 x2 x3 x4 n1 n2 n3 n4) ((w.alloc (.cells (bK m x1 x2 x3 x4 n1 n2 n3 n4) 27)).alloc (.cells iU 27))):=ic m x1 x2 x3 x4 n1 n2 n3 n4 w;have hinfo:(prog.info? 27).map (·.size)=some 9:=by kernel_rfl
 obtain⟨i0,hi,hz0,hz1,hz2⟩:=info_parts cE;go_enter func29,ntmps29
 go_wp2_with fail
 refine(fu m x1 x2 x3 x4 n1 n2 n3 n4 _ (hL.keep S0.out.e).lists hf).mono ?_;rintro e w1 ⟨⟨q,rfl,hq⟩,c1⟩;have S1:Hid (Sc w (bK m x1 x2 x3 x4 n1 n2 n3 n4) w1):=S0.out.below c1;have Hq:=ah hq;clear hq c1;have ka:=S1.out.b;have kf:=S1.out.c;cases q
 ·
  go_wp2_with (refine wpList_store_mid (by rfl) 27 _ _ (by rfl) (w.heap.size+1) 0 iU (by rfl) (by rfl) (by exact S1.out.d) hinfo (by exact all_oneCell_toArray iH) ?_)
  have hrg:=World.rangeAt_setCells_same w1 (w.heap.size+1) 0 (dP ⟨#[]⟩ false 0 false 0 (.slice none 0 0) (.slice none 0 0) (.slice none 0 0) (.slice none 0 0)) S1.out.d;obtain⟨d0,d1,d2,d3,d4,d5,d6,d7,d8⟩:=d9 hrg;exact bodyPost_ret (v:=.agg iU) (by simp[results,results29,go_sem,d0,d1,d2,d3,d4,d5,d6,d7,d8]) rfl ⟨⟨ju,_,_,_,_,rfl,Or.inr ⟨dA Hq.out,rfl⟩,jw _ _⟩,S1.out.put _⟩
 have hv:Hid (Valid m):=Hq.out.1 rfl;have F0:Hid (Fs w (bK m x1 x2 x3 x4 n1 n2 n3 n4) m w1.heap.size (.slice none 0 0) (w1.alloc (.cells (bY m.nm false m.ck false 0 (.slice none 0 0) (.slice none 0 0) (.slice none 0 0) (.slice none 0 0)) 27))):=Gn S1.out;have HL:=ah hL;have hk2:=hf.k2;clear hL;go_wp2_with fail
 clear ka kf
 go_loopw [6] (fun i wx=>∃(k:Nat),k<=m.rs.length/\i=.int .i64 k/\∃v,Fs w (bK m x1 x2 x3 x4 n1 n2 n3 n4) m w1.heap.size v wx/\wx.ownsRow (w1.heap.size+1) 39 11 v (cx dm (m.rs.take k)).length (aA (cx dm (m.rs.take k)))) (fun i _=>m.rs.length-(intOf i).toNat)
 case atStart=>exact⟨0,Nat.zero_le _,rfl,_,F0.out,by cases dm<;>exact World.ownsRow_nil _ _ _ _⟩
 case round=>
  obtain⟨k,hk,rfl,v,hF,hown⟩:=hrel;have F:=ah hF;have ka:=hF.s.b;have kf:=hF.s.c;have kb:=hF.b;have kc:=hF.c;have kl:=hF.l;have kw:=hF.lw;have km:w.heap.size<wr.heap.size:=by omega
  clear hF;by_cases hlt:k<m.rs.length
  ·
   obtain⟨r,hr⟩:∃r,m.rs[k]?=some r:=⟨m.rs[k],List.getElem?_eq_getElem hlt⟩
   have Hr:=ah hr;obtain⟨b2,hx2,hb2,hR2⟩:=(HL.out.keep F.out.s.e).lists.r2.resolve_left (fun h=>by rw[h]at hlt;simp at hlt);subst hx2;obtain⟨c0,c1,c2,c3,c4,c5,c6,c7,c8,c9,c10⟩:=hR2.at hr;simp only[Nat.zero_add]at c0 c1 c2 c3 c4 c5 c6 c7 c8 c9 c10;obtain⟨n,hn⟩:∃n,n=(cx dm (m.rs.take k)).length:=⟨_,rfl⟩
   obtain⟨xs,hxs⟩:∃xs,xs=aA (cx dm (m.rs.take k)):=⟨_,rfl⟩
   have hnk:n<=1048576:=(by rw[hn];exact Nat.le_trans (jL _ _) (by rw[List.length_take];omega));rw[<-hn,<-hxs]at hown;have Ho:=ah hown;have Hn:=ah hn;have Hx:=ah hxs;clear hr hown hn hxs;cases dm
   ·
    cases hal:bq r.a
    ·
     go_wp2_with (go_at_call 42;refine mr (aE r.c r.h r.v r.p r.s r.d r.g r.a r.b r.i r.u _) ?_)
     refine⟨⟨k+1,by omega,by go_num,⟨v,F.out.below (by repeat (first|exact bR|refine ae ?_ _)),?_⟩⟩,by simp[intOf];omega⟩;rw[kD Hr.out (by simp[cx,hal]),<-Hn.out,<-Hx.out];exact aN Ho.out (by repeat (first|exact bR|refine ae ?_ _))
    go_wp2_with (first|(go_at_call 42;refine mr (aE r.c r.h r.v r.p r.s r.d r.g r.a r.b r.i r.u _) ?_)|(at_builtin;refine wpList_append_own _ rfl _ _ 24 rfl (w1.heap.size+1) 39 i0 _ 11 104 underlying24 hi hz0 hz1 hz2 rfl (by decide) v n _ (by first|rfl|simp[Act.eval]) (by exact aN Ho.out (by repeat (first|exact bR|refine ae ?_ _))) ⟨_,0,none⟩ 1 1 r.cells rfl rfl (bG _ _ (by simp) _ _ _ rfl) (aU _) (by unfold maxLen;omega) (by omega) (by have:=F.out.l;simp;omega) ?_;intro v' w2 ho2 hg2 hn2;obtain⟨a9,p9,jq⟩:=nD ho2;subst jq;have F2:Hid (Fs w (bY m.nm m.up m.ck m.kn m.se (ai x1 m.ws n1) (.slice (some ⟨b2,0,none⟩) m.rs.length n2) (ai x3 m.qs n3) (ai x4 m.gs n4)) m w1.heap.size v w2):=Fs.off (P:=fun j=>v.ownBlock=some j) (F.out.below (by repeat (first|exact bR|refine ae ?_ _))) (Off.di hg2 (fun j hj=>hj)) (fun j hj=>br Ho.out j hj);have u9:=F2.out.b;have MR:=F2.out.c;have TY:=F2.out.l))
    refine⟨⟨k+1,by omega,by go_num,⟨_,F2.out.set,?_⟩⟩,by simp[intOf];omega⟩;rw[kC Hr.out,show cx _ [r]=[r] from(by simp[cx,hal]),List.length_append,dU,<-Hn.out,<-Hx.out];refine fU ?_ ((Ex.refl _ _).set 6 _) (Nat.lt_succ_self _);simpa[aA]using ho2
   cases hal:bq r.a
   ·
    go_wp2_with (go_at_call 42;refine mr (aE r.c r.h r.v r.p r.s r.d r.g r.a r.b r.i r.u _) ?_)
    refine⟨⟨k+1,by omega,by go_num,⟨v,F.out.below (by repeat (first|exact bR|refine ae ?_ _)),?_⟩⟩,by simp[intOf];omega⟩;rw[kD Hr.out (by simp[cx,hal]),<-Hn.out,<-Hx.out];exact aN Ho.out (by repeat (first|exact bR|refine ae ?_ _))
   cases hh:r.h.toList.isEmpty
   ·
    go_wp2_with (first|(go_at_call 42;refine mr (aE r.c r.h r.v r.p r.s r.d r.g r.a r.b r.i r.u _) ?_)|(at_builtin;refine wpList_append_own _ rfl _ _ 24 rfl (w1.heap.size+1) 39 i0 _ 11 104 underlying24 hi hz0 hz1 hz2 rfl (by decide) v n _ (by first|rfl|simp[Act.eval]) (by exact aN Ho.out (by repeat (first|exact bR|refine ae ?_ _))) ⟨_,0,none⟩ 1 1 ({r with a:=2,b:=0}:aw).cells rfl rfl (bG _ _ (by simp) _ _ _ rfl) (aU _) (by unfold maxLen;omega) (by omega) (by have:=F.out.l;simp;omega) ?_;intro v' w2 ho2 hg2 hn2;obtain⟨a9,p9,jq⟩:=nD ho2;subst jq;have F2:Hid (Fs w (bY m.nm m.up m.ck m.kn m.se (ai x1 m.ws n1) (.slice (some ⟨b2,0,none⟩) m.rs.length n2) (ai x3 m.qs n3) (ai x4 m.gs n4)) m w1.heap.size v w2):=Fs.off (P:=fun j=>v.ownBlock=some j) (F.out.below (by repeat (first|exact bR|refine ae ?_ _))) (Off.di hg2 (fun j hj=>hj)) (fun j hj=>br Ho.out j hj);have u9:=F2.out.b;have MR:=F2.out.c;have TY:=F2.out.l))
    refine⟨⟨k+1,by omega,by go_num,⟨_,F2.out.set,?_⟩⟩,by simp[intOf];omega⟩;rw[kC Hr.out,show cx _ [r]=[({r with a:=2,b:=0}:aw)] from(by simp[cx,eZ,hal,hh]),List.length_append,dU,<-Hn.out,<-Hx.out];refine fU ?_ ((Ex.refl _ _).set 6 _) (Nat.lt_succ_self _);simpa[aA]using ho2
   go_wp2_with (go_at_call 42;refine mr (aE r.c r.h r.v r.p r.s r.d r.g r.a r.b r.i r.u _) ?_)
   refine⟨⟨k+1,by omega,by go_num,⟨v,F.out.below (by repeat (first|exact bR|refine ae ?_ _)),?_⟩⟩,by simp[intOf];omega⟩;rw[kD Hr.out (by simp[cx,hal,hh]),<-Hn.out,<-Hx.out];exact aN Ho.out (by repeat (first|exact bR|refine ae ?_ _))
  have hk':k=m.rs.length:=by omega
  subst hk';rw[List.take_of_length_le (Nat.le_refl _)]at hown;have hsl:Sl wr v (cx dm m.rs) (w1.heap.size+1):=Sl.bE hown;obtain⟨l2,hl2⟩:∃l,l=cx dm m.rs:=⟨_,rfl⟩
  have OB:=ah hl2;have OC:l2.length<=1048576:=by rw[hl2];exact Nat.le_trans (jL _ _) hk2
  rw[<-hl2]at hsl;obtain⟨a2,p2,hs2⟩:=Sl.shape hsl;subst hs2;have Hs:=ah hsl;clear hsl hown hl2;go_wp2_with fail
  refine(nc ⟨m.nm,false,m.ck,false,0,[],l2,[],[]⟩ none a2 none none 0 p2 0 0 _ (Or.inl ⟨rfl,rfl,rfl⟩) Hs.out.src (Or.inl ⟨rfl,rfl,rfl⟩) (Or.inl ⟨rfl,rfl,rfl⟩) ⟨Nat.zero_le _,OC,Nat.zero_le _,Nat.zero_le _⟩).mono ?_;rintro e w5 ⟨⟨s1,s2,s3,s4,rfl,R⟩,c⟩;have S5:Hid (Sc w (bK m x1 x2 x3 x4 n1 n2 n3 n4) w5):=F.out.s.below c;obtain⟨a1,p1,hs1⟩:∃a c,s1=.slice a 0 c:=W.Sl.shape R.a1;obtain⟨a6,p6,hs2⟩:∃a c,s2=.slice a l2.length c:=Sl.shape R.a2;obtain⟨a3,p3,hs3⟩:∃a c,s3=.slice a 0 c:=A.Sl.shape R.a3;obtain⟨a4,p4,hs4⟩:∃a c,s4=.slice a 0 c:=A.Sl.shape R.a4;subst hs1 hs2 hs3 hs4;have R5:=ah R;have Ua:w.heap.size+1<wr.heap.size:=by omega
  have KD:=c.size;clear R c ka kf kb kc kl kw;have ka:=S5.out.b;have kf:=S5.out.c;go_wp2_with (refine wpList_store_mid (by rfl) 27 _ _ (by rfl) (w.heap.size+1) 0 (bY m.nm false m.ck false 0 (.slice a1 0 p1) (ai a6 l2 p6) (.slice a3 0 p3) (.slice a4 0 p4)) (by rfl) (by rfl) (by exact S5.out.d) hinfo (by exact all_oneCell_toArray (wU m a1 a6 a3 a4 l2.length p1 p6 p3 p4)) ?_)
  have hl2:=OB.out;subst hl2;have hrg:=World.rangeAt_setCells_same w5 (w.heap.size+1) 0 [.string m.nm,.bool false,.int .i64 m.ck,.bool false,.int .i64 0,.slice a1 0 p1,.slice a6 (cx dm m.rs).length p6,.slice a3 0 p3,.slice a4 0 p4] S5.out.d;obtain⟨d0,d1,d2,d3,d4,d5,d6,d7,d8⟩:=d9 hrg;exact bodyPost_ret (v:=.agg #[.string m.nm,.bool false,.int .i64 m.ck,.bool false,.int .i64 0,.slice a1 0 p1,.slice a6 (cx dm m.rs).length p6,.slice a3 0 p3,.slice a4 0 p4]) (by simp[results,results29,go_sem,d0,d1,d2,d3,d4,d5,d6,d7,d8]) rfl ⟨⟨fQ dm m,_,_,_,_,rfl,Or.inl ⟨hv.out,rfl⟩,(R5.out.ex ((Ex.refl _ _).cells _ _) Ua).low (by omega)⟩,S5.out.put _⟩
end Go.Proofs.YtlfnpjcjapljpaaGreatDoor
