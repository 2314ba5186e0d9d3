import Derived.Test.YtlfnpjcjapljpaaGreatDoorJ33
namespace Go.Proofs.YtlfnpjcjapljpaaGreatDoor
open Go.Proofs.Tryz Go.RowKit
set_option maxRecDepth 4000
set_option maxHeartbeats 8000000
set_option linter.unusedVariables false
def yS:Array Value:=#[.int .i64 1,.int .i64 1,.int .i64 3,.int .i64 3,.int .i64 3,.int .i64 5,.int .i64 2,.int .i64 6]
theorem BS{k:Nat}(h:k<8):∃z:Int,yS[k]?=some (.int .i64 z):=by
 unfold yS
 match k,h with
 |0,_=>exact⟨_,rfl⟩
 |1,_=>exact⟨_,rfl⟩
 |2,_=>exact⟨_,rfl⟩
 |3,_=>exact⟨_,rfl⟩
 |4,_=>exact⟨_,rfl⟩
 |5,_=>exact⟨_,rfl⟩
 |6,_=>exact⟨_,rfl⟩
 |7,_=>exact⟨_,rfl⟩
def BU:Array Value:=#[.string ⟨#[105,112]⟩,.string ⟨#[118,111,108]⟩,.string ⟨#[118,111,108,50]⟩]
theorem BV{k:Nat}(h:k<3):∃s:ByteArray,BU[k]?=some (.string s)/\s.size<=20:=by
 unfold BU
 match k,h with
 |0,_=>exact⟨_,rfl,by decide⟩
 |1,_=>exact⟨_,rfl,by decide⟩
 |2,_=>exact⟨_,rfl,by decide⟩
theorem JG(a b c d:Int){k:Nat}(h:k<4):∃z:Int,(#[.int .i64 a,.int .i64 b,.int .i64 c,.int .i64 d]:Array Value)[k]?=some (.int .i64 z):=by
 match k,h with
 |0,_=>exact⟨_,rfl⟩
 |1,_=>exact⟨_,rfl⟩
 |2,_=>exact⟨_,rfl⟩
 |3,_=>exact⟨_,rfl⟩
theorem nk{z n:Int}(h0:0<=z)(h1:z<n):∃k:Nat,z=(k:Int)/\(k:Int)<n:=⟨z.toNat,by omega,by omega⟩
theorem Lp.c3{w:World}{kr pb:Nat}{O:Array Value}{p:bI}{v:Value}{q:Int}{y:World}(h:Lp w kr pb O p v q y):(∀j u,(JF p v)[j]?=some u->y.cell? ⟨pb,j,none⟩=some u)/\∀j,j<7->y.frozen? ⟨pb,j,none⟩=false:=
 ⟨fun j u hj=>eR h.c j hj,fun j hj=>(eb h.t j hj).2⟩
theorem BW(kr:Nat)(q:Int)(m:aj)(x1 x2 x3 x4:Option Addr)(n1 n2 n3 n4 B:Nat)(w:World)(hr:Rq w kr q)(hq:q<400000)(hS:dI w m (ai x1 m.ws n1) (ai x2 m.rs n2) (ai x3 m.qs n3) (ai x4 m.gs n4) B)(hB:kr<B)(hf:m.fq):
  Calls prog 55 #[.pointer (some ⟨kr,0,none⟩),.agg (bK m x1 x2 x3 x4 n1 n2 n3 n4)] w fun e w'=>∃(p:bI)(x5:Option Addr)(n5:Nat),e=.returned (.agg (cw p.k p.b p.s (ai x5 p.ws n5) p.h p.c p.t))/\W.Sl w' (ai x5 p.ws n5) p.ws (w.heap.size+2)/\p.ws.length<=n5/\p.fits/\Rq w' kr (q+1000)/\Ex kr w w':=by
 have hkr:=hr.lt;have hinfo:(prog.info? 43).map (·.size)=some 7:=by kernel_rfl
 have HR:=ah hr;have HS:=ah hS;have HF:=ah hf;clear hr hS hf;go_enter func55,ntmps55
 go_wp2_with fail
 rw[show(#[.int .i64 1,.int .i64 1,.int .i64 3,.int .i64 3,.int .i64 3,.int .i64 5,.int .i64 2,.int .i64 6]:Array Value)=yS from rfl];obtain⟨W0,hW0⟩:∃W0,W0=((w.alloc (.cells (bK m x1 x2 x3 x4 n1 n2 n3 n4) 27)).alloc (.cells (cw 0 ⟨#[]⟩ 0 (.slice none 0 0) ⟨#[]⟩ ⟨#[]⟩ 0) 43)).alloc (.cells yS 3):=⟨_,rfl⟩
 have E0:Hid (Below w.heap.size w W0):=by rw[hW0];exact ae (ae (ae bR _) _) _
 have M0:Hid (∀k,W0.cell? ⟨w.heap.size,k,none⟩=((bK m x1 x2 x3 x4 n1 n2 n3 n4):Array Value)[k]?):=by rw[hW0];intro k;simp[go_sem]
 have T0:Hid (W0.there (w.heap.size+1) 0 7):=by rw[hW0];exact fun j hj=>⟨by simp[go_sem];omega,by simp[go_sem]⟩
 have K0:Hid (∀k,W0.cell? ⟨w.heap.size+1+1,k,none⟩=yS[k]?):=by rw[hW0];intro k;simp[go_sem]
 have z0:W0.heap.size=w.heap.size+1+1+1:=by rw[hW0];simp
 rw[<-hW0];clear hW0;refine(bO kr q 8 W0 (HR.out.below E0.out) (by omega) (by omega) (by omega)).mono ?_;rintro e y1 ⟨z,rfl,hz0,hz1,r1,e1⟩;obtain⟨k,rfl,hk⟩:=nk hz0 hz1;obtain⟨kk,hkk⟩:=BS (k:=k) (by omega);have hck:y1.cell? ⟨w.heap.size+1+1,k,none⟩=some (.int .i64 kk):=((exc e1 _ k (by omega) (by omega)).trans (K0.out k)).trans hkk;obtain⟨pb,hpb⟩:∃pb,pb=y1.heap.size:=⟨_,rfl⟩
 obtain⟨y2,hy2⟩:∃y2,y2=y1.alloc (.cells (cw kk ⟨#[97]⟩ 0 (.slice none 0 0) ⟨#[]⟩ ⟨#[]⟩ 0) 43):=⟨_,rfl⟩
 have b2:Below y1.heap.size y1 y2:=by rw[hy2];exact ae bR _
 have s1:=e1.size;have D2:Hid (Lp w kr pb (bK m x1 x2 x3 x4 n1 n2 n3 n4) ⟨kk,{data:=#[97]},0,[],{data:=#[]},{data:=#[]},0⟩ (.slice none 0 0) (q+1) y2):=by refine⟨by rw[hy2,hpb];exact fun j u hj=>by rw[<-hj];simp[go_sem,JF],by rw[hy2,hpb];exact fun j hj=>⟨by simp[go_sem];omega,by simp[go_sem]⟩,bd (bh T0.out (by omega) e1 (by omega)) (by omega) b2,fun k=>(NL b2 _ k (by omega)).trans ((exc e1 _ k (by omega) (by omega)).trans (M0.out k)),W.Ow.nil _ _,by simp[Value.ownBlock],r1.below b2,((Ex.of_below E0.out).trans e1).dh b2,⟨hkr,by omega,by rw[hy2,hpb];simp⟩,pf (by show(1:Nat)<=1000;omega) (by show(0:Nat)<=1000;omega) (by show(0:Nat)<=1000;omega) (fun r hr=>by cases hr) (Nat.zero_le _)⟩
 have NM:Hid (y2=_/\pb=y1.heap.size):=⟨hy2,hpb⟩
 clear HR E0 M0 T0 K0 r1 e1 hy2 hpb b2 hkk s1;go_wp2_with fail
 rw[<-NM.out.1,<-NM.out.2];clear NM hck hk hz0 hz1 z0;refine(bO kr _ 10 y2 D2.out.r (by omega) (by omega) (by omega)).mono ?_;rintro e y3 ⟨z,rfl,hz0,hz1,r3,e3⟩;have D3:Hid (Lp w kr pb (bK m x1 x2 x3 x4 n1 n2 n3 n4) ⟨kk,{data:=#[97]},0,[],{data:=#[]},{data:=#[]},0⟩ (.slice none 0 0) (q+1+1) y3):=D2.out.ex e3 r3;clear D2 r3 e3
 go_upto_if 16 with(fail)
 go_cut [] (fun wx=>∃bb:ByteArray,bb.size=1/\Hid (Lp w kr pb (bK m x1 x2 x3 x4 n1 n2 n3 n4) ⟨kk,bb,0,[],{data:=#[]},{data:=#[]},0⟩ (.slice none 0 0) (q+2) wx))
 case first=>
  by_cases hz:z=0
  ·
   obtain⟨k1,f1⟩:=D3.out.c3;have k1:=k1 1 _ rfl;have f1:=f1 1 (by omega);go_wp2_with fail
   go_meet
   exact⟨{data:=#[98]},rfl,Lp.up (Lp.put D3.out (p':=⟨kk,{data:=#[98]},0,[],{data:=#[]},{data:=#[]},0⟩) 1 (.string ⟨#[98]⟩) (by omega) rfl D3.out.o D3.out.nb (pf (by show(1:Nat)<=1000;omega) (by show(0:Nat)<=1000;omega) (by show(0:Nat)<=1000;omega) (fun r hr=>by cases hr) (Nat.zero_le _))) (by omega)⟩
  go_wp2_with fail
  go_meet
  exact⟨_,rfl,D3.out.up (by omega)⟩
 case rest=>
  obtain⟨bb,hbb,D4⟩:=hcut;clear D3;obtain⟨c4,-⟩:=D4.out.c3;have c4:=c4 0 _ rfl
  go_upto_block 0 with(fail)
  clear c4;go_cut [] (fun wx=>∃(p:bI)(v:Value),Hid (Lp w kr pb (bK m x1 x2 x3 x4 n1 n2 n3 n4) p v (q+900) wx))
  case first=>
   by_cases hk1:kk=1
   ·
    subst hk1;go_wp2_with fail
    refine(bO kr _ 7 _ D4.out.r (by omega) (by omega) (by omega)).mono ?_;rintro e y5 ⟨se,rfl,hs0,hs1,r5,e5⟩;have D5:=D4.out.ex e5 r5;obtain⟨k2,f2⟩:=D5.c3;have k2:=k2 2 _ rfl;have f2:=f2 2 (by omega);have hzz:=D5.z;obtain⟨-,-,hzz⟩:=hzz;have D6:Hid (Lp w kr pb (bK m x1 x2 x3 x4 n1 n2 n3 n4) ⟨1,bb,se,[],{data:=#[]},{data:=#[]},0⟩ (.slice none 0 0) (q+2+1) (y5.setCell ⟨pb,2,none⟩ (.int .i64 se))):=D5.put 2 _ (by omega) rfl D5.o D5.nb ⟨D5.f.b,D5.f.h,D5.f.c,D5.f.w,D5.f.l⟩;clear D5 r5 e5;go_wp2_with fail
    refine(yT kr _ _ D6.out.r (by omega)).mono ?_;rintro e y7 ⟨ws,v,rfl,o7,hwl,hwf,r7,e7⟩;obtain⟨a7,c7,hs7⟩:=eE o7;subst hs7;have D7:=D6.out.ex e7 r7;have hge:=D6.out.z;have O7:W.Ow y7 (ai a7 ws c7) ws (w.heap.size+2):=W.Ow.low (W.Ow.bE o7) (by omega);have N7:(Value.slice a7 ws.length c7).ownBlock≠some pb:=fun e=>by have:=(W.Ow.lt (W.Ow.bE o7) _ e).1;omega
    obtain⟨k3,f3⟩:=D7.c3;have k3:=k3 3 _ rfl;have f3:=f3 3 (by omega);obtain⟨-,-,Td⟩:=D7.z;have D8:Hid (Lp w kr pb (bK m x1 x2 x3 x4 n1 n2 n3 n4) ⟨1,bb,se,ws,{data:=#[]},{data:=#[]},0⟩ (ai a7 ws c7) (q+2+1+100) (y7.setCell ⟨pb,3,none⟩ (ai a7 ws c7))):=D7.put 3 _ (by omega) rfl O7 N7 ⟨D7.f.b,D7.f.h,D7.f.c,hwf,by show ws.length<=_;omega⟩;clear D7 o7 r7 e7 D6 O7 N7 hge;obtain⟨y8,NN⟩:∃y,y=y7.setCell ⟨pb,3,none⟩ (ai a7 ws c7):=⟨_,rfl⟩
    have Qu:=ah NN;rw[<-NN]at D8;clear NN;go_wp2_with fail
    rw[<-Qu.out];clear Qu k3 f3 Td k2 f2 hzz;refine(bO kr _ 10 _ D8.out.r (by omega) (by omega) (by omega)).mono ?_;rintro e y9 ⟨z9,rfl,hz0',hz1',r9,e9⟩;have D9:Hid (Lp w kr pb (bK m x1 x2 x3 x4 n1 n2 n3 n4) ⟨1,bb,se,ws,{data:=#[]},{data:=#[]},0⟩ (ai a7 ws c7) (q+2+1+100+1) y9):=D8.out.ex e9 r9;clear D8 r9 e9;obtain⟨c9,-⟩:=D9.out.c3;have c9:=c9 3 _ rfl;by_cases h9:z9=0;rotate_left
    ·
     go_wp2_with fail
     go_meet
     exact⟨_,_,D9.out.up (by omega)⟩
    subst h9;by_cases hl:0<ws.length;rotate_left
    ·
     have hl':¬((0:Int)<(ws.length:Int)):=(by omega);go_wp2_with fail
     go_meet
     exact⟨_,_,D9.out.up (by omega)⟩
    have hl':(0:Int)<(ws.length:Int):=(by omega);obtain⟨r0,wt,rfl⟩:∃r0 wt,ws=r0::wt:=by
     cases ws with
     |nil=>simp at hl
     |cons r0 wt=>exact⟨r0,wt,rfl⟩
    obtain⟨wg,rfl,hge,hrow,hth⟩:∃wg,a7=some ⟨wg,0,none⟩/\w.heap.size+2<=wg/\W.aG y9 wg 0 (r0::wt)/\y9.there wg 0 7:=by
     rcases W.Ow.sl D9.out.o with⟨-,e⟩|⟨g,cap,e,h1,h2,h3,h4⟩;·cases e
     cases e;exact⟨g,rfl,h1,h3,fun j hj=>h4 j (by show j<(wt.length+1)*7;omega)⟩
    have hr0:=hwf r0 (List.mem_cons_self ..);have KW:Hid (∀y,Ex kr y9 y->(y.cell? ⟨pb,3,none⟩=some (.slice (some ⟨wg,0,none⟩) (wt.length+1) c7))/\(yE y wg r0.c r0.v r0.h r0.p r0.s r0.d r0.g)):=(by intro y he;have hz:=D9.out.z;have hwz:=(W.Ow.lt D9.out.o wg rfl).2;have e:∀j,y.cell? ⟨wg,j,none⟩=y9.cell? ⟨wg,j,none⟩:=fun j=>he.cell (p:=⟨wg,j,none⟩) hwz (by show wg≠kr;omega);have hr:=hrow.at (k:=0) (r:=r0) rfl;simp only[Nat.zero_mul,Nat.zero_add]at hr;obtain⟨q0,q1,q2,q3,q4,q5,q6⟩:=hr;exact⟨(he.cell (p:=⟨pb,3,none⟩) hz.2.2 (by show pb≠kr;omega)).trans c9,(e 0).trans q0,(e 1).trans q1,(e 2).trans q2,(e 3).trans q3,(e 4).trans q4,(e 5).trans q5,(e 6).trans q6⟩);have Te:=ah hth;have Tf:=ah hge;have hd:Ex kr y9 y9.drew:=Ex.of_below bD;have yU:(prog.info? 37).map (·.size)=some 7:=(by kernel_rfl);clear hrow hth hge
    go_upto_region 18 with(fail)
    clear c9;refine wp_region_noPanic ?_;refine wp_region_held_drew (S:=fun y=>y.cell? ⟨pb,3,none⟩=some (.slice (some ⟨wg,0,none⟩) (wt.length+1) c7)) (by kernel_rfl) (KW.out _ hd).1 (fun hHeld=>?_);refine aF 0 ?_;refine aF 1 ?_;try simp only[sp]
    refine aF 2 ?_;refine aF 3 ?_;try simp only[sp]
    refine aF 4 ?_;refine aF 5 ?_;try simp only[sp]
    refine dJ 6 (by kernel_rfl) rfl fun K hK=>?_;obtain⟨-,q0,q1,q2,q3,q4,q5,q6⟩:=KW.out _ hd
    go_simp
    refine hK.out _ _ hHeld (fun ep=>?_);clear hK K q0 q1 q2 q3 q4 q5 q6;try simp only[sp]
    refine dJ 7 (by kernel_rfl) rfl fun K hK=>?_
    go_simp
    refine(kA kr _ r0.c r0.h r0.v r0.p r0.s r0.d r0.g _ (D9.out.r.below bD) (by omega) hr0.1 hr0.2).mono ?_;rintro e MD ⟨xc,xh,xv,xp,xs,xd,xg,rfl,g1,g2,Qv,e10⟩;have BX:Ex kr y9 MD:=hd.trans e10;have uw:=D9.out.ex BX Qv;clear Qv e10;go_wp2_with fail
    refine hK.out _ _ (KW.out _ BX).1 (fun cq=>?_);clear hK K hHeld ep;try simp only[sp]
    refine aF 8 ?_;try simp only[sp]
    have yV:MD.there wg 0 7:=bh Te.out (by have:=(W.Ow.lt D9.out.o wg rfl).2;omega) BX (by have:=Tf.out;omega);have Eu:=uw.want (r0:=r0) (ws:=wt) rfl ⟨xc,xh,xv,xp,xs,xd,xg⟩ ⟨g1,g2⟩;refine dJ 9 (by kernel_rfl) rfl fun K hK=>?_;refine bF (by rfl) ?_;refine wp_store_mid 37 _ _ (by rfl) wg 0 (aX xc xv xh xp xs xd xg) (by rfl) (by rfl) (by exact yV) yU (by simp[Value.oneCell']) ?_;have hne:pb≠wg:=fun e=>uw.nb (by rw[e];rfl);refine hK.out _ _ ((exc ((Ex.refl wg MD).cells _ 0) pb 3 uw.z.2.2 hne).trans (KW.out _ BX).1) (fun uE=>?_);clear hK K cq uE;try simp only[sp]
    refine wpAnyH_done (by kernel_rfl) ?_ _;refine NoPanic.normal ?_;go_wp2_with fail
    go_meet
    exact⟨_,_,Eu.up (by omega)⟩
   go_wp2_with fail
   rw[show(#[.string ⟨#[105,112]⟩,.string ⟨#[118,111,108]⟩,.string ⟨#[118,111,108,50]⟩]:Array Value)=BU from rfl];have b5:Below wc.heap.size wc (wc.alloc (.cells BU 9)):=ae bR _;have D5:=D4.out.below b5;refine(bO kr _ 3 _ D5.r (by omega) (by omega) (by omega)).mono ?_;rintro e y5 ⟨z,rfl,hz0,hz1,r5,e5⟩;have D6:=D5.ex e5 r5;obtain⟨k,rfl,hk⟩:=nk hz0 hz1;obtain⟨hs,np,Tg⟩:=BV (k:=k) (by omega);have hck:y5.cell? ⟨wc.heap.size,k,none⟩=some (.string hs):=((exc e5 _ k (by simp) (by have:=D4.out.z;omega)).trans (by simp[go_sem])).trans np;obtain⟨k4,f4⟩:=D6.c3;have k4:=k4 4 _ rfl;have f4:=f4 4 (by omega);obtain⟨-,-,Ti⟩:=D6.z;have D7:Hid (Lp w kr pb (bK m x1 x2 x3 x4 n1 n2 n3 n4) ⟨kk,bb,0,[],hs,{data:=#[]},0⟩ (.slice none 0 0) (q+2+1) (y5.setCell ⟨pb,4,none⟩ (.string hs))):=Lp.put D6 (p':=⟨kk,bb,0,[],hs,{data:=#[]},0⟩) 4 (.string hs) (by omega) rfl D6.o D6.nb (pf (by show bb.size<=_;omega) (by show hs.size<=_;omega) (by show(0:Nat)<=1000;omega) (fun r hr=>by cases hr) (Nat.zero_le _));obtain⟨y7,NP⟩:∃y,y=y5.setCell ⟨pb,4,none⟩ (.string hs):=⟨_,rfl⟩
   have Qw:=ah NP;rw[<-NP]at D7;clear NP D5 D6 r5 e5 b5 np D4;go_wp2_with fail
   rw[<-Qw.out];clear Qw k4 f4 Ti hck hk hz0 hz1;refine(bO kr _ 4 _ D7.out.r (by omega) (by omega) (by omega)).mono ?_;rintro e y8 ⟨z,rfl,hz0,hz1,r8,e8⟩;have D8:Hid (Lp w kr pb (bK m x1 x2 x3 x4 n1 n2 n3 n4) ⟨kk,bb,0,[],hs,{data:=#[]},0⟩ (.slice none 0 0) (q+2+1+1) y8):=D7.out.ex e8 r8;clear D7 r8 e8;go_wp2_with fail
   refine(jI z hz0 (by omega) y8).mono ?_;rintro e y9 ⟨xd,rfl,hxd,b9⟩;have D9:=D8.out.below b9;obtain⟨k5,f5⟩:=D9.c3;have k5:=k5 5 _ rfl;have f5:=f5 5 (by omega);obtain⟨-,-,BZ⟩:=D9.z;have hcc:ByteArray.size (({data:=#[99]}:ByteArray)++xd)=2:=(by rw[ByteArray.size_append,hxd];rfl);have uw:Hid (Lp w kr pb (bK m x1 x2 x3 x4 n1 n2 n3 n4) ⟨kk,bb,0,[],hs,(({data:=#[99]}:ByteArray)++xd),0⟩ (.slice none 0 0) (q+2+1+1) (y9.setCell ⟨pb,5,none⟩ (.string (({data:=#[99]}:ByteArray)++xd)))):=Lp.put D9 (p':=⟨kk,bb,0,[],hs,(({data:=#[99]}:ByteArray)++xd),0⟩) 5 (.string (({data:=#[99]}:ByteArray)++xd)) (by omega) rfl D9.o D9.nb (pf (by show bb.size<=_;omega) (by show hs.size<=_;omega) (by show ByteArray.size (({data:=#[99]}:ByteArray)++xd)<=_;omega) (fun r hr=>by cases hr) (Nat.zero_le _));obtain⟨MD,Fz⟩:∃y,y=y9.setCell ⟨pb,5,none⟩ (.string (({data:=#[99]}:ByteArray)++xd)):=⟨_,rfl⟩
   have JH:=ah Fz;rw[<-Fz]at uw;clear Fz D9 b9 D8;go_wp2_with fail
   rw[<-JH.out];clear JH k5 f5 BZ hz0 hz1;generalize (({data:=#[99]}:ByteArray)++xd)=cc at hcc uw;refine(bO kr _ 60 _ uw.out.r (by omega) (by omega) (by omega)).mono ?_;rintro e Qx ⟨t6,rfl,hz0,hz1,Qy,e11⟩;have Eu:=uw.out.ex e11 Qy;obtain⟨k6,f6⟩:=Eu.c3;have k6:=k6 6 _ rfl;have f6:=f6 6 (by omega);obtain⟨-,-,NQ⟩:=Eu.z;have sC:Hid (Lp w kr pb (bK m x1 x2 x3 x4 n1 n2 n3 n4) ⟨kk,bb,0,[],hs,cc,t6⟩ (.slice none 0 0) (q+2+1+1+1) (Qx.setCell ⟨pb,6,none⟩ (.int .i64 t6))):=Lp.put Eu (p':=⟨kk,bb,0,[],hs,cc,t6⟩) 6 (.int .i64 t6) (by omega) rfl Eu.o Eu.nb (pf (by show bb.size<=_;omega) (by show hs.size<=_;omega) (by show cc.size<=_;omega) (fun r hr=>by cases hr) (Nat.zero_le _));obtain⟨uy,Ca⟩:∃y,y=Qx.setCell ⟨pb,6,none⟩ (.int .i64 t6):=⟨_,rfl⟩
   have JI:=ah Ca;rw[<-Ca]at sC;clear Ca Eu Qy e11 uw;have Qz:uy.cell? ⟨w.heap.size,7,none⟩=some (ai x3 m.qs n3):=sC.out.m 7;have QA:uy.cell? ⟨w.heap.size,8,none⟩=some (ai x4 m.gs n4):=sC.out.m 8;have hmz:w.heap.size<uy.heap.size:=(by have:=sC.out.z;omega);have KM:Hid (∀y,Below uy.heap.size uy y->y.cell? ⟨w.heap.size,7,none⟩=some (ai x3 m.qs n3)/\y.cell? ⟨w.heap.size,8,none⟩=some (ai x4 m.gs n4)):=fun y hy=>⟨(NL hy _ 7 hmz).trans Qz,(NL hy _ 8 hmz).trans QA⟩
   have NR:=HS.out.ex sC.out.e hB;have R3:=ah NR.a3.Qt;have R4:=ah NR.a4.Qt;have IQ:=HF.out.2.1;have hgl:=HF.out.2.2;clear Qz QA NR
   go_upto_region 8 with(fail)
   rw[<-JI.out];clear JI k6 f6 NQ hz0 hz1;refine wp_region_noPanic ?_;refine wp_region_held_drew (S:=fun y=>y.cell? ⟨w.heap.size,7,none⟩=some (ai x3 m.qs n3)/\y.cell? ⟨w.heap.size,8,none⟩=some (ai x4 m.gs n4)) (by kernel_rfl) (KM.out _ bD) (fun hHeld=>?_);refine aF 1 ?_;refine aF 2 ?_;try simp only[sp]
   refine aF 4 ?_;refine aF 5 ?_;try simp only[sp]
   refine wpAnyH_ready (rs:=[0]) (by kernel_rfl) (by simp) ?_;refine(AllReadyH.cons rfl (fun K hK=>?_) AllReadyH.nil);have nb0:=fS
   go_simp
   clear nb0;refine hK.out _ _ (KM.out _ (ae bD _)) (fun hH1=>?_);clear hK K hHeld;try simp only[sp]
   have O1:Hid (((World.drew uy).alloc (.cells #[] 64)).ownsRow uy.heap.size 64 4 (.slice (some ⟨uy.heap.size,0,none⟩) 0 0) 0 []):=(by exact World.ownsRow_made _ #[] 0 (Below.size bD) (Nat.zero_le _) rfl);refine wpAnyH_ready (rs:=[3]) (by kernel_rfl) (by simp) ?_;refine(AllReadyH.cons rfl (fun K hK=>?_) AllReadyH.nil);refine bF (by rfl) ?_;refine uz.app uy.heap.size (.tmp 34) (.tmp 36) rfl (.slice (some ⟨uy.heap.size,0,none⟩) 0 0) _ (0) (m.qs.length) ([]) (A.aA m.qs) rfl O1.out (Below.size (ae bD _)) rfl (R3.out.keep (ae bD _)) (by rw[A.aZ]) (A.bw _) (by omega) ?_;intro s2 w2 o2 hg2 yW;have B2:Hid (Below uy.heap.size uy w2):=Below.grown (ae bD _) hg2 (Below.size (ae bD _)) (br O1.out);have O2:=ah o2;refine hK.out _ _ (KM.out _ B2.out) (fun hH2=>?_);clear o2 hg2 yW hK K hH1;try simp only[sp]
   refine wpAnyH_ready (rs:=[6]) (by kernel_rfl) (by simp) ?_;refine(AllReadyH.cons rfl (fun K hK=>?_) AllReadyH.nil);refine bF (by rfl) ?_;refine uz.app uy.heap.size (.tmp 37) (.tmp 39) rfl s2 _ (0+m.qs.length) (m.gs.length) ([]++A.aA m.qs) (A.aA m.gs) rfl O2.out (Below.size B2.out) rfl (R4.out.keep B2.out) (by rw[A.aZ]) (A.bw _) (by omega) ?_;intro s4 w4 o4 hg4 yX;have B4:=ah (Below.grown B2.out hg4 (Below.size B2.out) (br O2.out));obtain⟨l,hl⟩:∃l,l=m.qs++m.gs:=⟨_,rfl⟩
   have hll:l.length<=40:=(by rw[hl,List.length_append];omega);have O4:Hid (A.Ow w4 s4 l uy.heap.size):=(by show World.ownsRow _ _ _ _ _ _ _;rw[hl,wJ,List.length_append];simpa using o4);have Tj:Hid (∀r∈l,r.fits):=by
    rw[hl];intro r hr;rcases List.mem_append.1 hr with hr|hr;·exact HF.out.1.f3 r hr
    exact HF.out.1.f4 r hr
   refine hK.out _ _ (KM.out _ B4.out) (fun ME=>?_);clear o4 hg4 yX hK K hH2 hl;try simp only[sp]
   obtain⟨a4,c4,rfl⟩:=A.Ow.shape O4.out;refine aF 7 ?_;try simp only[sp]
   refine wpAnyH_done (by kernel_rfl) ?_ _;refine NoPanic.normal ?_;have oO:=ah (sC.out.below B4.out);have Ca:=sC.out.z.2.2;clear sC KM B2 B4 R3 R4 O1 O2 ME;by_cases hl0:0<l.length;rotate_left
   ·
    have hl0':¬((0:Int)<(l.length:Int)):=(by omega);go_wp2_with fail
    go_meet
    exact⟨_,_,oO.out.up (by omega)⟩
   have hl0':(0:Int)<(l.length:Int):=(by omega);go_wp2_with fail
   refine(bO kr _ 4 w4 oO.out.r (by omega) (by omega) (by omega)).mono ?_;rintro e QB ⟨z,rfl,hz0,hz1,QC,e14⟩;have qx:=ah (oO.out.ex e14 QC);have FA:Hid (A.Ow QB (ai a4 l c4) l uy.heap.size):=A.Ow.grown O4.out (A.av e14) (eV (fun k hk e=>by have h1:=(A.Ow.lt O4.out k e).1;cases hk;have:=oO.out.z;omega));clear oO O4 QC e14;by_cases hzz:0<z;rotate_left
   ·
    go_wp2_with fail
    go_meet
    exact⟨_,_,qx.out.up (by omega)⟩
   go_wp2_with fail
   refine(bO kr _ (l.length:Int) QB qx.out.r (by omega) (by omega) (by omega)).mono ?_;rintro e IU ⟨z',rfl,hz0',hz1',QD,e15⟩;obtain⟨k,rfl,hk⟩:=nk hz0' hz1';have By:=qx.out.ex e15 QD;have QE:A.Ow IU (ai a4 l c4) l uy.heap.size:=A.Ow.grown FA.out (A.av e15) (eV (fun k hk e=>by have h1:=(A.Ow.lt FA.out k e).1;cases hk;have:=qx.out.z;omega));obtain⟨r,hr⟩:∃r,l[k]?=some r:=⟨_,List.getElem?_eq_getElem (show k<l.length by omega)⟩
   have hrf:=Tj.out r (List.mem_of_getElem? hr);obtain⟨g,cg,hsg,hg1,hg2,q0,q1,q2,q3⟩:=A.Ow.at QE hr;cases hsg;obtain⟨ab,hab⟩:∃ab,ab=IU.heap.size:=⟨_,rfl⟩
   obtain⟨IV,yY⟩:∃y,y=IU.alloc (.cells (cZ r.h r.c r.f r.t) 64):=⟨_,rfl⟩
   have b16:Below IU.heap.size IU IV:=(by rw[yY];exact ae bR _);have JJ:Hid (IV.rangeAt ab 0 (mD r.h r.c r.f r.t)):=(by rw[yY,hab];exact fun j u hj=>by rw[<-hj];simp[go_sem]);have NS:ab<IV.heap.size:=(by rw[yY,hab];simp);have uA:=ah (By.below b16);have hne:pb<ab:=(by rw[hab];exact By.z.2.2);have FB:Hid (IV=_/\ab=IU.heap.size):=⟨yY,hab⟩
   clear By QE qx FA QD e15 hr hab yY b16
   go_upto_region 11 with(fail)
   rw[<-FB.out.1,<-FB.out.2];clear FB q0 q1 q2 q3 hz0' hz1' hk;have a0:=eR JJ.out 0 rfl;have a1:=eR JJ.out 1 rfl;obtain⟨k4,f4⟩:=uA.out.c3;have k5:=k4 5 _ rfl;have f5:=f4 5 (by omega);have k4:=k4 4 _ rfl;have f4:=f4 4 (by omega);have hn1:¬pb=ab:=(by omega);have hn2:¬ab=pb:=(by omega);obtain⟨-,-,Tk⟩:=uA.out.z;have Ev:=Lp.put uA.out (p':=⟨kk,bb,0,[],r.h,cc,t6⟩) 4 (.string r.h) (by omega) rfl uA.out.o uA.out.nb ⟨uA.out.f.b,hrf.1,uA.out.f.c,uA.out.f.w,uA.out.f.l⟩;have FC:=Lp.put Ev (p':=⟨kk,bb,0,[],r.h,r.c,t6⟩) 5 (.string r.c) (by omega) rfl Ev.o Ev.nb ⟨Ev.f.b,Ev.f.h,hrf.2,Ev.f.w,Ev.f.l⟩;obtain⟨BA,Cb⟩:∃y,y=(IV.setCell ⟨pb,4,none⟩ (.string r.h)).setCell ⟨pb,5,none⟩ (.string r.c):=⟨_,rfl⟩
   have e18:Ex pb IV BA:=(by rw[Cb];exact((Ex.refl _ _).set 4 _).set 5 _);have JK:=ah Cb;rw[<-Cb]at FC;have JL:=ah FC;have MF:ab<BA.heap.size:=Nat.lt_of_lt_of_le NS e18.size;have KA:Hid (∀y,Ex kr BA y->y.cell? ⟨ab,2,none⟩=some (.int .i64 r.f)/\y.cell? ⟨ab,3,none⟩=some (.int .i64 r.t)):=fun y he=>⟨(exc he ab 2 MF (by have:=uA.out.z;omega)).trans ((exc e18 ab 2 NS (by omega)).trans (eR JJ.out 2 rfl)),(exc he ab 3 MF (by have:=uA.out.z;omega)).trans ((exc e18 ab 3 NS (by omega)).trans (eR JJ.out 3 rfl))⟩
   clear Ev FC Cb e18
   go_upto_region 13 with(fail)
   rw[<-JK.out];clear JK a0 a1 k4 f4 k5 f5 uA JJ;have hd:Ex kr BA BA.drew:=Ex.of_below bD;refine wp_region_noPanic ?_;refine wp_region_held_drew (S:=fun y=>y.cell? ⟨ab,2,none⟩=some (.int .i64 r.f)/\y.cell? ⟨ab,3,none⟩=some (.int .i64 r.t)) (by kernel_rfl) (KA.out _ hd) (fun hHeld=>?_);refine aF 0 ?_;refine aF 1 ?_;try simp only[sp]
   refine aF 2 ?_;refine aF 3 ?_;try simp only[sp]
   refine aF 4 ?_;refine aF 5 ?_;try simp only[sp]
   refine aF 6 ?_;refine aF 7 ?_;try simp only[sp]
   refine aF 8 ?_;refine aF 9 ?_;try simp only[sp]
   refine aF 11 ?_;try simp only[sp]
   generalize IntKind.i64.wrap (r.f-1)=u1;generalize IntKind.i64.wrap (r.t+1)=u2;refine wpAnyH_ready (rs:=[10,12]) (by kernel_rfl) (by simp) ?_;refine(AllReadyH.cons rfl (fun K hK=>?_) (AllReadyH.cons rfl (fun K hK=>?_) AllReadyH.nil))
   ·
    go_simp
    have hb:Below BA.heap.size BA (BA.alloc (.cells #[.int .i64 r.t,.int .i64 r.f,.int .i64 u1,.int .i64 u2] 3)).drew:=au (ae bR _);refine hK.out _ _ (KA.out _ (Ex.of_below hb)) (fun hH1=>?_);clear hK K;try simp only[sp]
    refine wpAnyH_ready (rs:=[12]) (by kernel_rfl) (by simp) ?_;refine(AllReadyH.cons rfl (fun K hK=>?_) AllReadyH.nil)
    go_simp
    refine(bO kr _ 4 _ (JL.out.r.below hb) (by omega) (by omega) (by omega)).mono ?_;rintro e vS ⟨z3,rfl,z30,z31,JM,e19⟩;obtain⟨k9,rfl,JN⟩:=nk z30 z31;obtain⟨z9,BZ⟩:=JG r.t r.f u1 u2 (k:=k9) (by omega);have hck:vS.cell? ⟨BA.heap.size,k9,none⟩=some (.int .i64 z9):=((exc e19 _ k9 (by simp) (by have:=JL.out.z;omega)).trans (by simp[go_sem])).trans BZ;have DT:=ah ((JL.out.below hb).ex e19 JM);have QF:ab<vS.heap.size:=Nat.lt_of_lt_of_le MF (Nat.le_trans hb.size e19.size);go_wp2_with fail
    refine hK.out _ _ (KA.out _ ((Ex.of_below hb).trans e19)) (fun hH2=>?_);clear hK K hb JM e19 BZ hHeld hH1;try simp only[sp]
    refine aF 13 ?_;try simp only[sp]
    refine wpAnyH_ready (rs:=[14]) (by kernel_rfl) (by simp) ?_;refine(AllReadyH.cons rfl (fun K hK=>?_) AllReadyH.nil)
    go_simp
    refine hK.out _ _ (by assumption) (fun FD=>?_);clear hK K;try simp only[sp]
    refine aF 15 ?_;try simp only[sp]
    obtain⟨k6,f6⟩:=DT.out.c3;have k6:=k6 6 _ rfl;have f6:=f6 6 (by omega);obtain⟨-,-,NT⟩:=DT.out.z;refine wpAnyH_ready (rs:=[16]) (by kernel_rfl) (by simp) ?_;refine(AllReadyH.cons rfl (fun K hK=>?_) AllReadyH.nil)
    go_simp
    have DU:=Lp.put DT.out (p':=⟨kk,bb,0,[],r.h,r.c,z9⟩) 6 (.int .i64 z9) (by omega) rfl DT.out.o DT.out.nb ⟨DT.out.f.b,DT.out.f.h,DT.out.f.c,DT.out.f.w,DT.out.f.l⟩;refine hK.out _ _ (by have h1:=(exc ((Ex.refl pb vS).set 6 (.int .i64 z9)) ab 2 (by omega) (by omega));have h2:=(exc ((Ex.refl pb vS).set 6 (.int .i64 z9)) ab 3 (by omega) (by omega));exact⟨h1.trans FD.1,h2.trans FD.2⟩) (fun FE=>?_);clear hK K;try simp only[sp]
    refine wpAnyH_done (by kernel_rfl) ?_ _;refine NoPanic.normal ?_;go_wp2_with fail
    go_meet
    exact⟨_,_,DU.up (by omega)⟩
   go_simp
   refine(bO kr _ 4 _ (JL.out.r.below bD) (by omega) (by omega) (by omega)).mono ?_;rintro e vS ⟨z3,rfl,z30,z31,JM,e19⟩;have yZ:Ex kr BA vS:=hd.trans e19;have QH:=JL.out.ex yZ JM;go_wp2_with fail
   refine hK.out _ _ (KA.out _ yZ) (fun hH1=>?_);clear hK K;try simp only[sp]
   refine wpAnyH_ready (rs:=[10]) (by kernel_rfl) (by simp) ?_;refine(AllReadyH.cons rfl (fun K hK=>?_) AllReadyH.nil)
   go_simp
   have hb:Below vS.heap.size vS (vS.alloc (.cells #[.int .i64 r.t,.int .i64 r.f,.int .i64 u1,.int .i64 u2] 3)):=ae bR _;refine hK.out _ _ (KA.out _ (yZ.dh hb)) (fun hH2=>?_);clear hK K;try simp only[sp]
   obtain⟨k9,rfl,JN⟩:=nk z30 z31;obtain⟨z9,BZ⟩:=JG r.t r.f u1 u2 (k:=k9) (by omega);have QF:ab<(vS.alloc (.cells #[.int .i64 r.t,.int .i64 r.f,.int .i64 u1,.int .i64 u2] 3)).heap.size:=Nat.lt_of_lt_of_le MF (Nat.le_trans yZ.size hb.size);have hck:(vS.alloc (.cells #[.int .i64 r.t,.int .i64 r.f,.int .i64 u1,.int .i64 u2] 3)).cell? ⟨vS.heap.size,k9,none⟩=some (.int .i64 z9):=Eq.trans (by simp[go_sem]) BZ;have DT:=ah (QH.below hb);obtain⟨tg,QI⟩:∃tg,tg=vS.heap.size:=⟨_,rfl⟩
   rw[<-QI]at hck ⊢;generalize vS.alloc (.cells #[.int .i64 r.t,.int .i64 r.f,.int .i64 u1,.int .i64 u2] 3)=y20 at hck DT hH2 QF ⊢;clear hb JM e19 BZ hHeld hH1 QI QH yZ;refine aF 13 ?_;try simp only[sp]
   refine wpAnyH_ready (rs:=[14]) (by kernel_rfl) (by simp) ?_;refine(AllReadyH.cons rfl (fun K hK=>?_) AllReadyH.nil)
   go_simp
   refine hK.out _ _ (by assumption) (fun FD=>?_);clear hK K;try simp only[sp]
   refine aF 15 ?_;try simp only[sp]
   obtain⟨k6,f6⟩:=DT.out.c3;have k6:=k6 6 _ rfl;have f6:=f6 6 (by omega);obtain⟨-,-,NT⟩:=DT.out.z;refine wpAnyH_ready (rs:=[16]) (by kernel_rfl) (by simp) ?_;refine(AllReadyH.cons rfl (fun K hK=>?_) AllReadyH.nil)
   go_simp
   have DU:=Lp.put DT.out (p':=⟨kk,bb,0,[],r.h,r.c,z9⟩) 6 (.int .i64 z9) (by omega) rfl DT.out.o DT.out.nb ⟨DT.out.f.b,DT.out.f.h,DT.out.f.c,DT.out.f.w,DT.out.f.l⟩;refine hK.out _ _ (by have h1:=(exc ((Ex.refl pb y20).set 6 (.int .i64 z9)) ab 2 (by omega) (by omega));have h2:=(exc ((Ex.refl pb y20).set 6 (.int .i64 z9)) ab 3 (by omega) (by omega));exact⟨h1.trans FD.1,h2.trans FD.2⟩) (fun FE=>?_);clear hK K;try simp only[sp]
   refine wpAnyH_done (by kernel_rfl) ?_ _;refine NoPanic.normal ?_;go_wp2_with fail
   go_meet
   exact⟨_,_,DU.up (by omega)⟩
  obtain⟨p,v,D9⟩:=hcut;clear D4;obtain⟨x5,n5,hv⟩:=W.Ow.shape D9.out.o;subst hv;have k0:=eR D9.out.c 0 rfl;have k1:=eR D9.out.c 1 rfl;have k2:=eR D9.out.c 2 rfl;have k3:=eR D9.out.c 3 rfl;have k4:=eR D9.out.c 4 rfl;have k5:=eR D9.out.c 5 rfl;have k6:=eR D9.out.c 6 rfl;go_wp2_with (refine wpList_store_mid (by rfl) 43 _ _ (by rfl) (w.heap.size+1) 0 (cw p.k p.b p.s (ai x5 p.ws n5) p.h p.c p.t) (by rfl) (by rfl) (by exact D9.out.b) hinfo (by simp[Value.oneCell']) ?_)
  have hrg:=World.rangeAt_setCells_same wc (w.heap.size+1) 0 (II p.k p.b p.s (ai x5 p.ws n5) p.h p.c p.t) D9.out.b;have he:Ex (w.heap.size+1) wc (wc.setCells (w.heap.size+1) 0 (II p.k p.b p.s (ai x5 p.ws n5) p.h p.c p.t)):=(Ex.refl _ _).cells _ _;have ho:=W.Ow.grown D9.out.o (W.av he) (eV (fun k hk e=>by have h1:=(W.Ow.lt D9.out.o k e).1;cases hk;omega));have d0:=eR hrg 0 rfl;have d1:=eR hrg 1 rfl;have d2:=eR hrg 2 rfl;have d3:=eR hrg 3 rfl;have d4:=eR hrg 4 rfl;have d5:=eR hrg 5 rfl;have d6:=eR hrg 6 rfl;exact bodyPost_ret (v:=.agg (cw p.k p.b p.s (ai x5 p.ws n5) p.h p.c p.t)) (by simp[results,results55,go_sem,d0,d1,d2,d3,d4,d5,d6]) rfl ⟨p,x5,n5,rfl,W.Ow.sl ho,qA D9.out.o,D9.out.f,(D9.out.r.grown (W.av he) (fun k hk=>by cases hk;omega)).up (by omega),D9.out.e.grown (W.av he) (fun k hk=>by cases hk;omega)⟩
end Go.Proofs.YtlfnpjcjapljpaaGreatDoor
