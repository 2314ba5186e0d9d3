import Derived.Test.YtlfnpjcjapljpaaGreatDoorJ34
import Derived.Test.YtlfnpjcjapljpaaGreatDoorJ43
namespace Go.Proofs.YtlfnpjcjapljpaaGreatDoor
open Go.Maps Go.Proofs.Tryz Go.RowKit Go.WideMaps
set_option maxRecDepth 4000
set_option maxHeartbeats 8000000
set_option linter.unusedVariables false
theorem xF(m:aj)(p:bI)(x1 x2 x3 x4 x5:Option Addr)(n1 n2 n3 n4 n5:Nat)(w:World)(hL:gx w m x1 x2 x3 x4 n1 n2 n3 n4)(hf:m.fits)(hR:W.Src w x5 n5 p.ws)(h5:p.ws.length<=n5)(hp:p.fits):
  Calls prog 15 #[.agg (bK m x1 x2 x3 x4 n1 n2 n3 n4),.agg (cw p.k p.b p.s (ai x5 p.ws n5) p.h p.c p.t)] w fun e w'=>(∃r s1 s2 s3 s4,e=.returned (.agg (bY r.nm r.up r.ck r.kn r.se s1 s2 s3 s4))/\Takes m p r/\dI w' r s1 s2 s3 s4 w.heap.size)/\Below w.heap.size w w':=by
 have S0:=ah (AZ m p x1 x2 x3 x4 x5 n1 n2 n3 n4 n5 w);have hinfo:(prog.info? 27).map (·.size)=some 9:=by kernel_rfl
 have HR:=ah hR;have HP:=ah hp;clear hR hp;obtain⟨v,hu⟩:∃v,m.up=v:=⟨_,rfl⟩
 have Hu:=ah hu;clear hu;go_enter func15,ntmps15
 go_wp2_with fail
 refine(fu m x1 x2 x3 x4 n1 n2 n3 n4 _ (hL.keep S0.out.e).lists hf).mono ?_;rintro e w1 ⟨⟨q,rfl,hq⟩,c1⟩;have S1:=ah (S0.out.below c1);have Hq:=ah hq;clear hq c1;have ka:=S1.out.b;have kf:=S1.out.c;cases q
 ·
  go_wp2_with (refine wpList_store_mid (by rfl) 27 _ _ (by rfl) (w.heap.size+2) 0 iU (by rfl) (by rfl) (by exact S1.out.d) hinfo (by exact all_oneCell_toArray (iH)) ?_)
  have hrg:=World.rangeAt_setCells_same w1 (w.heap.size+2) 0 (dP ⟨#[]⟩ false 0 false 0 (.slice none 0 0) (.slice none 0 0) (.slice none 0 0) (.slice none 0 0)) S1.out.d;obtain⟨d0,d1,d2,d3,d4,d5,d6,d7,d8⟩:=d9 hrg;exact bodyPost_ret (v:=.agg iU) (by simp[results,results15,go_sem,d0,d1,d2,d3,d4,d5,d6,d7,d8]) rfl ⟨⟨ju,_,_,_,_,rfl,Or.inr ⟨dA Hq.out,rfl⟩,jw _ _⟩,S1.out.put _⟩
 have hv:=ah (Hq.out.1 rfl);clear Hq;go_wp2_with fail
 refine(nc m x1 x2 x3 x4 n1 n2 n3 n4 _ (hL.keep S1.out.e).r1 (hL.keep S1.out.e).r2 (hL.keep S1.out.e).r3 (hL.keep S1.out.e).r4 ⟨hf.k1,hf.k2,hf.k3,hf.k4⟩).mono ?_;rintro e w2 ⟨⟨s1,s2,s3,s4,rfl,rr⟩,c2⟩;have S2:=ah (S1.out.below c2);have R2:=ah rr;obtain⟨a1,p1,hs1⟩:=W.Sl.shape rr.a1;obtain⟨a2,p2,hs2⟩:=Sl.shape rr.a2;obtain⟨a3,p3,hs3⟩:=A.Sl.shape rr.a3;obtain⟨a4,p4,hs4⟩:=A.Sl.shape rr.a4;subst hs1 hs2 hs3 hs4;have z12:=c2.size;clear rr c2 ka kf;have zb:=S1.out.f;have Ic:=ah z12;clear z12;have zw:=S2.out.f;have WR:w.heap.size<w2.heap.size:=by omega
 have WS:w.heap.size+1<w2.heap.size:=by omega
 have ka:=S2.out.b;have kf:=S2.out.c;have kp:=S2.out.b2;have kq:=S2.out.c2;unfold bK at ka;rw[Hu.out]at ka ⊢;cases v
 ·
  have S3:Hid (Sp w (bK m x1 x2 x3 x4 n1 n2 n3 n4) (cw p.k p.b p.s (ai x5 p.ws n5) p.h p.c p.t) (w2.alloc (.cells (bY m.nm false m.ck m.kn m.se (ai a1 m.ws p1) (ai a2 m.rs p2) (ai a3 m.qs p3) (ai a4 m.gs p4)) 27))):=S2.out.below (ae bR _);have R3:Hid (dI (w2.alloc (.cells (bY m.nm false m.ck m.kn m.se (ai a1 m.ws p1) (ai a2 m.rs p2) (ai a3 m.qs p3) (ai a4 m.gs p4)) 27)) m (ai a1 m.ws p1) (ai a2 m.rs p2) (ai a3 m.qs p3) (ai a4 m.gs p4) w1.heap.size):=R2.out.keep (ae bR _);have ho:=ones m R3.out.a1 R3.out.a2 R3.out.a3 R3.out.a4;rw[Hu.out]at ho;go_wp2_with (refine wpList_store_mid (by rfl) 27 _ _ (by rfl) (w.heap.size+2) 0 (bY m.nm false m.ck m.kn m.se (ai a1 m.ws p1) (ai a2 m.rs p2) (ai a3 m.qs p3) (ai a4 m.gs p4)) (by rfl) (by rfl) (by exact S3.out.d) hinfo (by exact all_oneCell_toArray (ho)) ?_)
  have hrg:=World.rangeAt_setCells_same (w2.alloc (.cells (bY m.nm false m.ck m.kn m.se (ai a1 m.ws p1) (ai a2 m.rs p2) (ai a3 m.qs p3) (ai a4 m.gs p4)) 27)) (w.heap.size+2) 0 (dP m.nm false m.ck m.kn m.se (ai a1 m.ws p1) (ai a2 m.rs p2) (ai a3 m.qs p3) (ai a4 m.gs p4)) S3.out.d;obtain⟨d0,d1,d2,d3,d4,d5,d6,d7,d8⟩:=d9 hrg;exact bodyPost_ret (v:=.agg (bY m.nm false m.ck m.kn m.se (ai a1 m.ws p1) (ai a2 m.rs p2) (ai a3 m.qs p3) (ai a4 m.gs p4))) (by simp[results,results15,go_sem,d0,d1,d2,d3,d4,d5,d6,d7,d8]) rfl ⟨⟨m,_,_,_,_,by rw[Hu.out],Or.inl ⟨hv.out,(iM (fun h=>by have:=h.1;rw[Hu.out]at this;cases this)).symm⟩,(R3.out.ex ((Ex.refl _ _).cells _ _) zb).low (by omega)⟩,S3.out.put _⟩
 cases hb:p.b.toList==m.nm.toList
 ·
  have S3:Hid (Sp w (bK m x1 x2 x3 x4 n1 n2 n3 n4) (cw p.k p.b p.s (ai x5 p.ws n5) p.h p.c p.t) (w2.alloc (.cells (bY m.nm true m.ck m.kn m.se (ai a1 m.ws p1) (ai a2 m.rs p2) (ai a3 m.qs p3) (ai a4 m.gs p4)) 27))):=S2.out.below (ae bR _);have R3:Hid (dI (w2.alloc (.cells (bY m.nm true m.ck m.kn m.se (ai a1 m.ws p1) (ai a2 m.rs p2) (ai a3 m.qs p3) (ai a4 m.gs p4)) 27)) m (ai a1 m.ws p1) (ai a2 m.rs p2) (ai a3 m.qs p3) (ai a4 m.gs p4) w1.heap.size):=R2.out.keep (ae bR _);have ho:=ones m R3.out.a1 R3.out.a2 R3.out.a3 R3.out.a4;rw[Hu.out]at ho;go_wp2_with (refine wpList_store_mid (by rfl) 27 _ _ (by rfl) (w.heap.size+2) 0 (bY m.nm true m.ck m.kn m.se (ai a1 m.ws p1) (ai a2 m.rs p2) (ai a3 m.qs p3) (ai a4 m.gs p4)) (by rfl) (by rfl) (by exact S3.out.d) hinfo (by exact all_oneCell_toArray (ho)) ?_)
  have hrg:=World.rangeAt_setCells_same (w2.alloc (.cells (bY m.nm true m.ck m.kn m.se (ai a1 m.ws p1) (ai a2 m.rs p2) (ai a3 m.qs p3) (ai a4 m.gs p4)) 27)) (w.heap.size+2) 0 (dP m.nm true m.ck m.kn m.se (ai a1 m.ws p1) (ai a2 m.rs p2) (ai a3 m.qs p3) (ai a4 m.gs p4)) S3.out.d;obtain⟨d0,d1,d2,d3,d4,d5,d6,d7,d8⟩:=d9 hrg;exact bodyPost_ret (v:=.agg (bY m.nm true m.ck m.kn m.se (ai a1 m.ws p1) (ai a2 m.rs p2) (ai a3 m.qs p3) (ai a4 m.gs p4))) (by simp[results,results15,go_sem,d0,d1,d2,d3,d4,d5,d6,d7,d8]) rfl ⟨⟨m,_,_,_,_,by rw[Hu.out],Or.inl ⟨hv.out,(iM (fun h=>(beq_eq_false_iff_ne.1 hb) h.2)).symm⟩,(R3.out.ex ((Ex.refl _ _).cells _ _) zb).low (by omega)⟩,S3.out.put _⟩
 have HT:Hid (m.up=true/\p.b.toList=m.nm.toList):=⟨Hu.out,by simpa using hb⟩
 have S3:Hid (Sp w (bK m x1 x2 x3 x4 n1 n2 n3 n4) (cw p.k p.b p.s (ai x5 p.ws n5) p.h p.c p.t) (w2.alloc (.cells (bY m.nm true m.ck m.kn m.se (ai a1 m.ws p1) (ai a2 m.rs p2) (ai a3 m.qs p3) (ai a4 m.gs p4)) 27))):=S2.out.below (ae bR _);have R3:Hid (dI (w2.alloc (.cells (bY m.nm true m.ck m.kn m.se (ai a1 m.ws p1) (ai a2 m.rs p2) (ai a3 m.qs p3) (ai a4 m.gs p4)) 27)) m (ai a1 m.ws p1) (ai a2 m.rs p2) (ai a3 m.qs p3) (ai a4 m.gs p4) w1.heap.size):=R2.out.keep (ae bR _);by_cases k1:p.k=1
 ·
  rw[k1]at kp;go_wp2_with fail
  refine(W.gy x5 n5 p.ws _ (HR.out.keep S3.out.e).gv HP.out.w HP.out.l).mono ?_;rintro e w3 ⟨⟨q,rfl,q1⟩,c3⟩;have K1:=ah q1;have S4:=ah (S3.out.below c3);have R4:=ah (R3.out.keep c3);have X4:Hid (Bx w3 w2.heap.size (bY m.nm true m.ck m.kn m.se (ai a1 m.ws p1) (ai a2 m.rs p2) (ai a3 m.qs p3) (ai a4 m.gs p4))):=(jg _ _ _).below c3;clear q1 c3 S3 R3 ka kf kp kq;have ka:=S4.out.b;have kf:=S4.out.c;have kp:=S4.out.b2;have kq:=S4.out.c2;unfold bK at ka;rw[Hu.out]at ka;have kx:=X4.out.b;have ky:=X4.out.c;rw[k1]at kp;cases q
  ·
   have ho:=ones m R4.out.a1 R4.out.a2 R4.out.a3 R4.out.a4;rw[Hu.out]at ho;go_wp2_with ((with_reducible show wpList _ _ _ [⟨_,Op.store 27 _ _,_,_,_,_⟩] _ _);refine Stop.out ?_)
   refine⟨?_⟩
   (refine wpList_store_mid (by rfl) 27 _ _ (by rfl) (w.heap.size+2) 0 (bY m.nm true m.ck m.kn m.se (ai a1 m.ws p1) (ai a2 m.rs p2) (ai a3 m.qs p3) (ai a4 m.gs p4)) (by rfl) (by rfl) (by exact S4.out.d) hinfo (by exact all_oneCell_toArray (ho)) ?_)
   go_wp2_with fail
   have hrg:=World.rangeAt_setCells_same w3 (w.heap.size+2) 0 (dP m.nm true m.ck m.kn m.se (ai a1 m.ws p1) (ai a2 m.rs p2) (ai a3 m.qs p3) (ai a4 m.gs p4)) S4.out.d;obtain⟨d0,d1,d2,d3,d4,d5,d6,d7,d8⟩:=d9 hrg;exact bodyPost_ret (v:=.agg (bY m.nm true m.ck m.kn m.se (ai a1 m.ws p1) (ai a2 m.rs p2) (ai a3 m.qs p3) (ai a4 m.gs p4))) (by simp[results,results15,go_sem,d0,d1,d2,d3,d4,d5,d6,d7,d8]) rfl ⟨⟨m,_,_,_,_,by rw[Hu.out],Or.inl ⟨hv.out,(iN HT.out k1 (fun h=>by have:=K1.out.2 h.2.2;cases this)).symm⟩,(R4.out.ex ((Ex.refl _ _).cells _ _) zb).low (by omega)⟩,S4.out.put _⟩
  cases q2:cA p.s 1 1000000
  ·
   have ho:=ones m R4.out.a1 R4.out.a2 R4.out.a3 R4.out.a4;rw[Hu.out]at ho;go_wp2_with (first|(go_at_call 28;refine(aI _ _ _ _).mono ?_;rintro e w' ⟨rfl,hw⟩;have hw2:=hw.symm;subst hw2;clear hw)|((with_reducible show wpList _ _ _ [⟨_,Op.store 27 _ _,_,_,_,_⟩] _ _);refine Stop.out ?_))
   refine⟨?_⟩
   (refine wpList_store_mid (by rfl) 27 _ _ (by rfl) (w.heap.size+2) 0 (bY m.nm true m.ck m.kn m.se (ai a1 m.ws p1) (ai a2 m.rs p2) (ai a3 m.qs p3) (ai a4 m.gs p4)) (by rfl) (by rfl) (by exact S4.out.d) hinfo (by exact all_oneCell_toArray (ho)) ?_)
   go_wp2_with fail
   have hrg:=World.rangeAt_setCells_same w3 (w.heap.size+2) 0 (dP m.nm true m.ck m.kn m.se (ai a1 m.ws p1) (ai a2 m.rs p2) (ai a3 m.qs p3) (ai a4 m.gs p4)) S4.out.d;obtain⟨d0,d1,d2,d3,d4,d5,d6,d7,d8⟩:=d9 hrg;exact bodyPost_ret (v:=.agg (bY m.nm true m.ck m.kn m.se (ai a1 m.ws p1) (ai a2 m.rs p2) (ai a3 m.qs p3) (ai a4 m.gs p4))) (by simp[results,results15,go_sem,d0,d1,d2,d3,d4,d5,d6,d7,d8]) rfl ⟨⟨m,_,_,_,_,by rw[Hu.out],Or.inl ⟨hv.out,(iN HT.out k1 (fun h=>by have:=h.2.1;rw[q2]at this;cases this)).symm⟩,(R4.out.ex ((Ex.refl _ _).cells _ _) zb).low (by omega)⟩,S4.out.put _⟩
  obtain⟨v2,hk2⟩:∃v,m.kn=v:=⟨_,rfl⟩
  have Sg:=ah hk2;rw[hk2]at ka;clear hk2;cases v2
  ·
   have HH:Hid (iZ m p):=⟨Or.inl Sg.out,q2,K1.out.1 rfl⟩
   obtain⟨iw,hiw,UN,UO,UQ⟩:=info_parts W.cE;have MB:=kS;have PD:=HP.out.l;have zc:=X4.out.l;have EC:Hid (Ex w2.heap.size w3 ((w3.setCell ⟨w2.heap.size,3,none⟩ (.bool true)).setCell ⟨w2.heap.size,4,none⟩ (.int .i64 p.s))):=((Ex.refl _ _).set 3 _).set 4 _;have Ie:=ah (S4.out.ex EC.out zw);have zp:w.heap.size+1<w3.heap.size:=(by have:=S4.out.f;omega);have PE:=Ie.out.b2;have PF:=Ie.out.c2;go_wp2_with (first|(go_at_call 28;refine(aI _ _ _ _).mono ?_;rintro e w' ⟨rfl,hw⟩;have hw2:=hw.symm;subst hw2;clear hw)|(at_builtin;refine Stop.out ?_))
   refine⟨?_⟩;obtain⟨xc,hxc⟩:∃x,x=((w3.setCell ⟨w2.heap.size,3,none⟩ (.bool true)).setCell ⟨w2.heap.size,4,none⟩ (.int .i64 p.s)):=⟨_,rfl⟩
   have SC:Hid (Sp w (bK m x1 x2 x3 x4 n1 n2 n3 n4) (cw p.k p.b p.s (ai x5 p.ws n5) p.h p.c p.t) xc):=(by rw[hxc];exact S4.out.ex EC.out zw);have RD:Hid (dI xc m (ai a1 m.ws p1) (ai a2 m.rs p2) (ai a3 m.qs p3) (ai a4 m.gs p4) w1.heap.size):=(by rw[hxc];exact R4.out.Ib R2.out.lt EC.out);have XD:Hid (Bx xc w2.heap.size (bY m.nm true m.ck true p.s (ai a1 m.ws p1) (ai a2 m.rs p2) (ai a3 m.qs p3) (ai a4 m.gs p4))):=(by rw[hxc];exact(X4.out.set 3 (by simp) _).set 4 (by simp) _);have RC:=ah (HR.out.keep SC.out.e);have zd:=XD.out.l;rw[<-hxc];have hsz:xc.heap.size=w3.heap.size:=(by rw[hxc];simp);clear hxc EC Ie PE PF ka kf kp kq kx ky
   (refine W.gV xc rfl (.tmp 55) (.tmp 57) rfl p.ws x5 n5 (by first|rfl|simp[Act.eval,hsz]) (by first|rfl|simp[Act.eval]) RC.out PD ?_;intro s5 w5 r5 B5)
   obtain⟨a5,p5,hs5⟩:=W.Sl.shape r5;subst hs5;have Q5:=ah r5;have S5:=ah (SC.out.below B5);have R5:=ah (RD.out.keep B5);have X5:=ah (XD.out.below B5);clear B5 r5 hsz;have kx:=X5.out.b;have ky:=X5.out.c;have S7:Hid (Sp w (bK m x1 x2 x3 x4 n1 n2 n3 n4) (cw p.k p.b p.s (ai x5 p.ws n5) p.h p.c p.t) (w5.setCell ⟨w2.heap.size,5,none⟩ (ai a5 p.ws p5))):=S5.out.ex ((Ex.refl _ _).set 5 _) zw;have R7:Hid (dI (w5.setCell ⟨w2.heap.size,5,none⟩ (ai a5 p.ws p5)) (⟨m.nm,true,m.ck,true,p.s,p.ws,m.rs,m.qs,m.gs⟩:aj) (ai a5 p.ws p5) (ai a2 m.rs p2) (ai a3 m.qs p3) (ai a4 m.gs p4) w1.heap.size):=tS R5.out Q5.out R2.out.lt zd (Nat.le_trans Ic.out (Nat.le_of_lt zd)) ((Ex.refl _ _).set 5 _);have ho:=ones (⟨m.nm,true,m.ck,true,p.s,p.ws,m.rs,m.qs,m.gs⟩:aj) R7.out.a1 R7.out.a2 R7.out.a3 R7.out.a4;go_wp2_with ((with_reducible show wpList _ _ _ [⟨_,Op.store 27 _ _,_,_,_,_⟩] _ _);refine Stop.out ?_)
   refine⟨?_⟩
   (refine wpList_store_mid (by rfl) 27 _ _ (by rfl) (w.heap.size+2) 0 (bY m.nm true m.ck true p.s (ai a5 p.ws p5) (ai a2 m.rs p2) (ai a3 m.qs p3) (ai a4 m.gs p4)) (by rfl) (by rfl) (by exact S7.out.d) hinfo (by exact all_oneCell_toArray (ho)) ?_)
   go_wp2_with fail
   have hrg:=World.rangeAt_setCells_same (w5.setCell ⟨w2.heap.size,5,none⟩ (ai a5 p.ws p5)) (w.heap.size+2) 0 (dP m.nm true m.ck true p.s (ai a5 p.ws p5) (ai a2 m.rs p2) (ai a3 m.qs p3) (ai a4 m.gs p4)) S7.out.d;obtain⟨d0,d1,d2,d3,d4,d5,d6,d7,d8⟩:=d9 hrg;exact bodyPost_ret (v:=.agg (bY m.nm true m.ck true p.s (ai a5 p.ws p5) (ai a2 m.rs p2) (ai a3 m.qs p3) (ai a4 m.gs p4))) (by simp[results,results15,go_sem,d0,d1,d2,d3,d4,d5,d6,d7,d8]) rfl ⟨⟨(⟨m.nm,true,m.ck,true,p.s,p.ws,m.rs,m.qs,m.gs⟩:aj),_,_,_,_,rfl,Or.inl ⟨hv.out,by rw[jQ HT.out k1 HH.out,Hu.out]⟩,(R7.out.ex ((Ex.refl _ _).cells _ _) zb).low (by omega)⟩,S7.out.put _⟩
  by_cases hs:m.se<p.s
  ·
   have HH:Hid (iZ m p):=⟨Or.inr hs,q2,K1.out.1 rfl⟩
   obtain⟨iw,hiw,UN,UO,UQ⟩:=info_parts W.cE;have MB:=kS;have PD:=HP.out.l;have zc:=X4.out.l;have EC:Hid (Ex w2.heap.size w3 ((w3.setCell ⟨w2.heap.size,3,none⟩ (.bool true)).setCell ⟨w2.heap.size,4,none⟩ (.int .i64 p.s))):=((Ex.refl _ _).set 3 _).set 4 _;have Ie:=ah (S4.out.ex EC.out zw);have zp:w.heap.size+1<w3.heap.size:=(by have:=S4.out.f;omega);have PE:=Ie.out.b2;have PF:=Ie.out.c2;go_wp2_with (first|(go_at_call 28;refine(aI _ _ _ _).mono ?_;rintro e w' ⟨rfl,hw⟩;have hw2:=hw.symm;subst hw2;clear hw)|(at_builtin;refine Stop.out ?_))
   refine⟨?_⟩;obtain⟨xc,hxc⟩:∃x,x=((w3.setCell ⟨w2.heap.size,3,none⟩ (.bool true)).setCell ⟨w2.heap.size,4,none⟩ (.int .i64 p.s)):=⟨_,rfl⟩
   have SC:Hid (Sp w (bK m x1 x2 x3 x4 n1 n2 n3 n4) (cw p.k p.b p.s (ai x5 p.ws n5) p.h p.c p.t) xc):=(by rw[hxc];exact S4.out.ex EC.out zw);have RD:Hid (dI xc m (ai a1 m.ws p1) (ai a2 m.rs p2) (ai a3 m.qs p3) (ai a4 m.gs p4) w1.heap.size):=(by rw[hxc];exact R4.out.Ib R2.out.lt EC.out);have XD:Hid (Bx xc w2.heap.size (bY m.nm true m.ck true p.s (ai a1 m.ws p1) (ai a2 m.rs p2) (ai a3 m.qs p3) (ai a4 m.gs p4))):=(by rw[hxc];exact(X4.out.set 3 (by simp) _).set 4 (by simp) _);have RC:=ah (HR.out.keep SC.out.e);have zd:=XD.out.l;rw[<-hxc];have hsz:xc.heap.size=w3.heap.size:=(by rw[hxc];simp);clear hxc EC Ie PE PF ka kf kp kq kx ky
   (refine W.gV xc rfl (.tmp 55) (.tmp 57) rfl p.ws x5 n5 (by first|rfl|simp[Act.eval,hsz]) (by first|rfl|simp[Act.eval]) RC.out PD ?_;intro s5 w5 r5 B5)
   obtain⟨a5,p5,hs5⟩:=W.Sl.shape r5;subst hs5;have Q5:=ah r5;have S5:=ah (SC.out.below B5);have R5:=ah (RD.out.keep B5);have X5:=ah (XD.out.below B5);clear B5 r5 hsz;have kx:=X5.out.b;have ky:=X5.out.c;have S7:Hid (Sp w (bK m x1 x2 x3 x4 n1 n2 n3 n4) (cw p.k p.b p.s (ai x5 p.ws n5) p.h p.c p.t) (w5.setCell ⟨w2.heap.size,5,none⟩ (ai a5 p.ws p5))):=S5.out.ex ((Ex.refl _ _).set 5 _) zw;have R7:Hid (dI (w5.setCell ⟨w2.heap.size,5,none⟩ (ai a5 p.ws p5)) (⟨m.nm,true,m.ck,true,p.s,p.ws,m.rs,m.qs,m.gs⟩:aj) (ai a5 p.ws p5) (ai a2 m.rs p2) (ai a3 m.qs p3) (ai a4 m.gs p4) w1.heap.size):=tS R5.out Q5.out R2.out.lt zd (Nat.le_trans Ic.out (Nat.le_of_lt zd)) ((Ex.refl _ _).set 5 _);have ho:=ones (⟨m.nm,true,m.ck,true,p.s,p.ws,m.rs,m.qs,m.gs⟩:aj) R7.out.a1 R7.out.a2 R7.out.a3 R7.out.a4;go_wp2_with ((with_reducible show wpList _ _ _ [⟨_,Op.store 27 _ _,_,_,_,_⟩] _ _);refine Stop.out ?_)
   refine⟨?_⟩
   (refine wpList_store_mid (by rfl) 27 _ _ (by rfl) (w.heap.size+2) 0 (bY m.nm true m.ck true p.s (ai a5 p.ws p5) (ai a2 m.rs p2) (ai a3 m.qs p3) (ai a4 m.gs p4)) (by rfl) (by rfl) (by exact S7.out.d) hinfo (by exact all_oneCell_toArray (ho)) ?_)
   go_wp2_with fail
   have hrg:=World.rangeAt_setCells_same (w5.setCell ⟨w2.heap.size,5,none⟩ (ai a5 p.ws p5)) (w.heap.size+2) 0 (dP m.nm true m.ck true p.s (ai a5 p.ws p5) (ai a2 m.rs p2) (ai a3 m.qs p3) (ai a4 m.gs p4)) S7.out.d;obtain⟨d0,d1,d2,d3,d4,d5,d6,d7,d8⟩:=d9 hrg;exact bodyPost_ret (v:=.agg (bY m.nm true m.ck true p.s (ai a5 p.ws p5) (ai a2 m.rs p2) (ai a3 m.qs p3) (ai a4 m.gs p4))) (by simp[results,results15,go_sem,d0,d1,d2,d3,d4,d5,d6,d7,d8]) rfl ⟨⟨(⟨m.nm,true,m.ck,true,p.s,p.ws,m.rs,m.qs,m.gs⟩:aj),_,_,_,_,rfl,Or.inl ⟨hv.out,by rw[jQ HT.out k1 HH.out,Hu.out]⟩,(R7.out.ex ((Ex.refl _ _).cells _ _) zb).low (by omega)⟩,S7.out.put _⟩
  have ho:=ones m R4.out.a1 R4.out.a2 R4.out.a3 R4.out.a4;rw[Hu.out]at ho;go_wp2_with (first|(go_at_call 28;refine(aI _ _ _ _).mono ?_;rintro e w' ⟨rfl,hw⟩;have hw2:=hw.symm;subst hw2;clear hw)|((with_reducible show wpList _ _ _ [⟨_,Op.store 27 _ _,_,_,_,_⟩] _ _);refine Stop.out ?_))
  refine⟨?_⟩
  (refine wpList_store_mid (by rfl) 27 _ _ (by rfl) (w.heap.size+2) 0 (bY m.nm true m.ck m.kn m.se (ai a1 m.ws p1) (ai a2 m.rs p2) (ai a3 m.qs p3) (ai a4 m.gs p4)) (by rfl) (by rfl) (by exact S4.out.d) hinfo (by exact all_oneCell_toArray (ho)) ?_)
  go_wp2_with fail
  have hrg:=World.rangeAt_setCells_same w3 (w.heap.size+2) 0 (dP m.nm true m.ck m.kn m.se (ai a1 m.ws p1) (ai a2 m.rs p2) (ai a3 m.qs p3) (ai a4 m.gs p4)) S4.out.d;obtain⟨d0,d1,d2,d3,d4,d5,d6,d7,d8⟩:=d9 hrg;exact bodyPost_ret (v:=.agg (bY m.nm true m.ck m.kn m.se (ai a1 m.ws p1) (ai a2 m.rs p2) (ai a3 m.qs p3) (ai a4 m.gs p4))) (by simp[results,results15,go_sem,d0,d1,d2,d3,d4,d5,d6,d7,d8]) rfl ⟨⟨m,_,_,_,_,by rw[Hu.out],Or.inl ⟨hv.out,(iN HT.out k1 (fun h=>by rcases h.1 with h|h;(rw[Sg.out]at h;cases h);omega)).symm⟩,(R4.out.ex ((Ex.refl _ _).cells _ _) zb).low (by omega)⟩,S4.out.put _⟩
 by_cases k3:p.k=3
 ·
  rw[k3]at kp;go_wp2_with fail
  have F:=A.cG x3 n3 m.qs p.h (w2.alloc (.cells (bY m.nm true m.ck m.kn m.se (ai a1 m.ws p1) (ai a2 m.rs p2) (ai a3 m.qs p3) (ai a4 m.gs p4)) 27)) (hL.keep S3.out.e).lists.r3 hf.k3;refine F.mono ?_;clear F;rintro e w3 ⟨rfl,hw3⟩;have S4:Hid (Sp w (bK m x1 x2 x3 x4 n1 n2 n3 n4) (cw p.k p.b p.s (ai x5 p.ws n5) p.h p.c p.t) w3):=by rw[hw3];exact S3.out
  have R4:Hid (dI w3 m (ai a1 m.ws p1) (ai a2 m.rs p2) (ai a3 m.qs p3) (ai a4 m.gs p4) w1.heap.size):=by rw[hw3];exact R3.out
  have X4:Hid (Bx w3 w2.heap.size (bY m.nm true m.ck m.kn m.se (ai a1 m.ws p1) (ai a2 m.rs p2) (ai a3 m.qs p3) (ai a4 m.gs p4))):=by rw[hw3];exact jg _ _ _
  have L4:=ah (hL.keep S4.out.e);have Z4:=ah (dO hv.out);clear hw3 S3 R3 ka kf kp kq;have ka:=S4.out.b;have kf:=S4.out.c;have kp:=S4.out.b2;have kq:=S4.out.c2;unfold bK at ka;rw[Hu.out]at ka;have kx:=X4.out.b;have ky:=X4.out.c;rw[k3]at kp;rcases A.ask_cases m.qs p.h with⟨ha,hn⟩|⟨k,a,ha,hk,he⟩
  ·
   have Hn:=ah hn;clear hn;rw[ha];go_wp2_with fail
   go_quiet (fail)
   obtain⟨y4,hy4⟩:∃x,x=w3.drewN nq:=⟨_,rfl⟩
   have BQ:Below w3.heap.size w3 y4:=(by rw[hy4];exact dT bR);have S5:=ah (S4.out.below BQ);have R5:=ah (R4.out.keep BQ);have X5:=ah (X4.out.below BQ);have L5:=ah (hL.keep S5.out.e);rw[<-hy4];clear hy4 BQ ka kf kp kq kx ky S4 R4 X4 L4;have ka:=S5.out.b;have kf:=S5.out.c;have kp:=S5.out.b2;have kq:=S5.out.c2;unfold bK at ka;rw[Hu.out]at ka;have kx:=X5.out.b;have ky:=X5.out.c;have ho:=ones m R5.out.a1 R5.out.a2 R5.out.a3 R5.out.a4;rw[Hu.out]at ho;go_wp2_with ((with_reducible show wpList _ _ _ [⟨_,Op.store 27 _ _,_,_,_,_⟩] _ _);refine Stop.out ?_)
   refine⟨?_⟩
   (refine wpList_store_mid (by rfl) 27 _ _ (by rfl) (w.heap.size+2) 0 (bY m.nm true m.ck m.kn m.se (ai a1 m.ws p1) (ai a2 m.rs p2) (ai a3 m.qs p3) (ai a4 m.gs p4)) (by rfl) (by rfl) (by exact S5.out.d) hinfo (by exact all_oneCell_toArray (ho)) ?_)
   go_wp2_with fail
   have hrg:=World.rangeAt_setCells_same y4 (w.heap.size+2) 0 (dP m.nm true m.ck m.kn m.se (ai a1 m.ws p1) (ai a2 m.rs p2) (ai a3 m.qs p3) (ai a4 m.gs p4)) S5.out.d;obtain⟨d0,d1,d2,d3,d4,d5,d6,d7,d8⟩:=d9 hrg;exact bodyPost_ret (v:=.agg (bY m.nm true m.ck m.kn m.se (ai a1 m.ws p1) (ai a2 m.rs p2) (ai a3 m.qs p3) (ai a4 m.gs p4))) (by simp[results,results15,go_sem,d0,d1,d2,d3,d4,d5,d6,d7,d8]) rfl ⟨⟨m,_,_,_,_,by rw[Hu.out],Or.inl ⟨hv.out,by rw[fA HT.out k3,gu (fun⟨a,h1,h2,_⟩=>Hn.out a h1 h2)]⟩,(R5.out.ex ((Ex.refl _ _).cells _ _) zb).low (by omega)⟩,S5.out.put _⟩
  rw[ha];have Hk:=ah hk;have He:=ah he;have EY:k<m.qs.length:=(List.getElem?_eq_some_iff.1 hk).1;have Si:=hf.k3;obtain⟨b3,hx3,hb3,Mi⟩:=L4.out.lists.r3.resolve_left (fun h=>by rw[h]at EY;simp at EY);subst hx3;obtain⟨c0,c1,c2,c3⟩:=Mi.at hk;simp only[Nat.zero_add]at c0 c1 c2 c3;have i0:(0:Int)<=(k:Int):=by omega
  have i1:(k:Int)<(m.qs.length:Int):=by omega
  clear hk he ha;cases hcc:(a.c.toList==p.c.toList)
  ·
   have Mj:¬a.c.toList=p.c.toList:=(by simpa using hcc);have UR:=ah Mj;clear Mj;go_wp2_with fail
   have i2:((k:Int)<0)=False:=by simp
   go_big_quiet ((go_at_call 28;refine Calls.quiet_of_same (aI _ _ _ _)))
   obtain⟨y4,hy4⟩:∃x,x=w3.drewN nq:=⟨_,rfl⟩
   have BQ:Below w3.heap.size w3 y4:=(by rw[hy4];exact dT bR);have S5:=ah (S4.out.below BQ);have R5:=ah (R4.out.keep BQ);have X5:=ah (X4.out.below BQ);have L5:=ah (hL.keep S5.out.e);rw[<-hy4];clear hy4 BQ ka kf kp kq kx ky S4 R4 X4 L4 i2;have ka:=S5.out.b;have kf:=S5.out.c;have kp:=S5.out.b2;have kq:=S5.out.c2;unfold bK at ka;rw[Hu.out]at ka;have kx:=X5.out.b;have ky:=X5.out.c;have ho:=ones m R5.out.a1 R5.out.a2 R5.out.a3 R5.out.a4;rw[Hu.out]at ho;go_wp2_with ((with_reducible show wpList _ _ _ [⟨_,Op.store 27 _ _,_,_,_,_⟩] _ _);refine Stop.out ?_)
   refine⟨?_⟩
   (refine wpList_store_mid (by rfl) 27 _ _ (by rfl) (w.heap.size+2) 0 (bY m.nm true m.ck m.kn m.se (ai a1 m.ws p1) (ai a2 m.rs p2) (ai a3 m.qs p3) (ai a4 m.gs p4)) (by rfl) (by rfl) (by exact S5.out.d) hinfo (by exact all_oneCell_toArray (ho)) ?_)
   go_wp2_with fail
   have hrg:=World.rangeAt_setCells_same y4 (w.heap.size+2) 0 (dP m.nm true m.ck m.kn m.se (ai a1 m.ws p1) (ai a2 m.rs p2) (ai a3 m.qs p3) (ai a4 m.gs p4)) S5.out.d;obtain⟨d0,d1,d2,d3,d4,d5,d6,d7,d8⟩:=d9 hrg;exact bodyPost_ret (v:=.agg (bY m.nm true m.ck m.kn m.se (ai a1 m.ws p1) (ai a2 m.rs p2) (ai a3 m.qs p3) (ai a4 m.gs p4))) (by simp[results,results15,go_sem,d0,d1,d2,d3,d4,d5,d6,d7,d8]) rfl ⟨⟨m,_,_,_,_,by rw[Hu.out],Or.inl ⟨hv.out,by rw[fA HT.out k3,gu (fun h=>UR.out ((fY Z4.out.s3 (List.mem_of_getElem? Hk.out)).1 (by rw[He.out];exact h)).1)]⟩,(R5.out.ex ((Ex.refl _ _).cells _ _) zb).low (by omega)⟩,S5.out.put _⟩
  cases hin:cA p.t a.f a.t
  ·
   have Nr:=ah hin;go_wp2_with fail
   have i2:((k:Int)<0)=False:=by simp
   go_big_quiet ((go_at_call 28;refine Calls.quiet_of_same (aI _ _ _ _)))
   obtain⟨y4,hy4⟩:∃x,x=w3.drewN nq:=⟨_,rfl⟩
   have BQ:Below w3.heap.size w3 y4:=(by rw[hy4];exact dT bR);have S5:=ah (S4.out.below BQ);have R5:=ah (R4.out.keep BQ);have X5:=ah (X4.out.below BQ);have L5:=ah (hL.keep S5.out.e);rw[<-hy4];clear hy4 BQ ka kf kp kq kx ky S4 R4 X4 L4 i2;have ka:=S5.out.b;have kf:=S5.out.c;have kp:=S5.out.b2;have kq:=S5.out.c2;unfold bK at ka;rw[Hu.out]at ka;have kx:=X5.out.b;have ky:=X5.out.c;have ho:=ones m R5.out.a1 R5.out.a2 R5.out.a3 R5.out.a4;rw[Hu.out]at ho;go_wp2_with ((with_reducible show wpList _ _ _ [⟨_,Op.store 27 _ _,_,_,_,_⟩] _ _);refine Stop.out ?_)
   refine⟨?_⟩
   (refine wpList_store_mid (by rfl) 27 _ _ (by rfl) (w.heap.size+2) 0 (bY m.nm true m.ck m.kn m.se (ai a1 m.ws p1) (ai a2 m.rs p2) (ai a3 m.qs p3) (ai a4 m.gs p4)) (by rfl) (by rfl) (by exact S5.out.d) hinfo (by exact all_oneCell_toArray (ho)) ?_)
   go_wp2_with fail
   have hrg:=World.rangeAt_setCells_same y4 (w.heap.size+2) 0 (dP m.nm true m.ck m.kn m.se (ai a1 m.ws p1) (ai a2 m.rs p2) (ai a3 m.qs p3) (ai a4 m.gs p4)) S5.out.d;obtain⟨d0,d1,d2,d3,d4,d5,d6,d7,d8⟩:=d9 hrg;exact bodyPost_ret (v:=.agg (bY m.nm true m.ck m.kn m.se (ai a1 m.ws p1) (ai a2 m.rs p2) (ai a3 m.qs p3) (ai a4 m.gs p4))) (by simp[results,results15,go_sem,d0,d1,d2,d3,d4,d5,d6,d7,d8]) rfl ⟨⟨m,_,_,_,_,by rw[Hu.out],Or.inl ⟨hv.out,by rw[fA HT.out k3,gu (fun h=>by have:=((fY Z4.out.s3 (List.mem_of_getElem? Hk.out)).1 (by rw[He.out];exact h)).2;rw[Nr.out]at this;cases this)]⟩,(R5.out.ex ((Ex.refl _ _).cells _ _) zb).low (by omega)⟩,S5.out.put _⟩
  have HY:Hid (i5 m.qs p.h p.c p.t):=by rw[<-He.out];exact(fY Z4.out.s3 (List.mem_of_getElem? Hk.out)).2 ⟨by simpa using hcc,hin⟩
  have Sj:=ah (mA hv.out a (List.mem_of_getElem? Hk.out));have Nr:=ah hin;go_wp2_with fail
  have i2:((k:Int)<0)=False:=by simp
  go_big_quiet ((go_at_call 28;refine Calls.quiet_of_same (aI _ _ _ _)))
  obtain⟨y4,hy4⟩:∃x,x=w3.drewN nq:=⟨_,rfl⟩
  have BQ:Below w3.heap.size w3 y4:=by rw[hy4];exact dT bR
  have S5:=ah (S4.out.below BQ);have R5:=ah (R4.out.keep BQ);have X5:=ah (X4.out.below BQ);have L5:=ah (hL.keep S5.out.e);rw[<-hy4];clear hy4 BQ ka kf kp kq kx ky S4 R4 X4 L4 i2;have ka:=S5.out.b;have kf:=S5.out.c;have kp:=S5.out.b2;have kq:=S5.out.c2;unfold bK at ka;rw[Hu.out]at ka;have kx:=X5.out.b;have ky:=X5.out.c;have hpt:0<=p.t/\p.t<=1000000:=by have h1:=Nr.out;have h2:=Sj.out;simp only[cA,Bool.and_eq_true,decide_eq_true_eq]at h1;omega
  obtain⟨hp0,hp1⟩:=hpt;clear c0 c1 c2 c3 i0 i1 EY Si hcc hin Nr Sj;go_wp2_with fail
  have R6:Hid (dI y4 (⟨m.nm,true,m.ck,m.kn,m.se,m.ws,gN p.h p.c p.t 0 m.rs,m.qs,m.gs⟩:aj) (ai a1 m.ws p1) (ai a2 m.rs p2) (ai a3 m.qs p3) (ai a4 m.gs p4) w1.heap.size):=by have:=R5.out;rw[vE];obtain⟨q1,q2,q3,q4,q5,q6,q7,q8,q9,US⟩:=this;exact⟨q1,q2,q3,q4,q5,q6,q7,q8,q9,US⟩
  clear ka kf kp kq kx ky
  go_loopw [7] (fun i wx=>∃(k:Nat),k<=m.rs.length/\i=.int .i64 k/\Sp w (bY m.nm m.up m.ck m.kn m.se (ai x1 m.ws n1) (ai x2 m.rs n2) (.slice (some ⟨b3,0,none⟩) m.qs.length n3) (ai x4 m.gs n4)) (cw p.k p.b p.s (ai x5 p.ws n5) p.h p.c p.t) wx/\Bx wx w2.heap.size (bY m.nm true m.ck m.kn m.se (ai a1 m.ws p1) (ai a2 m.rs p2) (ai a3 m.qs p3) (ai a4 m.gs p4))/\dI wx (⟨m.nm,true,m.ck,m.kn,m.se,m.ws,gN p.h p.c p.t k m.rs,m.qs,m.gs⟩:aj) (ai a1 m.ws p1) (ai a2 m.rs p2) (ai a3 m.qs p3) (ai a4 m.gs p4) w1.heap.size) (fun i _=>m.rs.length-(intOf i).toNat)
  case atStart=>exact⟨0,Nat.zero_le _,rfl,S5.out,X5.out,R6.out⟩
  obtain⟨k,hk,rfl,hS,hX,hR⟩:=hrel;have Sk:=ah hS;have Xk:=ah hX;have Rk:=ah hR;clear hS hX hR;have kp:=Sk.out.b2;have kq:=Sk.out.c2;have kx:=Xk.out.b;have ky:=Xk.out.c;have kz:=Xk.out.l;have WT:=Sk.out.f;have WU:w.heap.size+1<wr.heap.size:=by omega
  rw[k3]at kp;by_cases hlt:k<m.rs.length
  ·
   obtain⟨r,hr⟩:∃r,m.rs[k]?=some r:=⟨m.rs[k],List.getElem?_eq_getElem hlt⟩
   have Hr:=ah hr;obtain⟨g,hg,hgz,hc,hfz⟩:=Ad Rk.out.a2 (oy hr);subst hg;obtain⟨c0,c1,c2,c3,c4,c5,c6,c7,c8,c9,c10⟩:=hc;have f10:=hfz 10 (by omega);have UT:=hf.k2;clear hr hfz;have J6:g<w2.heap.size:=R2.out.lt g (Or.inr (Or.inl rfl));have UU:=ah J6;cases hh:(r.h.toList==p.h.toList)
   ·
    go_wp2_with fail
    refine⟨⟨k+1,by omega,by go_num,Sk.out.below (by repeat (first|exact bR|with_reducible refine au ?_|refine ae ?_ _)),Xk.out.below (by repeat (first|exact bR|with_reducible refine au ?_|refine ae ?_ _)),?_⟩,by simp[intOf];omega⟩;rw[kO Hr.out (by unfold bump;rw[if_neg (fun h=>by rw[h.1]at hh;simp at hh)])];exact Rk.out.keep (by repeat (first|exact bR|with_reducible refine au ?_|refine ae ?_ _))
   cases hcp:(r.c.toList==p.c.toList)
   ·
    go_wp2_with fail
    refine⟨⟨k+1,by omega,by go_num,Sk.out.below (by repeat (first|exact bR|with_reducible refine au ?_|refine ae ?_ _)),Xk.out.below (by repeat (first|exact bR|with_reducible refine au ?_|refine ae ?_ _)),?_⟩,by simp[intOf];omega⟩;rw[kO Hr.out (by unfold bump;rw[if_neg (fun h=>by rw[h.2.1]at hcp;simp at hcp)])];exact Rk.out.keep (by repeat (first|exact bR|with_reducible refine au ?_|refine ae ?_ _))
   by_cases hu:r.u<p.t+16;rotate_left
   ·
    have UW:=ah hu;go_wp2_with fail
    refine⟨⟨k+1,by omega,by go_num,Sk.out.below (by repeat (first|exact bR|with_reducible refine au ?_|refine ae ?_ _)),Xk.out.below (by repeat (first|exact bR|with_reducible refine au ?_|refine ae ?_ _)),?_⟩,by simp[intOf];omega⟩;rw[kO Hr.out (by unfold bump;rw[if_neg (fun h=>UW.out h.2.2)])];exact Rk.out.keep (by repeat (first|exact bR|with_reducible refine au ?_|refine ae ?_ _))
   have hgb:w1.heap.size<=g:=R2.out.ge g (Or.inr (Or.inl rfl));have UX:=ah hgb;clear hgb J6;go_wp2_with fail
   refine⟨⟨k+1,by omega,by go_num,(Sk.out.ex ((Ex.refl g _).set _ _) (by have:=UX.out;omega)).below (by repeat (first|exact bR|with_reducible refine au ?_|refine ae ?_ _)),(Xk.out.ex ((Ex.refl g _).set _ _) (Nat.ne_of_gt UU.out)).below (by repeat (first|exact bR|with_reducible refine au ?_|refine ae ?_ _)),?_⟩,by simp[intOf];omega⟩;rw[oz Hr.out,A5 (by simpa using hh) (by simpa using hcp) hu];exact(Rk.out.Dd (A6 Rk.out.a2 (oy Hr.out)) (av ((Ex.refl g _).set _ _))).keep (by repeat (first|exact bR|with_reducible refine au ?_|refine ae ?_ _))
  have hk':k=m.rs.length:=by omega
  subst hk';have R8:Hid (dI wr (⟨m.nm,true,m.ck,m.kn,m.se,m.ws,m.rs.map (bump p.h p.c p.t),m.qs,m.gs⟩:aj) (ai a1 m.ws p1) (ai a2 m.rs p2) (ai a3 m.qs p3) (ai a4 m.gs p4) w1.heap.size):=by have:=Rk.out;rw[yd]at this;exact this
  have ho:=ones m R5.out.a1 R5.out.a2 R5.out.a3 R5.out.a4;rw[Hu.out]at ho;go_wp2_with ((with_reducible show wpList _ _ _ [⟨_,Op.store 27 _ _,_,_,_,_⟩] _ _);refine Stop.out ?_)
  refine⟨?_⟩
  (refine wpList_store_mid (by rfl) 27 _ _ (by rfl) (w.heap.size+2) 0 (bY m.nm true m.ck m.kn m.se (ai a1 m.ws p1) (ai a2 m.rs p2) (ai a3 m.qs p3) (ai a4 m.gs p4)) (by rfl) (by rfl) (by exact Sk.out.d) hinfo (by exact all_oneCell_toArray (ho)) ?_)
  go_wp2_with fail
  have hrg:=World.rangeAt_setCells_same wr (w.heap.size+2) 0 (dP m.nm true m.ck m.kn m.se (ai a1 m.ws p1) (ai a2 m.rs p2) (ai a3 m.qs p3) (ai a4 m.gs p4)) Sk.out.d;obtain⟨d0,d1,d2,d3,d4,d5,d6,d7,d8⟩:=d9 hrg;exact bodyPost_ret (v:=.agg (bY m.nm true m.ck m.kn m.se (ai a1 m.ws p1) (ai a2 m.rs p2) (ai a3 m.qs p3) (ai a4 m.gs p4))) (by simp[results,results15,go_sem,d0,d1,d2,d3,d4,d5,d6,d7,d8]) rfl ⟨⟨(⟨m.nm,true,m.ck,m.kn,m.se,m.ws,m.rs.map (bump p.h p.c p.t),m.qs,m.gs⟩:aj),_,_,_,_,rfl,Or.inl ⟨hv.out,by rw[fA HT.out k3,Hu.out,fX HY.out]⟩,(R8.out.ex ((Ex.refl _ _).cells _ _) zb).low (by omega)⟩,Sk.out.put _⟩
 by_cases k5:p.k=5
 ·
  rw[k5]at kp;go_wp2_with fail
  have F:=A.cG x4 n4 m.gs p.h (w2.alloc (.cells (bY m.nm true m.ck m.kn m.se (ai a1 m.ws p1) (ai a2 m.rs p2) (ai a3 m.qs p3) (ai a4 m.gs p4)) 27)) (hL.keep S3.out.e).lists.r4 hf.k4;refine F.mono ?_;clear F;rintro e w3 ⟨rfl,hw3⟩;have S4:Hid (Sp w (bK m x1 x2 x3 x4 n1 n2 n3 n4) (cw p.k p.b p.s (ai x5 p.ws n5) p.h p.c p.t) w3):=by rw[hw3];exact S3.out
  have R4:Hid (dI w3 m (ai a1 m.ws p1) (ai a2 m.rs p2) (ai a3 m.qs p3) (ai a4 m.gs p4) w1.heap.size):=by rw[hw3];exact R3.out
  have X4:Hid (Bx w3 w2.heap.size (bY m.nm true m.ck m.kn m.se (ai a1 m.ws p1) (ai a2 m.rs p2) (ai a3 m.qs p3) (ai a4 m.gs p4))):=by rw[hw3];exact jg _ _ _
  have L4:=ah (hL.keep S4.out.e);have Z4:=ah (dO hv.out);clear hw3 S3 R3 ka kf kp kq;have ka:=S4.out.b;have kf:=S4.out.c;have kp:=S4.out.b2;have kq:=S4.out.c2;unfold bK at ka;rw[Hu.out]at ka;have kx:=X4.out.b;have ky:=X4.out.c;rw[k5]at kp;rcases A.ask_cases m.gs p.h with⟨ha,hn⟩|⟨k,a,ha,hk,he⟩
  ·
   have Hn:=ah hn;clear hn;rw[ha];go_wp2_with fail
   go_quiet (fail)
   obtain⟨y4,hy4⟩:∃x,x=w3.drewN nq:=⟨_,rfl⟩
   have BQ:Below w3.heap.size w3 y4:=(by rw[hy4];exact dT bR);have S5:=ah (S4.out.below BQ);have R5:=ah (R4.out.keep BQ);have X5:=ah (X4.out.below BQ);have L5:=ah (hL.keep S5.out.e);rw[<-hy4];clear hy4 BQ ka kf kp kq kx ky S4 R4 X4 L4;have ka:=S5.out.b;have kf:=S5.out.c;have kp:=S5.out.b2;have kq:=S5.out.c2;unfold bK at ka;rw[Hu.out]at ka;have kx:=X5.out.b;have ky:=X5.out.c;have ho:=ones m R5.out.a1 R5.out.a2 R5.out.a3 R5.out.a4;rw[Hu.out]at ho;go_wp2_with (refine wpList_store_mid (by rfl) 27 _ _ (by rfl) (w.heap.size+2) 0 (bY m.nm true m.ck m.kn m.se (ai a1 m.ws p1) (ai a2 m.rs p2) (ai a3 m.qs p3) (ai a4 m.gs p4)) (by rfl) (by rfl) (by exact S5.out.d) hinfo (by exact all_oneCell_toArray (ho)) ?_)
   have hrg:=World.rangeAt_setCells_same y4 (w.heap.size+2) 0 (dP m.nm true m.ck m.kn m.se (ai a1 m.ws p1) (ai a2 m.rs p2) (ai a3 m.qs p3) (ai a4 m.gs p4)) S5.out.d;obtain⟨d0,d1,d2,d3,d4,d5,d6,d7,d8⟩:=d9 hrg;exact bodyPost_ret (v:=.agg (bY m.nm true m.ck m.kn m.se (ai a1 m.ws p1) (ai a2 m.rs p2) (ai a3 m.qs p3) (ai a4 m.gs p4))) (by simp[results,results15,go_sem,d0,d1,d2,d3,d4,d5,d6,d7,d8]) rfl ⟨⟨m,_,_,_,_,by rw[Hu.out],Or.inl ⟨hv.out,by rw[iO HT.out k5,kT (fun⟨a,h1,h2,h3⟩=>Hn.out a h1 h2)]⟩,(R5.out.ex ((Ex.refl _ _).cells _ _) zb).low (by omega)⟩,S5.out.put _⟩
  rw[ha];have Hk:=ah hk;have He:=ah he;have EY:k<m.gs.length:=(List.getElem?_eq_some_iff.1 hk).1;have Si:=hf.k4;obtain⟨b4,hx4,hb4,Ns⟩:=L4.out.lists.r4.resolve_left (fun h=>by rw[h]at EY;simp at EY);subst hx4;obtain⟨c0,c1,c2,c3⟩:=Ns.at hk;simp only[Nat.zero_add]at c0 c1 c2 c3;have i0:(0:Int)<=(k:Int):=by omega
  have i1:(k:Int)<(m.gs.length:Int):=by omega
  clear hk he ha;by_cases hat:a.t=p.t;rotate_left
  ·
   have hat':(a.t==p.t)=false:=(by simpa using hat);have JD:=ah hat;clear hat;go_wp2_with fail
   go_quiet (fail)
   obtain⟨y4,hy4⟩:∃x,x=w3.drewN nq:=⟨_,rfl⟩
   have BQ:Below w3.heap.size w3 y4:=(by rw[hy4];exact dT bR);have S5:=ah (S4.out.below BQ);have R5:=ah (R4.out.keep BQ);have X5:=ah (X4.out.below BQ);have L5:=ah (hL.keep S5.out.e);rw[<-hy4];clear hy4 BQ ka kf kp kq kx ky S4 R4 X4 L4;have ka:=S5.out.b;have kf:=S5.out.c;have kp:=S5.out.b2;have kq:=S5.out.c2;unfold bK at ka;rw[Hu.out]at ka;have kx:=X5.out.b;have ky:=X5.out.c;have ho:=ones m R5.out.a1 R5.out.a2 R5.out.a3 R5.out.a4;rw[Hu.out]at ho;go_wp2_with (refine wpList_store_mid (by rfl) 27 _ _ (by rfl) (w.heap.size+2) 0 (bY m.nm true m.ck m.kn m.se (ai a1 m.ws p1) (ai a2 m.rs p2) (ai a3 m.qs p3) (ai a4 m.gs p4)) (by rfl) (by rfl) (by exact S5.out.d) hinfo (by exact all_oneCell_toArray (ho)) ?_)
   have hrg:=World.rangeAt_setCells_same y4 (w.heap.size+2) 0 (dP m.nm true m.ck m.kn m.se (ai a1 m.ws p1) (ai a2 m.rs p2) (ai a3 m.qs p3) (ai a4 m.gs p4)) S5.out.d;obtain⟨d0,d1,d2,d3,d4,d5,d6,d7,d8⟩:=d9 hrg;exact bodyPost_ret (v:=.agg (bY m.nm true m.ck m.kn m.se (ai a1 m.ws p1) (ai a2 m.rs p2) (ai a3 m.qs p3) (ai a4 m.gs p4))) (by simp[results,results15,go_sem,d0,d1,d2,d3,d4,d5,d6,d7,d8]) rfl ⟨⟨m,_,_,_,_,by rw[Hu.out],Or.inl ⟨hv.out,by rw[iO HT.out k5,kT (fun h=>JD.out ((kU Z4.out.s4 (List.mem_of_getElem? Hk.out)).1 (by rw[He.out];exact h)))]⟩,(R5.out.ex ((Ex.refl _ _).cells _ _) zb).low (by omega)⟩,S5.out.put _⟩
  go_wp2_with fail
  go_quiet (fail)
  obtain⟨y4,hy4⟩:∃x,x=w3.drewN nq:=⟨_,rfl⟩
  have BQ:Below w3.heap.size w3 y4:=by rw[hy4];exact dT bR
  have S5:=ah (S4.out.below BQ);have R5:=ah (R4.out.keep BQ);have X5:=ah (X4.out.below BQ);have L5:=ah (hL.keep S5.out.e);rw[<-hy4];clear hy4 BQ ka kf kp kq kx ky S4 R4 X4 L4;have ka:=S5.out.b;have kf:=S5.out.c;have kp:=S5.out.b2;have kq:=S5.out.c2;unfold bK at ka;rw[Hu.out]at ka;have kx:=X5.out.b;have ky:=X5.out.c;have JD:=ah hat;clear hat c0 c1 c2 c3 i0 i1;go_wp2_with fail
  obtain⟨g9,lU,vT,Cm⟩:=L5.out.lists.r4.resolve_left (fun h=>by rw[h]at EY;simp at EY);cases lU;refine(A.zQ b4 0 _ m.gs p.h _ Cm vT hf.k4).mono ?_;rintro e w6 ⟨⟨v6,rfl,r6⟩,c6⟩;obtain⟨l6,mP⟩:∃l,l=A.db p.h m.gs:=⟨_,rfl⟩
  have UY:=ah mP;rw[<-mP]at r6;have S6:=ah (S5.out.below c6);have X6:=ah (X5.out.below c6);have R6:=ah (R5.out.keep c6);obtain⟨a6,p6,hs6⟩:=A.Sl.shape r6;subst hs6;have Q6:=ah r6;have zx:=X5.out.l;have zy:w1.heap.size<=y4.heap.size:=Nat.le_trans Ic.out (Nat.le_of_lt zx);clear mP r6 c6 ka kf kp kq kx ky;have ka:=S6.out.b;have kf:=S6.out.c;have kp:=S6.out.b2;have kq:=S6.out.c2;unfold bK at ka;rw[Hu.out]at ka;have kx:=X6.out.b;have ky:=X6.out.c;have S7:Hid (Sp w (bY m.nm m.up m.ck m.kn m.se (ai x1 m.ws n1) (ai x2 m.rs n2) (ai x3 m.qs n3) (.slice (some ⟨b4,0,none⟩) m.gs.length n4)) (cw p.k p.b p.s (ai x5 p.ws n5) p.h p.c p.t) (w6.setCell ⟨w2.heap.size,8,none⟩ (ai a6 l6 p6))):=S6.out.ex ((Ex.refl _ _).set 8 _) zw;have R7:Hid (dI (w6.setCell ⟨w2.heap.size,8,none⟩ (ai a6 l6 p6)) (⟨m.nm,true,m.ck,m.kn,m.se,m.ws,m.rs,m.qs,l6⟩:aj) (ai a1 m.ws p1) (ai a2 m.rs p2) (ai a3 m.qs p3) (ai a6 l6 p6) w1.heap.size):=A8 R6.out Q6.out R2.out.lt zx zy ((Ex.refl _ _).set 8 _);have ho:=ones (⟨m.nm,true,m.ck,m.kn,m.se,m.ws,m.rs,m.qs,l6⟩:aj) R7.out.a1 R7.out.a2 R7.out.a3 R7.out.a4;go_wp2_with (refine wpList_store_mid (by rfl) 27 _ _ (by rfl) (w.heap.size+2) 0 (bY m.nm true m.ck m.kn m.se (ai a1 m.ws p1) (ai a2 m.rs p2) (ai a3 m.qs p3) (ai a6 l6 p6)) (by rfl) (by rfl) (by exact S7.out.d) hinfo (by exact all_oneCell_toArray (ho)) ?_)
  have hrg:=World.rangeAt_setCells_same (w6.setCell ⟨w2.heap.size,8,none⟩ (ai a6 l6 p6)) (w.heap.size+2) 0 (dP m.nm true m.ck m.kn m.se (ai a1 m.ws p1) (ai a2 m.rs p2) (ai a3 m.qs p3) (ai a6 l6 p6)) S7.out.d;obtain⟨d0,d1,d2,d3,d4,d5,d6,d7,d8⟩:=d9 hrg;exact bodyPost_ret (v:=.agg (bY m.nm true m.ck m.kn m.se (ai a1 m.ws p1) (ai a2 m.rs p2) (ai a3 m.qs p3) (ai a6 l6 p6))) (by simp[results,results15,go_sem,d0,d1,d2,d3,d4,d5,d6,d7,d8]) rfl ⟨⟨(⟨m.nm,true,m.ck,m.kn,m.se,m.ws,m.rs,m.qs,l6⟩:aj),_,_,_,_,rfl,Or.inl ⟨hv.out,by rw[iO HT.out k5,Hu.out,pA ((kU Z4.out.s4 (List.mem_of_getElem? Hk.out)).2 JD.out |> fun h=>by rw[He.out]at h;exact h),<-A.pI,<-UY.out]⟩,(R7.out.ex ((Ex.refl _ _).cells _ _) zb).low (by omega)⟩,S7.out.put _⟩
 have ho:=ones m R3.out.a1 R3.out.a2 R3.out.a3 R3.out.a4;rw[Hu.out]at ho;go_wp2_with (refine wpList_store_mid (by rfl) 27 _ _ (by rfl) (w.heap.size+2) 0 (bY m.nm true m.ck m.kn m.se (ai a1 m.ws p1) (ai a2 m.rs p2) (ai a3 m.qs p3) (ai a4 m.gs p4)) (by rfl) (by rfl) (by exact S3.out.d) hinfo (by exact all_oneCell_toArray (ho)) ?_)
 have hrg:=World.rangeAt_setCells_same (w2.alloc (.cells (bY m.nm true m.ck m.kn m.se (ai a1 m.ws p1) (ai a2 m.rs p2) (ai a3 m.qs p3) (ai a4 m.gs p4)) 27)) (w.heap.size+2) 0 (dP m.nm true m.ck m.kn m.se (ai a1 m.ws p1) (ai a2 m.rs p2) (ai a3 m.qs p3) (ai a4 m.gs p4)) S3.out.d;obtain⟨d0,d1,d2,d3,d4,d5,d6,d7,d8⟩:=d9 hrg;exact bodyPost_ret (v:=.agg (bY m.nm true m.ck m.kn m.se (ai a1 m.ws p1) (ai a2 m.rs p2) (ai a3 m.qs p3) (ai a4 m.gs p4))) (by simp[results,results15,go_sem,d0,d1,d2,d3,d4,d5,d6,d7,d8]) rfl ⟨⟨m,_,_,_,_,by rw[Hu.out],Or.inl ⟨hv.out,(kN k1 k3 k5).symm⟩,(R3.out.ex ((Ex.refl _ _).cells _ _) zb).low (by omega)⟩,S3.out.put _⟩
end Go.Proofs.YtlfnpjcjapljpaaGreatDoor
