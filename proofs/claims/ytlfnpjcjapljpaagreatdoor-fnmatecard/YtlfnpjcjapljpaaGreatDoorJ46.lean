import Derived.Test.YtlfnpjcjapljpaaGreatDoorJ40
import Derived.Test.YtlfnpjcjapljpaaGreatDoorJ45
import Derived.Test.YtlfnpjcjapljpaaGreatDoorJ44
namespace Go.Proofs.YtlfnpjcjapljpaaGreatDoor
open Go.Proofs.Tryz Go.RowKit
set_option maxRecDepth 4000
set_option maxHeartbeats 8000000
set_option linter.unusedVariables false
theorem CY{s:ByteArray}(h:0<s.size):s.toList.isEmpty=false:=by
 cases hl:s.toList.isEmpty;·rfl
 rw[ByteArray.toList_eq,List.isEmpty_iff]at hl;have h2:s.data.toList.length=s.data.size:=Array.length_toList;rw[hl]at h2;have h3:s.size=s.data.size:=rfl;simp only[List.length_nil]at h2;omega
theorem xy(a:Option Addr)(n cap:Nat)(zs:List Int)(w:World)(hc:ie w a n zs)(hcap:n<=cap)(ht:Tab w):
  Calls prog 3 #[.slice a n cap] w fun e w'=>e=.returned (.bool true)/\Below w.heap.size w w':=by
 by_cases hn:1048576<n
 ·
  have hni:(1048576:Int)<(n:Int):=by omega
  clear hc;go_enter func3,ntmps3
  go_wp2_with fail
  go_ret
  exact⟨rfl,Below.refl _ _⟩
 have hni:¬((1048576:Int)<(n:Int)):=by omega
 have BF:Hid (∀y,Below w.heap.size w y->ie y a n zs/\Tab y):=fun y hy=>⟨hc.I0 hy,ht.keep hy⟩
 clear hc ht;go_enter func3,ntmps3
 go_wp2_with fail
 refine(zR a n cap zs w (BF.out w bR).1 (by omega) hcap).mono ?_;rintro e w1 ⟨m,x1,x2,x3,x4,n1,n2,n3,n4,rate,rfl,hM,hF,hb1⟩;have HF:=ah hF;obtain⟨W1,hW1⟩:∃W,W=w1.alloc (.cells (bK m x1 x2 x3 x4 n1 n2 n3 n4) 27):=⟨_,rfl⟩
 obtain⟨b1,hbb⟩:∃b,b=w1.heap.size:=⟨_,rfl⟩
 have B1:Below w1.heap.size w1 W1:=by rw[hW1];exact ae bR _
 have N1:Bx W1 b1 (bK m x1 x2 x3 x4 n1 n2 n3 n4):=by rw[hW1,hbb];exact jg _ _ _
 have S1:Hid (∀y,Below W1.heap.size W1 y->gx y m x1 x2 x3 x4 n1 n2 n3 n4/\Bx y b1 (bK m x1 x2 x3 x4 n1 n2 n3 n4)/\Below w.heap.size w y):=fun y hy=>⟨(hM.keep B1).keep hy,N1.below hy,af (af hb1 B1) hy⟩
 have HW1:Hid (W1=_/\b1=w1.heap.size):=⟨hW1,hbb⟩
 clear hM hF B1 N1 hb1 hW1 hbb;go_wp2_with fail
 rw[<-HW1.out.1,<-HW1.out.2];refine(xA m rate x1 x2 x3 x4 n1 n2 n3 n4 W1 (S1.out W1 bR).1 HF.out.1 HF.out.2.1).mono ?_;rintro e w2 ⟨⟨r,s1,s2,s3,s4,vo,out,rfl,hT,hO,hcp,hP⟩,hb2⟩;obtain⟨a1,p1,a2,p2,a3,p3,a4,p4,rfl,rfl,rfl,rfl⟩:=hO.shapes;obtain⟨ao,co,rfl⟩:=Pc.Sl.shape hP;have HT:=ah hT;have HK:=ah (Ac hT HF.out.2.1);have Gz:=ah hcp;obtain⟨W2,hW2⟩:∃W,W=w2.alloc (.cells (bK r a1 a2 a3 a4 p1 p2 p3 p4) 27):=⟨_,rfl⟩
 obtain⟨b2,hbb⟩:∃b,b=w2.heap.size:=⟨_,rfl⟩
 have B2:Below w2.heap.size w2 W2:=by rw[hW2];exact ae bR _
 have N2:Bx W2 b2 (bK r a1 a2 a3 a4 p1 p2 p3 p4):=by rw[hW2,hbb];exact jg _ _ _
 have S2:Hid (∀y,Below W2.heap.size W2 y->_/\dI y r (ai a1 r.ws p1) (ai a2 r.rs p2) (ai a3 r.qs p3) (ai a4 r.gs p4) W1.heap.size/\Pc.Sl y (ai ao out co) out W1.heap.size/\Bx y b2 (bK r a1 a2 a3 a4 p1 p2 p3 p4)):=fun y hy=>⟨S1.out y (af (af hb2 B2) hy),(hO.keep B2).keep hy,(hP.keep B2).keep hy,N2.below hy⟩
 have HW2:Hid (W2=_/\b2=w2.heap.size):=⟨hW2,hbb⟩
 have hB:=S1.out w2 hb2;have ka:=hB.2.1.b;have la:=hB.2.1.l;clear hT hO hcp hP B2 N2 hW2 hbb HW1 hB hb2;go_wp2_with fail
 rw[<-HW2.out.1,<-HW2.out.2];clear ka la;refine(xB m rate x1 x2 x3 x4 n1 n2 n3 n4 W2 (S2.out W2 bR).1.1 HF.out.1 HF.out.2.1).mono ?_;rintro e w3 ⟨⟨r',s1,s2,s3,s4,vo,out',rfl,hT,hO,-,hP⟩,hb3⟩;obtain⟨er,eo⟩:=HT.out.one hT;subst er eo;obtain⟨c1,q1,c2,q2,c3,q3,c4,q4,rfl,rfl,rfl,rfl⟩:=hO.shapes;obtain⟨bo,Rn,rfl⟩:=Pc.Sl.shape hP;obtain⟨W3,hW3⟩:∃W,W=w3.alloc (.cells (bK r c1 c2 c3 c4 q1 q2 q3 q4) 27):=⟨_,rfl⟩
 obtain⟨b3,hbb⟩:∃b,b=w3.heap.size:=⟨_,rfl⟩
 have B3:Below w3.heap.size w3 W3:=by rw[hW3];exact ae bR _
 have S3:Hid (∀y,Below W3.heap.size W3 y->_/\dI y r (ai c1 r.ws q1) (ai c2 r.rs q2) (ai c3 r.qs q3) (ai c4 r.gs q4) W2.heap.size/\Pc.Sl y (ai bo out Rn) out W2.heap.size):=fun y hy=>⟨S2.out y (af (af hb3 B3) hy),(hO.keep B3).keep hy,(hP.keep B3).keep hy⟩
 have HW3:Hid (W3=_/\b3=w3.heap.size):=⟨hW3,hbb⟩
 have hB:=S2.out w3 hb3;have kb:=hB.2.2.2.b;have lb:=hB.2.2.2.l;clear hT hO hP B3 hW3 hbb HW2 hB hb3 HT;go_wp2_with fail
 rw[<-HW3.out.1,<-HW3.out.2];clear kb lb;refine(nJ r a1 a2 a3 a4 c1 c2 c3 c4 p1 p2 p3 p4 q1 q2 q3 q4 W1.heap.size W2.heap.size W3 (S3.out W3 bR).1.2.1 (S3.out W3 bR).2.1 HK.out.l).mono ?_;rintro e w4 ⟨rfl,hb4⟩;clear HW3;go_wp2_with fail
 refine(oT out ao bo co Rn W1.heap.size W2.heap.size w4 (S3.out w4 hb4).1.2.2.1 (S3.out w4 hb4).2.2 HK.out.b (by have:=HK.out.n;omega)).mono ?_;rintro e w5 ⟨rfl,hb5⟩;have S5:Hid (∀y,Below w5.heap.size w5 y->_):=fun y hy=>(S3.out y (af (af hb4 hb5) hy)).1;clear S3 hb4 hb5;have ka:=(S5.out w5 bR).1.2.1.b;have la:=(S5.out w5 bR).1.2.1.l;go_wp2_with fail
 refine(fu m x1 x2 x3 x4 n1 n2 n3 n4 w5 (S5.out w5 bR).1.1.lists HF.out.1).mono ?_;rintro e w6 ⟨⟨v,rfl,hv⟩,hb6⟩;have S6:Hid (∀y,Below w6.heap.size w6 y->_):=fun y hy=>S5.out y (af hb6 hy);have HV:=ah hv;clear ka la hv hb6 S5;have ka:=(S6.out w6 bR).1.2.1.b;have la:=(S6.out w6 bR).1.2.1.l;have kb:=(S6.out w6 bR).2.2.2.b;have lb:=(S6.out w6 bR).2.2.2.l;cases v
 ·
  have hno:¬Valid m:=dA HV.out;obtain⟨er,eo⟩:=HK.out.no hno;have hd0:out.length=0:=by rw[eo];rfl
  have hnm:r.nm={data:=#[]}:=by rw[er];rfl
  unfold bK at kb;rw[hnm]at kb;clear er eo hnm;go_wp2_with fail
  refine(gF m x1 x2 x3 x4 n1 n2 n3 n4 w6 (S6.out w6 bR).1.1.lists (S6.out w6 bR).1.1.cap HF.out.1).mono ?_;rintro e w7 ⟨⟨v,rfl,hv⟩,MZ⟩;obtain rfl:v=false:=by
   cases v;·rfl
   exact absurd (hv.1 rfl) hno
  have hbe:=af (S6.out w6 bR).1.2.2 MZ;go_wp2_with fail
  go_ret
  exact⟨rfl,hbe⟩
 have OO:=ah (HV.out.1 rfl);obtain⟨Ro,hfr,hSo,hck⟩:=HK.out.v OO.out;have EK:Hid (Valid r/\r.fits):=⟨Ro,hfr⟩
 have Rp:=ah hSo;have xC:¬r.ck<m.ck:=by omega
 have hon:=HK.out.n;clear HV Ro hfr hSo hck HK;go_wp2_with fail
 refine(gF r a1 a2 a3 a4 p1 p2 p3 p4 w6 ((S6.out w6 bR).2.1.GA Gz.out).lists (Gz.out _ _ _ rfl) EK.out.2).mono ?_;rintro e w7 ⟨⟨v,rfl,hv⟩,MZ⟩;obtain rfl:v=true:=by
  cases v;·exact absurd EK.out.1 (dA hv)
  rfl
 have S7:Hid (∀y,Below w7.heap.size w7 y->_):=fun y hy=>S6.out y (af MZ hy);clear ka la kb lb hv MZ S6;have kb:=(S7.out w7 bR).2.2.2.b;have lb:=(S7.out w7 bR).2.2.2.l;go_wp2_with fail
 refine(fu r a1 a2 a3 a4 p1 p2 p3 p4 w7 ((S7.out w7 bR).2.1.GA Gz.out).lists EK.out.2).mono ?_;rintro e w8 ⟨⟨v,rfl,hv⟩,BD⟩;obtain rfl:v=true:=by
  cases v;·exact absurd EK.out.1 (dA hv)
  rfl
 have S8:Hid (∀y,Below w8.heap.size w8 y->_):=fun y hy=>S7.out y (af BD hy);clear kb lb hv BD S7;have ka:=(S8.out w8 bR).1.2.1.b;have la:=(S8.out w8 bR).1.2.1.l;have kb:=(S8.out w8 bR).2.2.2.b;have lb:=(S8.out w8 bR).2.2.2.l;go_wp2_with fail
 clear ka la kb lb xC
 go_loopw [9] (fun i wx=>∃(k:Nat),k<=r.rs.length/\i=.int .i64 (k:Int)/\Hid (Below w8.heap.size w8 wx)) (fun i _=>r.rs.length-(intOf i).toNat)
 case atStart=>exact⟨0,by omega,rfl,Below.refl _ _⟩
 case round=>
  obtain⟨k,hk,rfl,HY⟩:=hrel;have hS:=S8.out wr HY.out;have kb:=hS.2.2.2.b;have lb:=hS.2.2.2.l;have hrl:=EK.out.2.k2;by_cases hlt:k<r.rs.length
  ·
   obtain⟨q,hq⟩:∃q,r.rs[k]?=some q:=⟨_,List.getElem?_eq_getElem hlt⟩
   obtain⟨g,hg,hgz,hcs,-⟩:=Ad hS.2.1.a2 hq;subst hg;obtain⟨j0,j1,j2,j3,j4,j5,j6,j7,j8,j9,j10⟩:=hcs;have hkk:(k:Int)<(r.rs.length:Int):=(by omega);have Ue:=ah (qT EK.out.1 q (List.mem_of_getElem? hq));clear hq hS;obtain⟨W9,M1⟩:∃W,W=wr.alloc (.cells (aL q.c q.v q.h q.p q.s q.d q.g q.a q.b q.i q.u) 39):=⟨_,rfl⟩
   obtain⟨b9,vT⟩:∃b,b=wr.heap.size:=⟨_,rfl⟩
   have B9:Below wr.heap.size wr W9:=(by rw[M1];exact ae bR _);have N9:Hid (Bx W9 b9 (aL q.c q.v q.h q.p q.s q.d q.g q.a q.b q.i q.u)):=(by rw[M1,vT];exact jg _ _ _);have OP:=ah (af HY.out B9);have OQ:Hid (W9=_/\b9=wr.heap.size):=⟨M1,vT⟩
   clear M1 vT B9;go_wp2_with fail
   rw[<-OQ.out.1,<-OQ.out.2];refine(jX q.c q.h q.v q.p q.s q.d q.g q.a q.b q.i q.u W9).mono ?_;rintro e Uf ⟨rfl,CZ⟩;have hS:=S8.out Uf (af OP.out CZ);have hN:=N9.out.below CZ;have OT:=ah (af OP.out CZ);clear kb lb j0 j1 j2 j3 j4 j5 j6 j7 j8 j9 j10 CZ OQ OP N9;have kb:=hS.2.2.2.b;have lb:=hS.2.2.2.l;have kn:=hN.b;have ln:=hN.l;clear hS hN;cases hal:bq q.a
   ·
    go_wp2_with fail
    exact⟨⟨k+1,by omega,by go_num,OT.out⟩,by simp[intOf];omega⟩
   cases OU:q.h.toList.isEmpty
   ·
    have hlq:=Ue.out hal OU;have hpv:=EK.out.1.1;simp only[cV,cA,Bool.and_eq_true,decide_eq_true_eq]at hpv;obtain⟨-,⟨hc0,hc1⟩,-⟩:=hpv;have Ug:¬q.u<r.ck+4:=(by omega);go_wp2_with fail
    exact⟨⟨k+1,by omega,by go_num,OT.out⟩,by simp[intOf];omega⟩
   go_wp2_with fail
   exact⟨⟨k+1,by omega,by go_num,OT.out⟩,by simp[intOf];omega⟩
  have JN:k=r.rs.length:=by omega
  subst JN;have S9:Hid (∀y,Below wr.heap.size wr y->_):=fun y hy=>S8.out y (af HY.out hy);clear hlt hS S8 HY;go_wp2_with fail
  clear kb lb
  go_loopw [11] (fun i wx=>∃(k:Nat),k<=out.length/\i=.int .i64 (k:Int)/\Hid (Below wr.heap.size wr wx)) (fun i _=>out.length-(intOf i).toNat)
  case atStart=>exact⟨0,by omega,rfl,Below.refl _ _⟩
  obtain⟨k,hk,rfl,HY⟩:=hrel;have hS:=S9.out wr HY.out;by_cases hlt:k<out.length
  ·
   obtain⟨c,hc⟩:∃c,out[k]?=some c:=⟨_,List.getElem?_eq_getElem hlt⟩
   obtain⟨g,hg,hgz,hrw⟩:=hS.2.2.1.OV hc;subst hg;have hso:=Rp.out c (List.mem_of_getElem? hc);obtain⟨j0,j1,j2,j3,j4,j5,j6⟩:=kG hrw hc ⟨hso.2.1,hso.2.2.1,hso.2.2.2.1⟩;have hkk:(k:Int)<(out.length:Int):=(by omega);have hnm:=OO.out.1;simp only[cV,Bool.and_eq_true]at hnm;have M4:Hid (kH m.nm c/\cF m.nm=true/\Tab wr):=⟨hso,hnm.1,(BF.out wr hS.1.2.2).2⟩
   clear hso hnm hrw hc hS;go_wp2_with fail
   refine(xD m.nm c wr M4.out.1 M4.out.2.1 M4.out.2.2).mono ?_;rintro e Wr ⟨⟨s,rfl,hs⟩,OW⟩;have hne:=CY hs;clear j0 j1 j2 j3 j4 j5 j6 M4;go_wp2_with fail
   exact⟨⟨k+1,by omega,by go_num,af HY.out OW⟩,by simp[intOf];omega⟩
  have JN:k=out.length:=by omega
  subst JN;have OX:=ah hS.1.2.2;clear hlt hS S9 HY Rp EK OO Gz S1 S2;go_wp2_with fail
  refine(wS a n cap zs wr (BF.out wr OX.out).1 (by omega) hcap).mono ?_;rintro e I1 ⟨mm,u1,u2,u3,u4,o1,o2,o3,o4,p,x5,x6,rfl,hM,hF,hR,h5,hp,Lc⟩;have GB:Hid (mm.fits/\p.fits):=⟨hF.1,hp⟩
  obtain⟨Ae,C0⟩:∃W,W=(I1.alloc (.cells (bK mm u1 u2 u3 u4 o1 o2 o3 o4) 27)).alloc (.cells (cw p.k p.b p.s (ai x5 p.ws x6) p.h p.c p.t) 43):=⟨_,rfl⟩
  obtain⟨b4,hbb⟩:∃b,b=I1.heap.size:=⟨_,rfl⟩
  have M7:Below I1.heap.size I1 Ae:=by rw[C0];exact ae (ae bR _) _
  have OY:Bx Ae b4 (bK mm u1 u2 u3 u4 o1 o2 o3 o4)/\Bx Ae (b4+1) (cw p.k p.b p.s (ai x5 p.ws x6) p.h p.c p.t):=by rw[C0,hbb];exact⟨(jg _ _ _).below (ae bR _),by have:=jg (I1.alloc (.cells (bK mm u1 u2 u3 u4 o1 o2 o3 o4) 27)) (cw p.k p.b p.s (ai x5 p.ws x6) p.h p.c p.t) 43;rwa [World.size_alloc]at this⟩
  have OZ:Hid (∀y,Below Ae.heap.size Ae y->gx y mm u1 u2 u3 u4 o1 o2 o3 o4/\W.Src y x5 x6 p.ws/\Bx y b4 (bK mm u1 u2 u3 u4 o1 o2 o3 o4)/\Bx y (b4+1) (cw p.k p.b p.s (ai x5 p.ws x6) p.h p.c p.t)/\Below w.heap.size w y):=fun y hy=>⟨(hM.keep M7).keep hy,(hR.keep M7).keep hy,OY.1.below hy,OY.2.below hy,af (af (af OX.out Lc) M7) hy⟩
  have GD:Hid (Ae=_/\b4=I1.heap.size):=⟨C0,hbb⟩
  clear hM hF hR hp M7 OY Lc C0 hbb OX BF;go_wp2_with fail
  rw[<-GD.out.1,<-GD.out.2];refine(xE mm p u1 u2 u3 u4 x5 o1 o2 o3 o4 x6 Ae (OZ.out Ae bR).1 GB.out.1 (OZ.out Ae bR).2.1 h5 GB.out.2).mono ?_;rintro e Ld ⟨⟨y,s1,s2,s3,s4,rfl,hT,hO,hcp⟩,Le⟩;obtain⟨d1,t1,d2,t2,d3,t3,d4,t4,rfl,rfl,rfl,rfl⟩:=hO.shapes;have HT:=ah hT;have HV:=ah (Af hT GB.out.1 GB.out.2);have Gz:=ah hcp;obtain⟨Ag,C9⟩:∃W,W=Ld.alloc (.cells (bK y d1 d2 d3 d4 t1 t2 t3 t4) 27):=⟨_,rfl⟩
  obtain⟨b6,hbb⟩:∃b,b=Ld.heap.size:=⟨_,rfl⟩
  have Pb:Below Ld.heap.size Ld Ag:=by rw[C9];exact ae bR _
  have Rr:Bx Ag b6 (bK y d1 d2 d3 d4 t1 t2 t3 t4):=by rw[C9,hbb];exact jg _ _ _
  have EL:Hid (∀z,Below Ag.heap.size Ag z->_/\dI z y (ai d1 y.ws t1) (ai d2 y.rs t2) (ai d3 y.qs t3) (ai d4 y.gs t4) Ae.heap.size/\Bx z b6 (bK y d1 d2 d3 d4 t1 t2 t3 t4)):=fun z hz=>⟨OZ.out z (af (af Le Pb) hz),(hO.keep Pb).keep hz,Rr.below hz⟩
  have KC:Hid (∀z,Below Ag.heap.size Ag z->(BN z b4 mm.nm mm.up mm.ck mm.kn mm.se (ai u1 mm.ws o1) (ai u2 mm.rs o2) (ai u3 mm.qs o3) (ai u4 mm.gs o4))/\(Ql z (b4+1) p.k p.b p.s (ai x5 p.ws x6) p.h p.c p.t)/\(BN z b6 y.nm y.up y.ck y.kn y.se (ai d1 y.ws t1) (ai d2 y.rs t2) (ai d3 y.qs t3) (ai d4 y.gs t4))):=fun z hz=>by have h:=EL.out z hz;exact⟨⟨h.1.2.2.1.b 0,h.1.2.2.1.b 1,h.1.2.2.1.b 2,h.1.2.2.1.b 3,h.1.2.2.1.b 4,h.1.2.2.1.b 5,h.1.2.2.1.b 6,h.1.2.2.1.b 7,h.1.2.2.1.b 8⟩,⟨h.1.2.2.2.1.b 0,h.1.2.2.2.1.b 1,h.1.2.2.2.1.b 2,h.1.2.2.2.1.b 3,h.1.2.2.2.1.b 4,h.1.2.2.2.1.b 5,h.1.2.2.2.1.b 6⟩,⟨h.2.2.b 0,h.2.2.b 1,h.2.2.b 2,h.2.2.b 3,h.2.2.b 4,h.2.2.b 5,h.2.2.b 6,h.2.2.b 7,h.2.2.b 8⟩⟩
  have GF:Hid (Ag=_/\b6=Ld.heap.size):=⟨C9,hbb⟩
  clear hT hO hcp Pb Rr Le C9 hbb GD
  go_upto_region 25 with(fail)
  rw[<-GF.out.1,<-GF.out.2];clear GF;have hd:Below Ag.heap.size Ag Ag.drew:=au bR;refine wp_region_noPanic ?_;refine wp_region_held_drew (S:=fun z=>(BN z b4 mm.nm mm.up mm.ck mm.kn mm.se (ai u1 mm.ws o1) (ai u2 mm.rs o2) (ai u3 mm.qs o3) (ai u4 mm.gs o4))/\(Ql z (b4+1) p.k p.b p.s (ai x5 p.ws x6) p.h p.c p.t)/\(BN z b6 y.nm y.up y.ck y.kn y.se (ai d1 y.ws t1) (ai d2 y.rs t2) (ai d3 y.qs t3) (ai d4 y.gs t4))) (by kernel_rfl) (KC.out _ hd) (fun hHeld=>?_);refine aF 0 ?_;try simp only[sp]
  refine aF 1 ?_;try simp only[sp]
  refine aF 2 ?_;try simp only[sp]
  refine dJ 3 (by kernel_rfl) rfl fun K hK=>?_
  go_simp
  refine(xF mm p u1 u2 u3 u4 x5 o1 o2 o3 o4 x6 _ (EL.out _ hd).1.1 GB.out.1 (EL.out _ hd).1.2.1 h5 GB.out.2).mono ?_;rintro e M8 ⟨⟨y',s1,s2,s3,s4,rfl,hT,hO⟩,Lf⟩;have ey:=HT.out.one hT;subst ey;obtain⟨f1,i1,f2,i2,f3,i3,f4,i4,rfl,rfl,rfl,rfl⟩:=hO.shapes;have hx24:=af hd Lf;have HO:Hid (∀z,Below M8.heap.size M8 z->dI z y (ai f1 y.ws i1) (ai f2 y.rs i2) (ai f3 y.qs i3) (ai f4 y.gs i4) (World.drew Ag).heap.size):=fun z hz=>hO.keep hz;clear hT hO Lf;go_wp2_with fail
  refine hK.out _ _ (KC.out _ hx24) (fun hH1=>?_);clear hHeld;clear hK K;try simp only[sp]
  refine dJ 4 (by kernel_rfl) rfl fun K hK=>?_
  go_simp
  refine(nJ y d1 d2 d3 d4 f1 f2 f3 f4 t1 t2 t3 t4 i1 i2 i3 i4 Ae.heap.size _ M8 (EL.out _ hx24).2.1 (HO.out M8 bR) ⟨HV.out.1.k1,HV.out.1.k2,HV.out.1.k3,HV.out.1.k4⟩).mono ?_;rintro e Uh ⟨rfl,Lg⟩;have hx25:=af hx24 Lg;go_wp2_with fail
  refine hK.out _ _ (KC.out _ hx25) (fun hH2=>?_);clear hH1 Lg hx24 HO;clear hK K;try simp only[sp]
  refine aF 5 ?_;try simp only[sp]
  refine aF 6 ?_;try simp only[sp]
  refine dJ 7 (by kernel_rfl) rfl fun K hK=>?_
  go_simp
  refine(fu mm u1 u2 u3 u4 o1 o2 o3 o4 Uh (EL.out _ hx25).1.1.lists GB.out.1).mono ?_;rintro e Ui ⟨⟨v,rfl,hv⟩,Lh⟩;have Db:=af hx25 Lh;go_wp2_with fail
  refine hK.out _ _ (KC.out _ Db) (fun hH3=>?_);clear hH2 Lh hx25;clear hK K;try simp only[sp]
  cases v
  ·
   refine aF 8 ?_;try simp only[sp]
   refine aF 9 ?_;try simp only[sp]
   refine ec 10 ?_;refine ec 11 ?_;refine aF 12 ?_;try simp only[sp]
   refine aF 13 ?_;try simp only[sp]
   refine aF 14 ?_;try simp only[sp]
   refine wpAnyH_done (by kernel_rfl) ?_ _;refine NoPanic.normal ?_;have hbe:=(EL.out _ Db).1.2.2.2.2;go_wp2_with fail
   go_ret
   exact⟨rfl,hbe⟩
  have Uj:Valid y:=HV.out.2 (hv.1 rfl);refine aF 8 ?_;try simp only[sp]
  refine aF 9 ?_;try simp only[sp]
  refine aF 10 ?_;try simp only[sp]
  refine dJ 11 (by kernel_rfl) rfl fun K hK=>?_
  go_simp
  refine(gF y d1 d2 d3 d4 t1 t2 t3 t4 Ui ((EL.out _ Db).2.1.GA Gz.out).lists (Gz.out _ _ _ rfl) HV.out.1).mono ?_;rintro e Ws ⟨⟨v,rfl,hv'⟩,Li⟩;obtain rfl:v=true:=by
   cases v;·exact absurd Uj (dA hv')
   rfl
  have hx27:=af Db Li;go_wp2_with fail
  refine hK.out _ _ (KC.out _ hx27) (fun ME=>?_);clear hH3 Li;clear hK K;try simp only[sp]
  refine aF 12 ?_;try simp only[sp]
  refine aF 13 ?_;try simp only[sp]
  refine aF 14 ?_;try simp only[sp]
  refine wpAnyH_done (by kernel_rfl) ?_ _;refine NoPanic.normal ?_;have hbe:=(EL.out _ hx27).1.2.2.2.2;go_wp2_with fail
  go_ret
  exact⟨rfl,hbe⟩
end Go.Proofs.YtlfnpjcjapljpaaGreatDoor
