import Derived.Test.YtlfnpjcjapljpaaGreatDoorJ36
import Derived.Test.YtlfnpjcjapljpaaGreatDoorJ37
import Derived.Test.YtlfnpjcjapljpaaGreatDoorJ38
namespace Go.Proofs.YtlfnpjcjapljpaaGreatDoor
open Go.Proofs.Tryz Go.RowKit
set_option maxRecDepth 4000
set_option maxHeartbeats 8000000
set_option linter.unusedVariables false
theorem Ow.QT{w w':World}{v:Value}{l:List aw}{B k:Nat}(h:Ow w v l B)(he:Ex k w w')(hk:k<B):Ow w' v l B:=
 h.grown (A.av he) (eV (fun j hj=>by cases hj;intro e;have:=(h.lt _ e).1;omega))
theorem zJ{m:aj}{c:Int}{rs:List aw}(h:m.fits)(hf:∀r∈rs,r.fits)(hl:rs.length<=1048576):aj.fits {m with ck:=c,rs:=rs}:=⟨h.n,h.f1,hf,h.f3,h.f4,h.k1,hl,h.k3,h.k4⟩
theorem zK{m:aj}{rs:List aw}(h:m.fits)(hf:∀r∈rs,r.fits)(hl:rs.length<=1048576):aj.fits {m with rs:=rs}:=⟨h.n,h.f1,hf,h.f3,h.f4,h.k1,hl,h.k3,h.k4⟩
theorem uV{rs:List aw}{r:aw}(h:∀x∈rs,x.fits)(hr:r.fits):∀x∈rs++[r],x.fits:=fun x hx=>by
 rcases List.mem_append.1 hx with hx|hx;·exact h x hx
 rw[List.mem_singleton.1 hx];exact hr
theorem zL{w:World}{B:Nat}{v:Value}{rs:List aw}{r:aw}(ho:w.ownsRow B 39 11 v (rs.length+1) (aA rs++r.cells)):Ow w v (rs++[r]) B:=by show w.ownsRow _ _ _ _ (rs++[r]).length _;rw[List.length_append,dU];simpa[aA]using ho
theorem Sl.blk{w:World}{a:Option Addr}{c B i:Nat}{l:List aw}(h:Sl w (ai a l c) l B)(hi:i<l.length):∃g,a=some ⟨g,0,none⟩/\B<=g/\g<w.heap.size/\aG w g 0 l/\w.there g 0 (l.length*11):=by
 rcases h with⟨-,h0⟩|⟨g,cap,h1,h2,h3,h4,h5⟩;·rw[h0]at hi;simp at hi
 simp only[Value.slice.injEq]at h1;exact⟨g,h1.1,h2,h3,h4,h5⟩
theorem zM{rs:List aw}{i:Nat}{r:aw}(h:∀x∈rs,x.fits)(hr:r.fits):∀x∈rs.set i r,x.fits:=fun x hx=>by
 rcases List.mem_or_eq_of_mem_set hx with hx|rfl;·exact h x hx
 exact hr
theorem Kp(kr:Nat)(q:Int)(w:World)(hr:Rq w kr q)(hq:q<400000):
  Calls prog 17 #[.pointer (some ⟨kr,0,none⟩)] w fun e w'=>∃(m:aj)(x1 x2 x3 x4:Option Addr)(n1 n2 n3 n4:Nat),e=.returned (.agg (bK m x1 x2 x3 x4 n1 n2 n3 n4))/\dI w' m (ai x1 m.ws n1) (ai x2 m.rs n2) (ai x3 m.qs n3) (ai x4 m.gs n4) w.heap.size/\m.ws.length<=n1/\m.fq/\Rq w' kr (q+9000)/\Ex kr w w':=by
 have hkr:=hr.lt;have hinfo:(prog.info? 27).map (·.size)=some 9:=by kernel_rfl
 have HR:Hid (Rq (w.alloc (.cells iU 27)) kr q):=hr.below (ae bR _);clear hr;go_enter func17,ntmps17
 go_wp2_with fail
 refine(JW kr q _ HR.out (by omega)).mono ?_;rintro e w2 ⟨m,s1,s2,s3,s4,rfl,hS,hO,⟨x1,n1,hs1,hcw⟩,hdr,r2,e2⟩;obtain⟨x2,n2,hs2⟩:=Sl.shape hS.a2;obtain⟨x3,n3,hs3⟩:=A.Sl.shape hS.a3;obtain⟨x4,n4,hs4⟩:=A.Sl.shape hS.a4;subst hs1 hs2 hs3 hs4;have hz1:(w.alloc (.cells iU 27)).heap.size=w.heap.size+1:=by simp
 rw[hz1]at hS hO;have z2:w.heap.size<w2.heap.size:=by have h:=e2.size;rw[hz1]at h;omega
 have D2:Hid (Da w kr w2.heap.size (w.heap.size+1) m (ai x1 m.ws n1) (ai x2 m.rs n2) (ai x3 m.qs n3) (ai x4 m.gs n4) (q+3000) (w2.alloc (.cells (bK m x1 x2 x3 x4 n1 n2 n3 n4) 27))):=Fg (bh (ny w 27) (by simp) e2 (by omega)) hS r2 ((Ex.of_below (ae bR _)).trans e2) z2 (by omega) hkr;have O2:Hid (m.up=true->Ow (w2.alloc (.cells (bK m x1 x2 x3 x4 n1 n2 n3 n4) 27)) (ai x2 m.rs n2) m.rs (w.heap.size+1)):=fun h=>(hO h).keep (ae bR _);have HF:=ah hdr;clear hS hO hdr r2 e2 HR hz1;go_wp2_with fail
 refine(bO kr _ 24 _ D2.out.r (by omega) (by omega) (by omega)).mono ?_;rintro e y1 ⟨z,rfl,z0,z1,r3,e3⟩;have D3:=ah (D2.out.pick e3 r3);have O3:Hid (m.up=true->Ow y1 (ai x2 m.rs n2) m.rs (w.heap.size+1)):=fun h=>(O2.out h).QT e3 (by omega);clear D2 O2 r3 e3;obtain⟨bm,EG⟩:∃bm,bm=w2.heap.size:=⟨_,rfl⟩
 rw[<-EG]at D3 z2;rw[<-EG];clear EG;generalize (Value.agg (bK m x1 x2 x3 x4 n1 n2 n3 n4))=V8;by_cases hz0:z=0
 ·
  subst hz0;have kb:=D3.out.b;go_wp2_with fail
  refine(vV kr _ m x1 x2 x3 x4 n1 n2 n3 n4 _ D3.out.r (by omega) (W.Sl.src D3.out.l.a1) (Sl.src D3.out.l.a2) (A.Sl.src D3.out.l.a3) (A.Sl.src D3.out.l.a4) HF.out).mono ?_;rintro e y2 ⟨m',t1,t2,t3,t4,rfl,S4,⟨a1,o1,ht1,Gg⟩,Ou,r4,e4⟩;obtain⟨a2,o2,ht2⟩:=Sl.shape S4.a2;obtain⟨a3,o3,ht3⟩:=A.Sl.shape S4.a3;obtain⟨a4,o4,Ov⟩:=A.Sl.shape S4.a4;subst ht1 ht2 ht3 Ov;have hzy:w.heap.size<y1.heap.size:=Nat.lt_trans D3.out.zw D3.out.z;clear kb;have eP:=bh D3.out.d hzy e4 (by omega);have nA:=ah eP;have jq:=S4.low (B':=w.heap.size+1) (by omega);have iG:=ah jq;have sO:Hid (Rq y2 kr (q+9000)):=r4.up (by omega);have sP:=ah (D3.out.e.trans e4);have zN:=ah Ou;have Ho:=ah (ones m' iG.out.a1 iG.out.a2 iG.out.a3 iG.out.a4);have HX:Hid (Ex w.heap.size y2 (y2.setCells w.heap.size 0 (dP m'.nm m'.up m'.ck m'.kn m'.se (ai a1 m'.ws o1) (ai a2 m'.rs o2) (ai a3 m'.qs o3) (ai a4 m'.gs o4)))):=(Ex.refl _ _).cells _ _;have Hg:=ah (A.av HX.out);clear eP jq;go_wp2_with (refine wpList_store_mid (by rfl) 27 _ _ (by rfl) w.heap.size 0 (bY m'.nm m'.up m'.ck m'.kn m'.se (ai a1 m'.ws o1) (ai a2 m'.rs o2) (ai a3 m'.qs o3) (ai a4 m'.gs o4)) (by rfl) (by rfl) (by exact nA.out) hinfo (by exact all_oneCell_toArray Ho.out) ?_)
  have hrg:=World.rangeAt_setCells_same y2 w.heap.size 0 (dP m'.nm m'.up m'.ck m'.kn m'.se (ai a1 m'.ws o1) (ai a2 m'.rs o2) (ai a3 m'.qs o3) (ai a4 m'.gs o4)) nA.out;have HL:Hid (dI (y2.setCells w.heap.size 0 (dP m'.nm m'.up m'.ck m'.kn m'.se (ai a1 m'.ws o1) (ai a2 m'.rs o2) (ai a3 m'.qs o3) (ai a4 m'.gs o4))) m' (ai a1 m'.ws o1) (ai a2 m'.rs o2) (ai a3 m'.qs o3) (ai a4 m'.gs o4) w.heap.size):=(iG.out.ex HX.out (by omega)).low (by omega);have oL:Hid (Rq (y2.setCells w.heap.size 0 (dP m'.nm m'.up m'.ck m'.kn m'.se (ai a1 m'.ws o1) (ai a2 m'.rs o2) (ai a3 m'.qs o3) (ai a4 m'.gs o4))) kr (q+9000)):=sO.out.grown Hg.out (fun a ha=>by cases ha;omega);have mG:Hid (Ex kr w (y2.setCells w.heap.size 0 (dP m'.nm m'.up m'.ck m'.kn m'.se (ai a1 m'.ws o1) (ai a2 m'.rs o2) (ai a3 m'.qs o3) (ai a4 m'.gs o4)))):=sP.out.grown Hg.out (fun a ha=>by cases ha;omega);clear HX Hg Ho nA iG sO sP;generalize (y2.setCells w.heap.size 0 (dP m'.nm m'.up m'.ck m'.kn m'.se (ai a1 m'.ws o1) (ai a2 m'.rs o2) (ai a3 m'.qs o3) (ai a4 m'.gs o4)))=X at hrg HL oL mG ⊢;obtain⟨d0,d1,d2,d3,d4,d5,d6,d7,d8⟩:=d9 hrg;refine bodyPost_ret (v:=.agg (bY m'.nm m'.up m'.ck m'.kn m'.se (ai a1 m'.ws o1) (ai a2 m'.rs o2) (ai a3 m'.qs o3) (ai a4 m'.gs o4))) ?_ rfl ?_;·simp[results,results17,go_sem,d0,d1,d2,d3,d4,d5,d6,d7,d8]
  exact⟨m',_,_,_,_,_,_,_,_,rfl,HL.out,Gg,zN.out,oL.out,mG.out⟩
 by_cases hz1:z=1
 ·
  subst hz1;have kb:=D3.out.b;go_wp2_with fail
  refine(vV kr _ m x1 x2 x3 x4 n1 n2 n3 n4 _ D3.out.r (by omega) (W.Sl.src D3.out.l.a1) (Sl.src D3.out.l.a2) (A.Sl.src D3.out.l.a3) (A.Sl.src D3.out.l.a4) HF.out).mono ?_;rintro e y2 ⟨m',t1,t2,t3,t4,rfl,S4,⟨a1,o1,ht1,Gg⟩,Ou,r4,e4⟩;obtain⟨a2,o2,ht2⟩:=Sl.shape S4.a2;obtain⟨a3,o3,ht3⟩:=A.Sl.shape S4.a3;obtain⟨a4,o4,Ov⟩:=A.Sl.shape S4.a4;subst ht1 ht2 ht3 Ov;have hzy:w.heap.size<y1.heap.size:=Nat.lt_trans D3.out.zw D3.out.z;clear kb;have eP:=bh D3.out.d hzy e4 (by omega);have nA:=ah eP;have jq:=S4.low (B':=w.heap.size+1) (by omega);have iG:=ah jq;have sO:Hid (Rq y2 kr (q+9000)):=r4.up (by omega);have sP:=ah (D3.out.e.trans e4);have zN:=ah Ou;have Ho:=ah (ones m' iG.out.a1 iG.out.a2 iG.out.a3 iG.out.a4);have HX:Hid (Ex w.heap.size y2 (y2.setCells w.heap.size 0 (dP m'.nm m'.up m'.ck m'.kn m'.se (ai a1 m'.ws o1) (ai a2 m'.rs o2) (ai a3 m'.qs o3) (ai a4 m'.gs o4)))):=(Ex.refl _ _).cells _ _;have Hg:=ah (A.av HX.out);clear eP jq;go_wp2_with (refine wpList_store_mid (by rfl) 27 _ _ (by rfl) w.heap.size 0 (bY m'.nm m'.up m'.ck m'.kn m'.se (ai a1 m'.ws o1) (ai a2 m'.rs o2) (ai a3 m'.qs o3) (ai a4 m'.gs o4)) (by rfl) (by rfl) (by exact nA.out) hinfo (by exact all_oneCell_toArray Ho.out) ?_)
  have hrg:=World.rangeAt_setCells_same y2 w.heap.size 0 (dP m'.nm m'.up m'.ck m'.kn m'.se (ai a1 m'.ws o1) (ai a2 m'.rs o2) (ai a3 m'.qs o3) (ai a4 m'.gs o4)) nA.out;have HL:Hid (dI (y2.setCells w.heap.size 0 (dP m'.nm m'.up m'.ck m'.kn m'.se (ai a1 m'.ws o1) (ai a2 m'.rs o2) (ai a3 m'.qs o3) (ai a4 m'.gs o4))) m' (ai a1 m'.ws o1) (ai a2 m'.rs o2) (ai a3 m'.qs o3) (ai a4 m'.gs o4) w.heap.size):=(iG.out.ex HX.out (by omega)).low (by omega);have oL:Hid (Rq (y2.setCells w.heap.size 0 (dP m'.nm m'.up m'.ck m'.kn m'.se (ai a1 m'.ws o1) (ai a2 m'.rs o2) (ai a3 m'.qs o3) (ai a4 m'.gs o4))) kr (q+9000)):=sO.out.grown Hg.out (fun a ha=>by cases ha;omega);have mG:Hid (Ex kr w (y2.setCells w.heap.size 0 (dP m'.nm m'.up m'.ck m'.kn m'.se (ai a1 m'.ws o1) (ai a2 m'.rs o2) (ai a3 m'.qs o3) (ai a4 m'.gs o4)))):=sP.out.grown Hg.out (fun a ha=>by cases ha;omega);clear HX Hg Ho nA iG sO sP;generalize (y2.setCells w.heap.size 0 (dP m'.nm m'.up m'.ck m'.kn m'.se (ai a1 m'.ws o1) (ai a2 m'.rs o2) (ai a3 m'.qs o3) (ai a4 m'.gs o4)))=X at hrg HL oL mG ⊢;obtain⟨d0,d1,d2,d3,d4,d5,d6,d7,d8⟩:=d9 hrg;refine bodyPost_ret (v:=.agg (bY m'.nm m'.up m'.ck m'.kn m'.se (ai a1 m'.ws o1) (ai a2 m'.rs o2) (ai a3 m'.qs o3) (ai a4 m'.gs o4))) ?_ rfl ?_;·simp[results,results17,go_sem,d0,d1,d2,d3,d4,d5,d6,d7,d8]
  exact⟨m',_,_,_,_,_,_,_,_,rfl,HL.out,Gg,zN.out,oL.out,mG.out⟩
 by_cases hz2:z=2
 ·
  subst hz2;have k2:y1.cell? ⟨bm,2,none⟩=some (.int .i64 m.ck):=D3.out.b 2
  go_upto_region 7 with(fail)
  have K2:Hid (∀y,Ex kr y1 y->y.cell? ⟨bm,2,none⟩=some (.int .i64 m.ck)):=fun y he=>(he.cell (p:=⟨bm,2,none⟩) D3.out.z (by show bm≠kr;omega)).trans k2;have hd0:Ex kr y1 y1.drew:=Ex.of_below bD;have DJ:Hid (Da w kr bm (w.heap.size+1) m (ai x1 m.ws n1) (ai x2 m.rs n2) (ai x3 m.qs n3) (ai x4 m.gs n4) (q+3000+1) y1.drew):=D3.out.pick hd0 (D3.out.r.below bD);clear k2
  go_region_held3 (fun y=>y.cell? ⟨bm,2,none⟩=some (.int .i64 m.ck))
   (first|exact K2.out _ hd0|exact K2.out _ (hd0.trans e9))
   (first|(go_at_call 18;refine(bO kr _ 6 _ DJ.out.r (by omega) (by omega) (by omega)).mono ?_;rintro e y9 ⟨p9,rfl,QO,QP,r9,e9⟩))
  have D4:=ah (DJ.out.pick e9 r9);have k9:y9.cell? ⟨bm,2,none⟩=some (.int .i64 m.ck):=D4.out.b 2;have f9:y9.frozen? ⟨bm,2,none⟩=false:=D4.out.c 2;have BZ:=D4.out.z;clear e9 r9 DJ K2 hd0 O3 D3;generalize hdd:IntKind.i64.wrap (IntKind.i64.wrap (1000000-p9)-m.ck)=dd;go_wp2_with fail
  generalize hcc:wrap64 (m.ck+dd)=cc;have D5:Hid (Da w kr bm (w.heap.size+1) {m with ck:=cc} (ai x1 m.ws n1) (ai x2 m.rs n2) (ai x3 m.qs n3) (ai x4 m.gs n4) (q+3000+1+1) (y9.setCell ⟨bm,2,none⟩ (.int .i64 cc))):=D4.out.set 2 _ (by omega) rfl (D4.out.l.oM rfl rfl rfl rfl) D4.out.nb;have HW:Hid (∀x∈m.rs,x.fits):=fun x hx=>(HF.out.r2 x hx).fits;have hlen:=HF.out.r1;clear hdd hcc D4 k9 f9 BZ
  go_loopw [5] (fun i wx=>∃(j:Nat)(rs':List aw)(v2:Value),i=.int .i64 (j:Int)/\j<=m.rs.length/\rs'.length=m.rs.length/\Hid (∀x∈rs',x.fits)/\Hid (Da w kr bm (w.heap.size+1) {m with ck:=cc,rs:=rs'} (ai x1 m.ws n1) v2 (ai x3 m.qs n3) (ai x4 m.gs n4) (q+3000+1+1) wx)) (fun i _=>m.rs.length-(intOf i).toNat)
  case atStart=>exact⟨0,m.rs,_,rfl,Nat.zero_le _,rfl,HW.out,D5.out⟩
  obtain⟨j,rs',v2,rfl,hj,hl0,HQ,HK⟩:=hrel;have zO:=ah hl0;have hj':j<=rs'.length:=by omega
  clear hl0 hj;obtain⟨a2,c2,hs2⟩:=Sl.shape HK.out.l.a2;have hs2:v2=.slice a2 rs'.length c2:=hs2;subst hs2;have uM:wr.cell? ⟨bm,6,none⟩=some (ai a2 rs' c2):=HK.out.b 6;have hbz:=HK.out.z;by_cases hjl:j<rs'.length
  ·
   obtain⟨g,rfl,hg1,hg2,hR,hth⟩:=Sl.blk HK.out.l.a2 hjl;obtain⟨r,hr⟩:∃r,rs'[j]?=some r:=⟨rs'[j],List.getElem?_eq_getElem hjl⟩
   have Hr:=ah hr;have Hm:=ah (HQ.out r (List.mem_of_getElem? hr));obtain⟨-,-,MK,-,-,-,-,-,-,-,Ox⟩:=hR.at hr;simp only[Nat.zero_add]at MK Ox;obtain⟨-,TR⟩:=eb hth (j*11+10) (by show _<rs'.length*11;omega);have j0:(0:Int)<=(j:Int):=(by omega);have j1:(j:Int)<(rs'.length:Int):=(by omega);have hbg:bm≠g:=fun e=>HK.out.nb.2.1 (by rw[e];rfl);clear hr hth hR;have hjb:j<4:=(by have:=zO.out;omega);cases hq:r.h.toList.isEmpty
   ·
    go_upto_region 13 with(fail)
    go_region
    go_wp2
    have HP:Hid (Da w kr bm (w.heap.size+1) {m with ck:=cc,rs:=rs'.set j ⟨r.c,r.h,r.v,r.p,r.s,r.d,r.g,r.a,r.b,r.i,wrap64 (r.u+dd)⟩} (ai x1 m.ws n1) (.slice (some ⟨g,0,none⟩) rs'.length c2) (ai x3 m.qs n3) (ai x4 m.gs n4) (q+3000+1+1) (wr.setCell ⟨g,j*11+10,none⟩ (.int .i64 (wrap64 (r.u+dd))))):=HK.out.run (r':=⟨r.c,r.h,r.v,r.p,r.s,r.d,r.g,r.a,r.b,r.i,wrap64 (r.u+dd)⟩) Hr.out rfl (by omega);exact⟨⟨j+1,rs'.set j ⟨r.c,r.h,r.v,r.p,r.s,r.d,r.g,r.a,r.b,r.i,wrap64 (r.u+dd)⟩,_,by go_num,by have:=zO.out;omega,by rw[List.length_set];exact zO.out,zM HQ.out ⟨Hm.out.1,Hm.out.2.1,Hm.out.2.2.1,Hm.out.2.2.2⟩,HP.out.below bD⟩,by have:=zO.out;simp[intOf];omega⟩
   go_wp2
   exact⟨⟨j+1,rs',_,by go_num,by have:=zO.out;omega,zO.out,HQ.out,HK.out⟩,by have:=zO.out;simp[intOf];omega⟩
  have kb:=HK.out.b;have eP:=HK.out.d;have nA:=ah eP;have jq:=HK.out.l;have iG:Hid (dI wr {m with ck:=cc,rs:=rs'} (ai x1 m.ws n1) (ai a2 rs' c2) (ai x3 m.qs n3) (ai x4 m.gs n4) (w.heap.size+1)):=jq;have sO:Hid (Rq wr kr (q+9000)):=HK.out.r.up (by omega);have sP:=ah HK.out.e;have zN:Hid (aj.fq {m with ck:=cc,rs:=rs'}):=⟨zJ HF.out.fits HQ.out (by have:=zO.out;omega),HF.out.fq.2⟩
  have Ho:Hid (∀u∈([.string {m with ck:=cc,rs:=rs'}.nm,.bool {m with ck:=cc,rs:=rs'}.up,.int .i64 {m with ck:=cc,rs:=rs'}.ck,.bool {m with ck:=cc,rs:=rs'}.kn,.int .i64 {m with ck:=cc,rs:=rs'}.se,.slice x1 m.ws.length n1,.slice a2 rs'.length c2,.slice x3 m.qs.length n3,.slice x4 m.gs.length n4]:List Value),u.oneCell'=true):=ones {m with ck:=cc,rs:=rs'} iG.out.a1 iG.out.a2 iG.out.a3 iG.out.a4;have HX:Hid (Ex w.heap.size wr (wr.setCells w.heap.size 0 [.string {m with ck:=cc,rs:=rs'}.nm,.bool {m with ck:=cc,rs:=rs'}.up,.int .i64 {m with ck:=cc,rs:=rs'}.ck,.bool {m with ck:=cc,rs:=rs'}.kn,.int .i64 {m with ck:=cc,rs:=rs'}.se,.slice x1 m.ws.length n1,.slice a2 rs'.length c2,.slice x3 m.qs.length n3,.slice x4 m.gs.length n4])):=(Ex.refl _ _).cells _ _;have Hg:Hid (wr.grownBy (wr.setCells w.heap.size 0 [.string {m with ck:=cc,rs:=rs'}.nm,.bool {m with ck:=cc,rs:=rs'}.up,.int .i64 {m with ck:=cc,rs:=rs'}.ck,.bool {m with ck:=cc,rs:=rs'}.kn,.int .i64 {m with ck:=cc,rs:=rs'}.se,.slice x1 m.ws.length n1,.slice a2 rs'.length c2,.slice x3 m.qs.length n3,.slice x4 m.gs.length n4]) (some w.heap.size)):=A.av HX.out;clear eP jq;go_wp2_with (refine wpList_store_mid (by rfl) 27 _ _ (by rfl) w.heap.size 0 #[.string {m with ck:=cc,rs:=rs'}.nm,.bool {m with ck:=cc,rs:=rs'}.up,.int .i64 {m with ck:=cc,rs:=rs'}.ck,.bool {m with ck:=cc,rs:=rs'}.kn,.int .i64 {m with ck:=cc,rs:=rs'}.se,.slice x1 m.ws.length n1,.slice a2 rs'.length c2,.slice x3 m.qs.length n3,.slice x4 m.gs.length n4] (by rfl) (by rfl) (by exact nA.out) hinfo (by exact all_oneCell_toArray Ho.out) ?_)
  have hrg:=World.rangeAt_setCells_same wr w.heap.size 0 [.string {m with ck:=cc,rs:=rs'}.nm,.bool {m with ck:=cc,rs:=rs'}.up,.int .i64 {m with ck:=cc,rs:=rs'}.ck,.bool {m with ck:=cc,rs:=rs'}.kn,.int .i64 {m with ck:=cc,rs:=rs'}.se,.slice x1 m.ws.length n1,.slice a2 rs'.length c2,.slice x3 m.qs.length n3,.slice x4 m.gs.length n4] nA.out;have HL:Hid (dI (wr.setCells w.heap.size 0 [.string {m with ck:=cc,rs:=rs'}.nm,.bool {m with ck:=cc,rs:=rs'}.up,.int .i64 {m with ck:=cc,rs:=rs'}.ck,.bool {m with ck:=cc,rs:=rs'}.kn,.int .i64 {m with ck:=cc,rs:=rs'}.se,.slice x1 m.ws.length n1,.slice a2 rs'.length c2,.slice x3 m.qs.length n3,.slice x4 m.gs.length n4]) {m with ck:=cc,rs:=rs'} (ai x1 m.ws n1) (ai a2 rs' c2) (ai x3 m.qs n3) (ai x4 m.gs n4) w.heap.size):=(iG.out.ex HX.out (by omega)).low (by omega);have oL:Hid (Rq (wr.setCells w.heap.size 0 [.string {m with ck:=cc,rs:=rs'}.nm,.bool {m with ck:=cc,rs:=rs'}.up,.int .i64 {m with ck:=cc,rs:=rs'}.ck,.bool {m with ck:=cc,rs:=rs'}.kn,.int .i64 {m with ck:=cc,rs:=rs'}.se,.slice x1 m.ws.length n1,.slice a2 rs'.length c2,.slice x3 m.qs.length n3,.slice x4 m.gs.length n4]) kr (q+9000)):=sO.out.grown Hg.out (fun a ha=>by cases ha;omega);have mG:Hid (Ex kr w (wr.setCells w.heap.size 0 [.string {m with ck:=cc,rs:=rs'}.nm,.bool {m with ck:=cc,rs:=rs'}.up,.int .i64 {m with ck:=cc,rs:=rs'}.ck,.bool {m with ck:=cc,rs:=rs'}.kn,.int .i64 {m with ck:=cc,rs:=rs'}.se,.slice x1 m.ws.length n1,.slice a2 rs'.length c2,.slice x3 m.qs.length n3,.slice x4 m.gs.length n4])):=sP.out.grown Hg.out (fun a ha=>by cases ha;omega);clear HX Hg Ho nA iG sO sP;generalize (wr.setCells w.heap.size 0 [.string {m with ck:=cc,rs:=rs'}.nm,.bool {m with ck:=cc,rs:=rs'}.up,.int .i64 {m with ck:=cc,rs:=rs'}.ck,.bool {m with ck:=cc,rs:=rs'}.kn,.int .i64 {m with ck:=cc,rs:=rs'}.se,.slice x1 m.ws.length n1,.slice a2 rs'.length c2,.slice x3 m.qs.length n3,.slice x4 m.gs.length n4])=X at hrg HL oL mG ⊢;obtain⟨d0,d1,d2,d3,d4,d5,d6,d7,d8⟩:=d9 hrg;refine bodyPost_ret (v:=.agg #[.string {m with ck:=cc,rs:=rs'}.nm,.bool {m with ck:=cc,rs:=rs'}.up,.int .i64 {m with ck:=cc,rs:=rs'}.ck,.bool {m with ck:=cc,rs:=rs'}.kn,.int .i64 {m with ck:=cc,rs:=rs'}.se,.slice x1 m.ws.length n1,.slice a2 rs'.length c2,.slice x3 m.qs.length n3,.slice x4 m.gs.length n4]) ?_ rfl ?_;·simp[results,results17,go_sem,d0,d1,d2,d3,d4,d5,d6,d7,d8]
  exact⟨{m with ck:=cc,rs:=rs'},_,_,_,_,_,_,_,_,rfl,HL.out,hcw,zN.out,oL.out,mG.out⟩
 by_cases hz3:z=3
 ·
  subst hz3;have zP:y1.cell? ⟨bm,1,none⟩=some (.bool m.up):=D3.out.b 1;cases hup:m.up
  ·
   rw[hup]at zP;clear hup
   go_upto_if 61 with(fail)
   clear zP;have kb:=D3.out.b;have eP:=D3.out.d;have nA:=ah eP;have jq:=D3.out.l;have iG:=ah jq;have sO:Hid (Rq y1 kr (q+9000)):=D3.out.r.up (by omega);have sP:=ah D3.out.e;have zN:=ah HF.out.fq;have Ho:=ah (ones m iG.out.a1 iG.out.a2 iG.out.a3 iG.out.a4);have HX:Hid (Ex w.heap.size y1 (y1.setCells w.heap.size 0 (kg m x1 x2 x3 x4 n1 n2 n3 n4))):=(Ex.refl _ _).cells _ _;have Hg:=ah (A.av HX.out);clear eP jq;go_wp2_with (refine wpList_store_mid (by rfl) 27 _ _ (by rfl) w.heap.size 0 (bK m x1 x2 x3 x4 n1 n2 n3 n4) (by rfl) (by rfl) (by exact nA.out) hinfo (by exact all_oneCell_toArray Ho.out) ?_)
   have hrg:=World.rangeAt_setCells_same y1 w.heap.size 0 (kg m x1 x2 x3 x4 n1 n2 n3 n4) nA.out;have HL:Hid (dI (y1.setCells w.heap.size 0 (kg m x1 x2 x3 x4 n1 n2 n3 n4)) m (ai x1 m.ws n1) (ai x2 m.rs n2) (ai x3 m.qs n3) (ai x4 m.gs n4) w.heap.size):=(iG.out.ex HX.out (by omega)).low (by omega);have oL:Hid (Rq (y1.setCells w.heap.size 0 (kg m x1 x2 x3 x4 n1 n2 n3 n4)) kr (q+9000)):=sO.out.grown Hg.out (fun a ha=>by cases ha;omega);have mG:Hid (Ex kr w (y1.setCells w.heap.size 0 (kg m x1 x2 x3 x4 n1 n2 n3 n4))):=sP.out.grown Hg.out (fun a ha=>by cases ha;omega);clear HX Hg Ho nA iG sO sP;generalize (y1.setCells w.heap.size 0 (kg m x1 x2 x3 x4 n1 n2 n3 n4))=X at hrg HL oL mG ⊢;obtain⟨d0,d1,d2,d3,d4,d5,d6,d7,d8⟩:=d9 hrg;refine bodyPost_ret (v:=.agg (bK m x1 x2 x3 x4 n1 n2 n3 n4)) ?_ rfl ?_;·simp[results,results17,go_sem,d0,d1,d2,d3,d4,d5,d6,d7,d8]
   exact⟨m,_,_,_,_,_,_,_,_,rfl,HL.out,hcw,zN.out,oL.out,mG.out⟩
  have O4:=ah (O3.out hup);rw[hup]at zP;clear hup
  go_upto_if 61 with(fail)
  clear zP O3;have HW:Hid (∀x∈m.rs,x.fits):=fun x hx=>(HF.out.r2 x hx).fits;have hlen:=HF.out.r1;obtain⟨i0,hi,hz0,hz1,hz2⟩:=info_parts cE;go_wp2_with fail
  go_loopw [6] (fun i wx=>∃(j:Nat)(rs':List aw)(v2:Value),i=.int .i64 (j:Int)/\j<=20/\rs'.length=m.rs.length+j/\rs'.length<=20/\Hid (∀x∈rs',x.fits)/\Hid (Ow wx v2 rs' (w.heap.size+1))/\Hid (Da w kr bm (w.heap.size+1) {m with rs:=rs'} (ai x1 m.ws n1) v2 (ai x3 m.qs n3) (ai x4 m.gs n4) (q+3001+j) wx)) (fun i _=>20-(intOf i).toNat)
  case atStart=>exact⟨0,m.rs,_,rfl,Nat.zero_le _,rfl,by omega,HW.out,O4.out,Da.up D3.out (by omega)⟩
  obtain⟨j,rs',v2,rfl,hj,hl0,hl1,HQ,HO,HK⟩:=hrel;have zO:=ah hl0;clear hl0;obtain⟨a2,c2,hs2⟩:=HO.out.shape;subst hs2;have uM:wr.cell? ⟨bm,6,none⟩=some (ai a2 rs' c2):=HK.out.b 6
  go_upto_region 17 with(fail)
  have K6:Hid (∀y,Ex kr wr y->y.cell? ⟨bm,6,none⟩=some (ai a2 rs' c2)):=fun y he=>(he.cell (p:=⟨bm,6,none⟩) HK.out.z (by show bm≠kr;omega)).trans uM;have hd0:Ex kr wr wr.drew:=Ex.of_below bD;have DJ:Hid (Da w kr bm (w.heap.size+1) {m with rs:=rs'} (ai x1 m.ws n1) (ai a2 rs' c2) (ai x3 m.qs n3) (ai x4 m.gs n4) (q+3001+j) wr.drew):=HK.out.below bD;clear uM
  go_region_held3 (fun y=>y.cell? ⟨bm,6,none⟩=some (ai a2 rs' c2))
   (first|exact K6.out _ hd0|exact K6.out _ (hd0.trans e9))
   (first|(go_at_call 18;refine(bO kr _ 2 _ DJ.out.r (by omega) (by omega) (by omega)).mono ?_;rintro e y9 ⟨p9,rfl,QO,QP,r9,e9⟩))
  have D4:Hid (Da w kr bm (w.heap.size+1) {m with rs:=rs'} (ai x1 m.ws n1) (ai a2 rs' c2) (ai x3 m.qs n3) (ai x4 m.gs n4) (q+3001+j+1) y9):=DJ.out.pick e9 r9;have O4:Hid (Ow y9 (ai a2 rs' c2) rs' (w.heap.size+1)):=HO.out.QT (hd0.trans e9) (by omega);clear e9 r9 DJ K6 hd0 HO HK;obtain⟨L,hL⟩:∃L:Int,L=20-p9:=⟨_,rfl⟩
  have iw:IntKind.i64.wrap (20-p9)=20-p9:=by rw[IntKind.wrap_i64];omega
  by_cases hlt:(rs'.length:Int)<20-p9
  ·
   have uM:y9.cell? ⟨bm,6,none⟩=some (ai a2 rs' c2):=D4.out.b 6;have Wj:=D4.out.z;have hb:=nt;have hc:=pC;have Wm:j<20:=(by have:=zO.out;omega);go_wp2_with (at_builtin;refine wpList_append_own_at _ rfl _ _ 24 rfl (w.heap.size+1) 39 i0 _ 11 104 underlying24 hi hz0 hz1 hz2 rfl (by decide) (ai a2 rs' c2) rs'.length _ rfl (by exact aN O4.out (ae (ae bR _) _)) ⟨_,0,none⟩ 1 1 (⟨({data:=#[100]}++{data:=#[97+UInt8.ofNat j]}:ByteArray),{data:=#[]},1,0,0,0,2,4,0,0,0⟩:aw).cells rfl rfl (bG _ _ (by simp) _ _ _ rfl) (aU _) (by unfold maxLen;omega) (by omega) (by have h1:=D4.out.z;simp;omega) ?_;intro v9 y8 ho hg hn hat;have Oy:Ow y8 v9 (rs'++[(⟨({data:=#[100]}++{data:=#[97+UInt8.ofNat j]}:ByteArray),{data:=#[]},1,0,0,0,2,4,0,0,0⟩:aw)]) (w.heap.size+1):=zL ho;have K9:=mR (D4.out.below (ae (ae bR _) _)) hg (fun a ha=>⟨by have:=(O4.out.lt a ha).1;omega,fun e=>D4.out.nb.2.1 (by rw[ha,e])⟩);have Ob:y8.cell? ⟨bm,6,none⟩=some (ai a2 rs' c2):=K9.1 6;have IY:y8.frozen? ⟨bm,6,none⟩=false:=K9.2.1 6;have HA:Hid (Da w kr bm (w.heap.size+1) {m with rs:=rs'++[(⟨({data:=#[100]}++{data:=#[97+UInt8.ofNat j]}:ByteArray),{data:=#[]},1,0,0,0,2,4,0,0,0⟩:aw)]} (ai x1 m.ws n1) v9 (ai x3 m.qs n3) (ai x4 m.gs n4) (q+3001+j+1) (y8.setCell ⟨bm,6,none⟩ v9)):=(by have h9:=Da.Ff (D4.out.below (ae (ae bR _) _)) hg Oy hat;exact h9);have CK:Hid (Ow (y8.setCell ⟨bm,6,none⟩ v9) v9 (rs'++[(⟨({data:=#[100]}++{data:=#[97+UInt8.ofNat j]}:ByteArray),{data:=#[]},1,0,0,0,2,4,0,0,0⟩:aw)]) (w.heap.size+1)):=Oy.grown (A.av ((Ex.refl bm y8).set 6 v9)) (iW HA.out.nb.2.1);obtain⟨a9,p8,jq⟩:=eE ho;subst jq;clear K9 ho hg hn hat Oy hb hc)
   exact⟨⟨j+1,rs'++[(⟨({data:=#[100]}++{data:=#[97+UInt8.ofNat j]}:ByteArray),{data:=#[]},1,0,0,0,2,4,0,0,0⟩:aw)],_,by go_num,by omega,by have:=zO.out;simp;omega,by simp;omega,uV HQ.out ⟨by rw[i7];show 1+1<=maxLen;unfold maxLen;omega,by show(⟨#[]⟩:ByteArray).size<=maxLen;unfold maxLen;decide,by show(0:Int)<=_;omega,by show _<=(0:Int);omega⟩,CK.out,HA.out.up (by omega)⟩,by simp[intOf];omega⟩
  have kb:=D4.out.b;have eP:=D4.out.d;have nA:=ah eP;have jq:=D4.out.l;have iG:Hid (dI y9 {m with rs:=rs'} (ai x1 m.ws n1) (ai a2 rs' c2) (ai x3 m.qs n3) (ai x4 m.gs n4) (w.heap.size+1)):=jq;have sO:Hid (Rq y9 kr (q+9000)):=D4.out.r.up (by omega);have sP:=ah D4.out.e;have zN:Hid (aj.fq {m with rs:=rs'}):=⟨zK HF.out.fits HQ.out (by omega),HF.out.fq.2⟩
  have Ho:Hid (∀u∈([.string {m with rs:=rs'}.nm,.bool {m with rs:=rs'}.up,.int .i64 {m with rs:=rs'}.ck,.bool {m with rs:=rs'}.kn,.int .i64 {m with rs:=rs'}.se,.slice x1 m.ws.length n1,.slice a2 rs'.length c2,.slice x3 m.qs.length n3,.slice x4 m.gs.length n4]:List Value),u.oneCell'=true):=ones {m with rs:=rs'} iG.out.a1 iG.out.a2 iG.out.a3 iG.out.a4;have HX:Hid (Ex w.heap.size y9 (y9.setCells w.heap.size 0 [.string {m with rs:=rs'}.nm,.bool {m with rs:=rs'}.up,.int .i64 {m with rs:=rs'}.ck,.bool {m with rs:=rs'}.kn,.int .i64 {m with rs:=rs'}.se,.slice x1 m.ws.length n1,.slice a2 rs'.length c2,.slice x3 m.qs.length n3,.slice x4 m.gs.length n4])):=(Ex.refl _ _).cells _ _;have Hg:Hid (y9.grownBy (y9.setCells w.heap.size 0 [.string {m with rs:=rs'}.nm,.bool {m with rs:=rs'}.up,.int .i64 {m with rs:=rs'}.ck,.bool {m with rs:=rs'}.kn,.int .i64 {m with rs:=rs'}.se,.slice x1 m.ws.length n1,.slice a2 rs'.length c2,.slice x3 m.qs.length n3,.slice x4 m.gs.length n4]) (some w.heap.size)):=A.av HX.out;clear eP jq;go_wp2_with (refine wpList_store_mid (by rfl) 27 _ _ (by rfl) w.heap.size 0 #[.string {m with rs:=rs'}.nm,.bool {m with rs:=rs'}.up,.int .i64 {m with rs:=rs'}.ck,.bool {m with rs:=rs'}.kn,.int .i64 {m with rs:=rs'}.se,.slice x1 m.ws.length n1,.slice a2 rs'.length c2,.slice x3 m.qs.length n3,.slice x4 m.gs.length n4] (by rfl) (by rfl) (by exact nA.out) hinfo (by exact all_oneCell_toArray Ho.out) ?_)
  have hrg:=World.rangeAt_setCells_same y9 w.heap.size 0 [.string {m with rs:=rs'}.nm,.bool {m with rs:=rs'}.up,.int .i64 {m with rs:=rs'}.ck,.bool {m with rs:=rs'}.kn,.int .i64 {m with rs:=rs'}.se,.slice x1 m.ws.length n1,.slice a2 rs'.length c2,.slice x3 m.qs.length n3,.slice x4 m.gs.length n4] nA.out;have HL:Hid (dI (y9.setCells w.heap.size 0 [.string {m with rs:=rs'}.nm,.bool {m with rs:=rs'}.up,.int .i64 {m with rs:=rs'}.ck,.bool {m with rs:=rs'}.kn,.int .i64 {m with rs:=rs'}.se,.slice x1 m.ws.length n1,.slice a2 rs'.length c2,.slice x3 m.qs.length n3,.slice x4 m.gs.length n4]) {m with rs:=rs'} (ai x1 m.ws n1) (ai a2 rs' c2) (ai x3 m.qs n3) (ai x4 m.gs n4) w.heap.size):=(iG.out.ex HX.out (by omega)).low (by omega);have oL:Hid (Rq (y9.setCells w.heap.size 0 [.string {m with rs:=rs'}.nm,.bool {m with rs:=rs'}.up,.int .i64 {m with rs:=rs'}.ck,.bool {m with rs:=rs'}.kn,.int .i64 {m with rs:=rs'}.se,.slice x1 m.ws.length n1,.slice a2 rs'.length c2,.slice x3 m.qs.length n3,.slice x4 m.gs.length n4]) kr (q+9000)):=sO.out.grown Hg.out (fun a ha=>by cases ha;omega);have mG:Hid (Ex kr w (y9.setCells w.heap.size 0 [.string {m with rs:=rs'}.nm,.bool {m with rs:=rs'}.up,.int .i64 {m with rs:=rs'}.ck,.bool {m with rs:=rs'}.kn,.int .i64 {m with rs:=rs'}.se,.slice x1 m.ws.length n1,.slice a2 rs'.length c2,.slice x3 m.qs.length n3,.slice x4 m.gs.length n4])):=sP.out.grown Hg.out (fun a ha=>by cases ha;omega);clear HX Hg Ho nA iG sO sP;generalize (y9.setCells w.heap.size 0 [.string {m with rs:=rs'}.nm,.bool {m with rs:=rs'}.up,.int .i64 {m with rs:=rs'}.ck,.bool {m with rs:=rs'}.kn,.int .i64 {m with rs:=rs'}.se,.slice x1 m.ws.length n1,.slice a2 rs'.length c2,.slice x3 m.qs.length n3,.slice x4 m.gs.length n4])=X at hrg HL oL mG ⊢;obtain⟨d0,d1,d2,d3,d4,d5,d6,d7,d8⟩:=d9 hrg;refine bodyPost_ret (v:=.agg #[.string {m with rs:=rs'}.nm,.bool {m with rs:=rs'}.up,.int .i64 {m with rs:=rs'}.ck,.bool {m with rs:=rs'}.kn,.int .i64 {m with rs:=rs'}.se,.slice x1 m.ws.length n1,.slice a2 rs'.length c2,.slice x3 m.qs.length n3,.slice x4 m.gs.length n4]) ?_ rfl ?_;·simp[results,results17,go_sem,d0,d1,d2,d3,d4,d5,d6,d7,d8]
  exact⟨{m with rs:=rs'},_,_,_,_,_,_,_,_,rfl,HL.out,hcw,zN.out,oL.out,mG.out⟩
 have kb:=D3.out.b;have eP:=D3.out.d;have nA:=ah eP;have jq:=D3.out.l;have iG:=ah jq;have sO:Hid (Rq y1 kr (q+9000)):=D3.out.r.up (by omega);have sP:=ah D3.out.e;have zN:=ah HF.out.fq;have Ho:=ah (ones m iG.out.a1 iG.out.a2 iG.out.a3 iG.out.a4);have HX:Hid (Ex w.heap.size y1 (y1.setCells w.heap.size 0 (kg m x1 x2 x3 x4 n1 n2 n3 n4))):=(Ex.refl _ _).cells _ _;have Hg:=ah (A.av HX.out);clear eP jq;go_wp2_with (refine wpList_store_mid (by rfl) 27 _ _ (by rfl) w.heap.size 0 (bK m x1 x2 x3 x4 n1 n2 n3 n4) (by rfl) (by rfl) (by exact nA.out) hinfo (by exact all_oneCell_toArray Ho.out) ?_)
 have hrg:=World.rangeAt_setCells_same y1 w.heap.size 0 (kg m x1 x2 x3 x4 n1 n2 n3 n4) nA.out;have HL:Hid (dI (y1.setCells w.heap.size 0 (kg m x1 x2 x3 x4 n1 n2 n3 n4)) m (ai x1 m.ws n1) (ai x2 m.rs n2) (ai x3 m.qs n3) (ai x4 m.gs n4) w.heap.size):=(iG.out.ex HX.out (by omega)).low (by omega);have oL:Hid (Rq (y1.setCells w.heap.size 0 (kg m x1 x2 x3 x4 n1 n2 n3 n4)) kr (q+9000)):=sO.out.grown Hg.out (fun a ha=>by cases ha;omega);have mG:Hid (Ex kr w (y1.setCells w.heap.size 0 (kg m x1 x2 x3 x4 n1 n2 n3 n4))):=sP.out.grown Hg.out (fun a ha=>by cases ha;omega);clear HX Hg Ho nA iG sO sP;generalize (y1.setCells w.heap.size 0 (kg m x1 x2 x3 x4 n1 n2 n3 n4))=X at hrg HL oL mG ⊢;obtain⟨d0,d1,d2,d3,d4,d5,d6,d7,d8⟩:=d9 hrg;refine bodyPost_ret (v:=.agg (bK m x1 x2 x3 x4 n1 n2 n3 n4)) ?_ rfl ?_;·simp[results,results17,go_sem,d0,d1,d2,d3,d4,d5,d6,d7,d8]
 ·exact⟨m,_,_,_,_,_,_,_,_,rfl,HL.out,hcw,zN.out,oL.out,mG.out⟩
set_option maxHeartbeats 4000000
def yG(kr b2 i:Nat)(y y':World):Prop:=if i=6 then Ex b2 y y' else Ex kr y y'
theorem yG.fa{kr b2 Z i:Nat}{y y':World}(h:yG kr b2 i y y')(hk:kr<Z)(hb:b2<Z):Fa Z y y':=by
 unfold yG at h;split at h
 ·exact Fa.ex h hb
 exact Fa.ex h hk
structure sR(kr b2 lb:Nat)(w w1:World)(m:aj)(s1 s2 s3 s4:Value)(Z:Nat)(q:Int)(cn:Nat)(S:Nat->Bool)(y:World):Prop extends Dt kr b2 lb w w1 m s1 s2 s3 s4 y where
 r:S 6=false->Rq y kr (q+200*cn)
 s:Z<=y.heap.size
section
variable {kr b2 lb:Nat} {w w1:World} {m:aj} {s1 s2 s3 s4:Value} {Z:Nat} {q:Int} {c i:Nat} {S:Nat->Bool} {y:World}
theorem sR.ans{vs:List Value}(h:sR kr b2 lb w w1 m s1 s2 s3 s4 Z q c S y):sR kr b2 lb w w1 m s1 s2 s3 s4 Z q (c+1) (sset S 6) (y.setCells b2 0 vs):=
 ⟨h.toDt.ans,fun e=>by simp[sset]at e,Nat.le_trans h.s ((Ex.refl b2 y).cells vs 0).size⟩
theorem sR.up(h:sR kr b2 lb w w1 m s1 s2 s3 s4 Z q c S y):sR kr b2 lb w w1 m s1 s2 s3 s4 Z q (c+1) (sset S i) y:=⟨h.toDt,fun e=>(h.r (sJ e)).up (by omega),h.s⟩
theorem sR.bl{y':World}(h:sR kr b2 lb w w1 m s1 s2 s3 s4 Z q c S y)(hb:Below y.heap.size y y'):sR kr b2 lb w w1 m s1 s2 s3 s4 Z q (c+1) (sset S i) y':=⟨h.toDt.ex (Ex.of_below hb),fun e=>((h.r (sJ e)).below hb).up (by omega),Nat.le_trans h.s hb.size⟩
theorem sR.nx{ops:Array Oper}(i:Nat)(hi:waits .any ops 6 i=true):Nx kr q ops (sR kr b2 lb w w1 m s1 s2 s3 s4 Z q) i:=
 ⟨fun c S y hY h=>h.r (by cases e:S 6;rfl;have:=hY.tr 6 i hi e;rw[hY.n]at this;cases this),fun c S y y' m _ h hr hm he=>⟨h.toDt.ex he,fun _=>hr.up (by omega),Nat.le_trans h.s he.size⟩⟩
end
def QU:List Nat:=[10,11,12,13,14,15,100006,3]
def Kq(Z kr b2:Nat)(m:aj)(s1 s2 s3 s4:Value)(y:World)(V:Nat->Value):Nat->Prop
 |0=>V 0=.agg (bY m.nm m.up m.ck m.kn m.se s1 s2 s3 s4)
 |1=>wQ 3 (Nm 0 5) Z 8 y (V 1)
 |2=>V 2=.pointer (some ⟨kr,0,none⟩)
 |3=>Nm 0 (8-1) (V 3)
 |4=>Gh 3 (Nm 0 5) Z y (V 4)
 |5=>Nm 0 5 (V 5)
 |6=>y.rangeAt b2 0 (dP m.nm m.up m.ck m.kn m.se s1 s2 s3 s4)
 |7=>Nm 0 5 (V 7)
 |_=>True
theorem Kq.keep{Z kr b2:Nat}{m:aj}{s1 s2 s3 s4:Value}{i:Nat}{y y':World}{V:Nat->Value}(hk:kr<Z)(hb2:b2<Z)(hn:b2≠kr)(hf:yG kr b2 i y y'):∀j,i≠j->Kq Z kr b2 m s1 s2 s3 s4 y V j->Kq Z kr b2 m s1 s2 s3 s4 y' V j:=by
 have hb:Fb 27 Z y y':=Or.inl (hf.fa hk hb2);intro j hne h
 match j,h with
 |0,h=>exact h
 |1,h=>exact wQ.keep h (by decide) hb
 |2,h=>exact h
 |3,h=>exact h
 |4,h=>exact Gh.keep h (by decide) hb
 |5,h=>exact h
 |6,h=>unfold yG at hf;rw[if_neg hne]at hf;exact iA h hf (World.block_lt_of_cell? y _ (h 0 _ rfl)) hn
 |7,h=>exact h
 |_+8,h=>exact h
theorem zR(a:Option Addr)(n cap:Nat)(zs:List Int)(w:World)(hc:ie w a n zs)(hn:n<=1048576)(hcap:n<=cap):
  Calls prog 4 #[.slice a n cap] w fun e w'=>∃(m:aj)(x1 x2 x3 x4:Option Addr)(n1 n2 n3 n4:Nat)(rate:Int),e=.returned (.tuple #[.agg (bK m x1 x2 x3 x4 n1 n2 n3 n4),.int .i64 rate])/\gx w' m x1 x2 x3 x4 n1 n2 n3 n4/\m.fq/\Below w.heap.size w w':=by
 have hinfo:(prog.info? 27).map (·.size)=some 9:=by kernel_rfl
 have BF:=ah hc;clear hc;go_enter func4,ntmps4
 go_wp2_with fail
 obtain⟨W1,hW1⟩:∃W1,W1=w.alloc (.cells iU 27):=⟨_,rfl⟩
 have B1:Below w.heap.size w W1:=by rw[hW1];exact ae bR _
 have T1:W1.there w.heap.size 0 9:=by rw[hW1];exact ny w _
 have z1:W1.heap.size=w.heap.size+1:=by rw[hW1];simp
 rw[<-hW1];refine(EH a n cap zs W1 (BF.out.I0 B1) hn hcap).mono ?_;rintro e w1 ⟨rfl,hr1,hb1⟩;obtain⟨kr,hkr⟩:∃kr,kr=W1.heap.size:=⟨_,rfl⟩
 rw[<-hkr]at hr1 ⊢;have hk1:=hr1.lt;have B2:Below w.heap.size w w1:=af B1 hb1;have T3:=bd T1 (by omega) hb1;have HR1:=ah hr1;have HT:Hid (Below w.heap.size w w1/\w1.there w.heap.size 0 9):=⟨B2,T3⟩
 have QV:w.heap.size<kr:=by omega
 have TS:w.heap.size<w1.heap.size:=by omega
 clear BF B1 hb1 T1 hW1 hr1 B2 T3 hkr z1;go_wp2_with fail
 refine(Kp kr 0 w1 HR1.out (by omega)).mono ?_;rintro e w2 ⟨m,x1,x2,x3,x4,n1,n2,n3,n4,rfl,hl,hcw,hF,hr2,he2⟩;have HF:=ah hF;obtain⟨lb,hlb⟩:∃lb,lb=w2.heap.size:=⟨_,rfl⟩
 have hBl:w1.heap.size<=lb:=by rw[hlb];exact he2.size
 obtain⟨w3,hw3⟩:∃y,y=w2.alloc (.cells (bK m x1 x2 x3 x4 n1 n2 n3 n4) 27):=⟨_,rfl⟩
 have hb3:Below w2.heap.size w2 w3:=by rw[hw3];exact ae bR _
 have hz3:lb<w3.heap.size:=by rw[hw3,hlb];simp
 have D8:Hid (Dt kr w.heap.size lb w w1 m (ai x1 m.ws n1) (ai x2 m.rs n2) (ai x3 m.qs n3) (ai x4 m.gs n4) w3):=⟨by rw[hw3,hlb];exact fun j u hj=>by rw[<-hj];simp[go_sem],hl.keep hb3,bd (bh HT.out.2 (by omega) he2 (by omega)) (Nat.lt_of_lt_of_le TS he2.size) hb3,af (Ex.mono HT.out.1 he2 (by omega)) hb3,⟨Nat.le_refl _,QV,hk1,hBl,hz3⟩⟩
 have R8:Hid (Rq w3 kr 9000):=(hr2.below hb3).up (by omega);have HW3:Hid (w3=w2.alloc (.cells (bK m x1 x2 x3 x4 n1 n2 n3 n4) 27)/\lb=w2.heap.size):=⟨hw3,hlb⟩
 clear HR1 hl hF hr2 he2 HT hw3 hlb hb3;go_wp2_with fail
 rw[<-HW3.out.1,<-HW3.out.2];clear HW3;obtain⟨z1,z2,z3,z4,z5⟩:=D8.out.z;obtain⟨Z,hZ⟩:∃Z,Z=w3.heap.size:=⟨_,rfl⟩
 obtain⟨q6,TT⟩:∃q6:Int,q6=9000:=⟨_,rfl⟩
 rw[<-TT]at R8;have hD:∀i c S y,sR kr w.heap.size lb w w1 m (ai x1 m.ws n1) (ai x2 m.rs n2) (ai x3 m.qs n3) (ai x4 m.gs n4) Z q6 c S y->sR kr w.heap.size lb w w1 m (ai x1 m.ws n1) (ai x2 m.rs n2) (ai x3 m.qs n3) (ai x4 m.gs n4) Z q6 (c+1) (sset S i) y:=fun i c S y h=>h.up;have hnx:∀{ops:Array Oper} i,waits .any ops 6 i=true->Nx kr q6 ops (sR kr w.heap.size lb w w1 m (ai x1 m.ws n1) (ai x2 m.rs n2) (ai x3 m.qs n3) (ai x4 m.gs n4) Z q6) i:=fun i h=>sR.nx i h;have hZs:∀c S y,sR kr w.heap.size lb w w1 m (ai x1 m.ws n1) (ai x2 m.rs n2) (ai x3 m.qs n3) (ai x4 m.gs n4) Z q6 c S y->Z<=y.heap.size:=fun c S y h=>h.s;have Kr:∀i,i≠6->∀y,yG kr w.heap.size i y y:=fun i h y=>by unfold yG;rw[if_neg h];exact Ex.refl _ _
 have QW:∀i,i≠6->∀y y',Ex kr y y'->yG kr w.heap.size i y y':=fun i h y y' he=>by unfold yG;rw[if_neg h];exact he
 have hq1:q6+200*(QU.length:Int)<1000000:=by show q6+200*((8:Nat):Int)<1000000;omega
 refine wp_region_any (by kernel_rfl) ?_;refine zS QU (Kq Z kr w.heap.size m (ai x1 m.ws n1) (ai x2 m.rs n2) (ai x3 m.qs n3) (ai x4 m.gs n4)) (sR kr w.heap.size lb w w1 m (ai x1 m.ws n1) (ai x2 m.rs n2) (ai x3 m.qs n3) (ai x4 m.gs n4) Z q6) (yG kr w.heap.size) (by kernel_rfl) (fun i j y y' V S hne hY hj hf h=>Kq.keep (by omega) (by omega) (by omega) hf j hne h) ⟨D8.out.ex (Ex.of_below bD),fun _=>(R8.out.below bD).up (by omega),by rw[hZ];exact bD.size⟩ ?_ ?_
 ·
  intro i hi
  match i,hi with
  |0,_=>
   refine Ks (hD _) (Kr _ (by decide)) rfl rfl rfl fun x y c S yy g oo dd K hK=>?_;have o5:x.tmps[5]?.getD undef=.pointer (some ⟨lb,0,none⟩):=ak (oo.out 5 rfl);have k0:=eR dd.out.c 0 rfl;have k1:=eR dd.out.c 1 rfl;have k2:=eR dd.out.c 2 rfl;have k3:=eR dd.out.c 3 rfl;have k4:=eR dd.out.c 4 rfl;have k5:=eR dd.out.c 5 rfl;have k6:=eR dd.out.c 6 rfl;have k7:=eR dd.out.c 7 rfl;have k8:=eR dd.out.c 8 rfl;clear g oo dd yy
   go_simp
   exact hK.out _ rfl
  |1,_=>
   refine ct rfl rfl rfl fun x y c S hc yy g oo dd K hK=>?_;clear g oo
   go_simp
   have hb:Below y.heap.size y (y.alloc (.cells #[.int .i64 1,.int .i64 2,.int .i64 3,.int .i64 4,.int .i64 4,.int .i64 1,.int .i64 0,.int .i64 5] 3)):=ae bR _;exact hK.out _ _ ⟨_,rfl,hZs c S y dd.out,⟨_,_,wR y _⟩,fun j hj=>by obtain⟨u,h1,h2⟩:=Kt (C:=#[.int .i64 1,.int .i64 2,.int .i64 3,.int .i64 4,.int .i64 4,.int .i64 1,.int .i64 0,.int .i64 5]) (n:=8) (a:=0) (b:=5) (by kernel_rfl) j hj;exact⟨u,by rw[<-h1];simp[go_sem],h2⟩⟩ (dd.out.bl hb) (QW _ (by decide) _ _ (Ex.of_below hb))
  |2,_=>exact Ku (hD _) (Kr _ (by decide)) rfl rfl rfl rfl rfl rfl (fun _ _ e=>e)
  |3,_=>exact Gi (hnx _ rfl) 8 (by omega) (by omega) hq1 2 rfl rfl rfl rfl rfl rfl (fun _ _ h=>h) (QW _ (by decide)) (fun _ _ h=>h)
  |4,_=>exact Kv (hD _) (Kr _ (by decide)) 1 3 rfl rfl rfl rfl rfl rfl rfl rfl (fun _ _ h=>h) (fun _ _ h=>Gj h (by omega) (by omega)) (fun _ _ h=>h)
  |5,_=>exact Kw (hD _) (Kr _ (by decide)) 4 rfl rfl rfl rfl rfl rfl (fun _ _ h=>h) (fun _ _ h=>h)
  |6,_=>refine TV rfl rfl fun x y c S hc yy g oo dd K hK=>?_;have e1:x.tmps.getD 10 undef=_:=g.out 0 rfl;have e2:x.tmps.getD 2 undef=.pointer (some ⟨w.heap.size,0,none⟩):=oo.out 2 rfl;have ho:=ones m dd.out.l.a1 dd.out.l.a2 dd.out.l.a3 dd.out.l.a4;refine wp_store_mid 27 _ _ rfl w.heap.size 0 #[_,_,_,_,_,_,_,_,_] e2 e1 dd.out.b hinfo (by exact all_oneCell_toArray ho) ?_;refine hK.out _ (World.rangeAt_setCells_same y w.heap.size 0 _ dd.out.b) dd.out.ans ?_;show yG _ _ _ _ _;unfold yG;rw[if_pos rfl];exact(Ex.refl _ _).cells _ _
  |7,_=>
   refine Ks (hD _) (Kr _ (by decide)) rfl rfl rfl fun x y c S yy g oo dd K hK=>?_;obtain⟨z,e1,h1,h2⟩:=g.out 5 rfl;have e1:x.tmps[15]?.getD undef=_:=ak e1;clear g oo dd yy
   go_simp
   exact hK.out _ ⟨z,rfl,h1,h2⟩
  |_+8,h=>exact absurd h (by show ¬(_<8);omega)
 ·
  intro a9 y c hdf hsz hout hgood hc hE;have r2:y.rangeAt w.heap.size 0 (kg m x1 x2 x3 x4 n1 n2 n3 n4):=hgood 6 (by decide);obtain⟨rate,e8,-,-⟩:=(hgood 7 (by decide):Nm 0 5 (a9.tmps.getD 3 undef))
  have c0:=eR r2 0 rfl;have c1:=eR r2 1 rfl;have c2:=eR r2 2 rfl;have c3:=eR r2 3 rfl;have c4:=eR r2 4 rfl;have c5:=eR r2 5 rfl;have c6:=eR r2 6 rfl;have c7:=eR r2 7 rfl;have c8:=eR r2 8 rfl;have mG:=ah hE.toDt;clear hE r2 D8 R8;obtain⟨f,ha,hf,hf2⟩:=CM 3 1 10 6 hdf hsz hout rfl;have f0:f 0=_:=(hf 0 (by omega)).trans e8;clear hf hf2 hout hgood hdf hsz;subst ha;rw[show(List.range 1).map f=[f 0] from rfl,show(List.range 6).map (fun k=>f (1+k))=[f 1,f 2,f 3,f 4,f 5,f 6] from rfl,f0];simp only[Ep,Nat.reduceAdd];clear f0 e8;go_wp2_with fail
  exact bodyPost_ret (v:=.tuple #[.agg (bK m x1 x2 x3 x4 n1 n2 n3 n4),.int .i64 rate]) (by simp[results,results4,go_sem,c0,c1,c2,c3,c4,c5,c6,c7,c8]) rfl ⟨m,x1,x2,x3,x4,n1,n2,n3,n4,rate,rfl,⟨mG.out.l.a1.src,mG.out.l.a2.src,mG.out.l.a3.src,mG.out.l.a4.src,hcw⟩,HF.out,mG.out.e⟩
theorem CN(w:World)(t:TypeId):(w.alloc (.cells (cw 0 ⟨#[]⟩ 0 (.slice none 0 0) ⟨#[]⟩ ⟨#[]⟩ 0) t)).there w.heap.size 0 7:=
 fun j hj=>⟨by simp[go_sem];omega,by simp[go_sem]⟩
theorem pK{y:World}{X:Nat}(h:y.there X 0 7):X<y.heap.size:=World.block_lt_of_cell? y _ (Option.get_mem (h 0 (by omega)).1)
theorem W.Sl.Oz{w:World}{v:Value}{l:List W.ay}{B B':Nat}(h:W.Sl w v l B)(hB:B'<=B):W.Sl w v l B':=by
 rcases h with h|⟨g,cap,h0,h1,h2,h3,h4⟩;·exact Or.inl h
 exact Or.inr ⟨g,cap,h0,Nat.le_trans hB h1,h2,h3,h4⟩
theorem wS(a:Option Addr)(n cap:Nat)(zs:List Int)(w:World)(hc:ie w a n zs)(hn:n<=1048576)(hcap:n<=cap):
  Calls prog 13 #[.slice a n cap] w fun e w'=>∃(m:aj)(x1 x2 x3 x4:Option Addr)(n1 n2 n3 n4:Nat)(p:bI)(x5:Option Addr)(n5:Nat),e=.returned (.tuple #[.agg (bK m x1 x2 x3 x4 n1 n2 n3 n4),.agg (cw p.k p.b p.s (ai x5 p.ws n5) p.h p.c p.t)])/\gx w' m x1 x2 x3 x4 n1 n2 n3 n4/\m.fq/\W.Src w' x5 n5 p.ws/\p.ws.length<=n5/\p.fits/\Below w.heap.size w w':=by
 have hinfo:(prog.info? 27).map (·.size)=some 9:=by kernel_rfl
 have Kx:(prog.info? 43).map (·.size)=some 7:=by kernel_rfl
 have BF:=ah hc;clear hc;go_enter func13,ntmps13
 go_wp2_with fail
 obtain⟨W1,hW1⟩:∃W1,W1=(w.alloc (.cells iU 27)).alloc (.cells (cw 0 ⟨#[]⟩ 0 (.slice none 0 0) ⟨#[]⟩ ⟨#[]⟩ 0) 43):=⟨_,rfl⟩
 have B1:Below w.heap.size w W1:=by rw[hW1];exact ae (ae bR _) _
 have T1:W1.there w.heap.size 0 9/\W1.there (w.heap.size+1) 0 7:=by rw[hW1];exact⟨bd (ny w _) (by simp) (ae bR _),by have:=CN (w.alloc (.cells iU 27)) 43;rwa [World.size_alloc]at this⟩
 have z1:W1.heap.size=w.heap.size+2:=by rw[hW1];simp
 rw[<-hW1];refine(EH a n cap zs W1 (BF.out.I0 B1) hn hcap).mono ?_;rintro e w1 ⟨rfl,hr1,hb1⟩;obtain⟨kr,hkr⟩:∃kr,kr=W1.heap.size:=⟨_,rfl⟩
 rw[<-hkr]at hr1 ⊢;have hk1:=hr1.lt;have B2:Below w.heap.size w w1:=af B1 hb1;have HR1:=ah hr1;have HT:Hid (Below w.heap.size w w1/\w1.there w.heap.size 0 9/\w1.there (w.heap.size+1) 0 7):=⟨B2,bd T1.1 (by omega) hb1,bd T1.2 (by omega) hb1⟩
 have QV:w.heap.size+1<kr:=by omega
 clear BF B1 hb1 T1 hW1 hr1 B2 hkr z1;go_wp2_with fail
 refine(Kp kr 0 w1 HR1.out (by omega)).mono ?_;rintro e w2 ⟨m,x1,x2,x3,x4,n1,n2,n3,n4,rfl,hl,hcw,hF,hr2,he2⟩;have HF:=ah hF;obtain⟨lb,hlb⟩:∃lb,lb=w2.heap.size:=⟨_,rfl⟩
 have hBl:w1.heap.size<=lb:=by rw[hlb];exact he2.size
 obtain⟨w3,hw3⟩:∃y,y=w2.alloc (.cells (bK m x1 x2 x3 x4 n1 n2 n3 n4) 27):=⟨_,rfl⟩
 have hb3:Below w2.heap.size w2 w3:=by rw[hw3];exact ae bR _
 have hz3:lb<w3.heap.size:=by rw[hw3,hlb];simp
 have D8:Hid (Dt kr w.heap.size lb w w1 m (ai x1 m.ws n1) (ai x2 m.rs n2) (ai x3 m.qs n3) (ai x4 m.gs n4) w3):=⟨by rw[hw3,hlb];exact fun j u hj=>by rw[<-hj];simp[go_sem],hl.keep hb3,bd (bh HT.out.2.1 (by omega) he2 (by omega)) (by omega) hb3,af (Ex.mono HT.out.1 he2 (by omega)) hb3,⟨Nat.le_refl _,by omega,hk1,hBl,hz3⟩⟩
 have T8:Hid (w3.there (w.heap.size+1) 0 7):=bd (bh HT.out.2.2 (by omega) he2 (by omega)) (by omega) hb3;have R8:Hid (Rq w3 kr 9000):=(hr2.below hb3).up (by omega);have HW3:Hid (w3=w2.alloc (.cells (bK m x1 x2 x3 x4 n1 n2 n3 n4) 27)/\lb=w2.heap.size):=⟨hw3,hlb⟩
 clear HR1 hl hF hr2 he2 HT hw3 hlb hb3;go_wp2_with fail
 rw[<-HW3.out.1,<-HW3.out.2];clear HW3;obtain⟨z1,z2,z3,z4,z5⟩:=D8.out.z;have KC:Hid (∀y,Dt kr w.heap.size lb w w1 m (ai x1 m.ws n1) (ai x2 m.rs n2) (ai x3 m.qs n3) (ai x4 m.gs n4) y->BN y lb m.nm m.up m.ck m.kn m.se (ai x1 m.ws n1) (ai x2 m.rs n2) (ai x3 m.qs n3) (ai x4 m.gs n4)):=fun y h=>⟨eR h.c 0 rfl,eR h.c 1 rfl,eR h.c 2 rfl,eR h.c 3 rfl,eR h.c 4 rfl,eR h.c 5 rfl,eR h.c 6 rfl,eR h.c 7 rfl,eR h.c 8 rfl⟩
 have hd:Ex kr w3 w3.drew:=Ex.of_below bD;refine wp_region_noPanic ?_;refine wp_region_held_drew (S:=fun y=>BN y lb m.nm m.up m.ck m.kn m.se (ai x1 m.ws n1) (ai x2 m.rs n2) (ai x3 m.qs n3) (ai x4 m.gs n4)) (by kernel_rfl) (KC.out _ (D8.out.ex hd)) (fun hHeld=>?_);refine aF 0 ?_;refine aF 1 ?_;try simp only[sp]
 refine aF 2 ?_;try simp only[sp]
 refine dJ 3 (by kernel_rfl) rfl fun K hK=>?_
 go_simp
 refine(BW kr _ m x1 x2 x3 x4 n1 n2 n3 n4 w1.heap.size _ (R8.out.below bD) (by omega) (D8.out.ex hd).l z3 HF.out).mono ?_;rintro e y4 ⟨p,x5,n5,rfl,hp,hpc,hpf,r4,e4⟩;have hx4:Ex kr w3 y4:=hd.trans e4;have D9:=ah (D8.out.ex hx4);have T9:Hid (y4.there (w.heap.size+1) 0 7):=bh T8.out (pK T8.out) hx4 (by omega);have P9:Hid (W.Sl y4 (ai x5 p.ws n5) p.ws (w.heap.size+2)):=hp.Oz (by have:=(au (Below.refl w3.heap.size w3)).size;omega);clear r4 e4 hp;go_wp2_with fail
 refine hK.out _ _ (KC.out _ D9.out) (fun hH1=>?_);clear hK K hHeld;try simp only[sp]
 have ho:=ones m D9.out.l.a1 D9.out.l.a2 D9.out.l.a3 D9.out.l.a4;refine dJ 4 (by kernel_rfl) rfl fun K hK=>?_;refine bF (by rfl) ?_;refine wp_store_mid 27 _ _ (by rfl) w.heap.size 0 (bK m x1 x2 x3 x4 n1 n2 n3 n4) (by rfl) (by rfl) (by exact D9.out.b) hinfo (by exact all_oneCell_toArray ho) ?_;obtain⟨y5,Ky⟩:∃y,y=y4.setCells w.heap.size 0 (kg m x1 x2 x3 x4 n1 n2 n3 n4):=⟨_,rfl⟩
 have e5:Ex w.heap.size y4 y5:=by rw[Ky];exact(Ex.refl _ _).cells _ _
 have uw:Hid (Dt kr w.heap.size lb w w1 m (ai x1 m.ws n1) (ai x2 m.rs n2) (ai x3 m.qs n3) (ai x4 m.gs n4) y5):=by show Dt _ _ _ _ _ _ _ _ _ _ _;rw[Ky];exact D9.out.ans
 have yF:Hid (y5.rangeAt w.heap.size 0 (kg m x1 x2 x3 x4 n1 n2 n3 n4)):=by rw[Ky];exact World.rangeAt_setCells_same y4 w.heap.size 0 _ D9.out.b
 have yV:Hid (y5.there (w.heap.size+1) 0 7):=bh T9.out (pK T9.out) e5 (by omega);have OA:Hid (W.Sl y5 (ai x5 p.ws n5) p.ws (w.heap.size+2)):=P9.out.grown (W.av e5) (eV (fun k hk e=>by have h1:=(P9.out.lt k e).1;cases hk;omega));rw[<-Ky];refine hK.out _ _ (KC.out _ uw.out) (fun hH2=>?_);clear hK K hH1 hH2 Ky e5 D9 T9 P9;try simp only[sp]
 have hS5:=KC.out _ uw.out;refine dJ 5 (by kernel_rfl) rfl fun K hK=>?_;refine bF (by rfl) ?_;refine wp_store_mid 43 _ _ (by rfl) (w.heap.size+1) 0 (cw p.k p.b p.s (ai x5 p.ws n5) p.h p.c p.t) (by rfl) (by rfl) (by exact yV.out) Kx (by simp[Value.oneCell']) ?_;have hG:=World.rangeAt_setCells_same y5 (w.heap.size+1) 0 (II p.k p.b p.s (ai x5 p.ws n5) p.h p.c p.t) yV.out;have e6:Ex (w.heap.size+1) y5 (y5.setCells (w.heap.size+1) 0 (II p.k p.b p.s (ai x5 p.ws n5) p.h p.c p.t)):=(Ex.refl _ _).cells _ _;generalize y5.setCells (w.heap.size+1) 0 (II p.k p.b p.s (ai x5 p.ws n5) p.h p.c p.t)=y6 at hG e6 ⊢;have z6:=uw.out.z.2.2.2.2;refine hK.out _ _ ⟨(exc e6 lb 0 z6 (by omega)).trans hS5.1,(exc e6 lb 1 z6 (by omega)).trans hS5.2.1,(exc e6 lb 2 z6 (by omega)).trans hS5.2.2.1,(exc e6 lb 3 z6 (by omega)).trans hS5.2.2.2.1,(exc e6 lb 4 z6 (by omega)).trans hS5.2.2.2.2.1,(exc e6 lb 5 z6 (by omega)).trans hS5.2.2.2.2.2.1,(exc e6 lb 6 z6 (by omega)).trans hS5.2.2.2.2.2.2.1,(exc e6 lb 7 z6 (by omega)).trans hS5.2.2.2.2.2.2.2.1,(exc e6 lb 8 z6 (by omega)).trans hS5.2.2.2.2.2.2.2.2⟩ (fun hH3=>?_);clear hK K hH3 hS5;try simp only[sp]
 refine wpAnyH_done (by kernel_rfl) ?_ _;refine NoPanic.normal ?_;have BG:=iA yF.out e6 (by omega) (by omega);have MP:=uw.out.l.ex e6 (by omega);have TW:=OA.out.grown (W.av e6) (eV (fun k hk e=>by have h1:=(OA.out.lt k e).1;cases hk;omega));have B11:=Ex.mono uw.out.e e6 (by omega);have c0:=eR BG 0 rfl;have c1:=eR BG 1 rfl;have c2:=eR BG 2 rfl;have c3:=eR BG 3 rfl;have c4:=eR BG 4 rfl;have c5:=eR BG 5 rfl;have c6:=eR BG 6 rfl;have c7:=eR BG 7 rfl;have c8:=eR BG 8 rfl;have d0:=eR hG 0 rfl;have d1:=eR hG 1 rfl;have d2:=eR hG 2 rfl;have d3:=eR hG 3 rfl;have d4:=eR hG 4 rfl;have d5:=eR hG 5 rfl;have d6:=eR hG 6 rfl;clear BG hG e6 uw yF yV OA;go_wp2_with fail
 exact bodyPost_ret (v:=.tuple #[.agg (bK m x1 x2 x3 x4 n1 n2 n3 n4),.agg (cw p.k p.b p.s (ai x5 p.ws n5) p.h p.c p.t)]) (by simp[results,results13,go_sem,c0,c1,c2,c3,c4,c5,c6,c7,c8,d0,d1,d2,d3,d4,d5,d6]) rfl ⟨m,x1,x2,x3,x4,n1,n2,n3,n4,p,x5,n5,rfl,⟨MP.a1.src,MP.a2.src,MP.a3.src,MP.a4.src,hcw⟩,HF.out,TW.src,hpc,hpf,B11⟩
end Go.Proofs.YtlfnpjcjapljpaaGreatDoor
