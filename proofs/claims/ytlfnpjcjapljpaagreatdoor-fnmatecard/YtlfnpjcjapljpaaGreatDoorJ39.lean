import Derived.Test.YtlfnpjcjapljpaaGreatDoorJ35
import Derived.Test.YtlfnpjcjapljpaaGreatDoorJ31
import Derived.Test.YtlfnpjcjapljpaaGreatDoorJ21
namespace Go.Proofs.YtlfnpjcjapljpaaGreatDoor
open Go.Maps Go.Proofs.Tryz Go.RowKit Go.WideMaps
set_option maxRecDepth 4000
set_option maxHeartbeats 4000000
set_option linter.unusedVariables false
def fP(nm:ByteArray)(ck:Int)(ws:List W.ay)(D:WD)(k:Nat):WD:=
 let st:=(D.rs.take k).foldl (dF nm ck ws D.gs) (D.qs,[])
 {D with qs:=st.1,cs:=D.cs++st.2}
theorem tN(nm:ByteArray)(ck:Int)(ws:List W.ay)(D:WD):fP nm ck ws D 0=D:=by simp[fP]
theorem jF(nm:ByteArray)(ck:Int)(ws:List W.ay)(D:WD):fP nm ck ws D D.rs.length={D with qs:=(dC nm ck ws D.gs D.rs D.qs).1,cs:=D.cs++(dC nm ck ws D.gs D.rs D.qs).2}:=by simp[fP,dC]
theorem lp{nm:ByteArray}{ck:Int}{ws:List W.ay}{gs:List A.aC}:∀(rs:List aw)(st:Mm),(rs.foldl (dF nm ck ws gs) st).2.length<=st.2.length+rs.length
 |[],st=>Nat.le_refl _
 |r::rs,st=>by
  rw[List.foldl_cons];have h1:=lp (nm:=nm) (ck:=ck) (ws:=ws) (gs:=gs) rs (dF nm ck ws gs st r);have h2:(dF nm ck ws gs st r).2.length<=st.2.length+1:=by unfold dF;split<;>simp
  rw[List.length_cons];omega
theorem jE{nm:ByteArray}{ck:Int}{ws:List W.ay}{D:WD}(h:cQ ck D)(h0:0<=ck)(h1:ck<=1000000)(hq:D.qs.length<=20)(hc:D.cs.length<=100)(k:Nat):cQ ck (fP nm ck ws D k)/\(fP nm ck ws D k).qs.length<=D.qs.length+k/\(fP nm ck ws D k).cs.length<=D.cs.length+k:=by
 obtain⟨a1,-,a3⟩:=su (nm:=nm) (ws:=ws) (gs:=D.gs) h0 h1 (D.rs.take k) (D.qs,[]) (fun r hr=>h.rp.1 r (List.mem_of_mem_take hr)) h.qg (fun c hc=>by cases hc);have a4:=lp (nm:=nm) (ck:=ck) (ws:=ws) (gs:=D.gs) (D.rs.take k) (D.qs,[]);have hk:(D.rs.take k).length<=k:=by rw[List.length_take];omega
 have hk2:(D.rs.take k).length<=20:=by rw[List.length_take];have:=h.ln;omega
 simp only[List.length_nil]at a3 a4;have e1:(fP nm ck ws D k).qs.length<=D.qs.length+(D.rs.take k).length:=a3;have e2:(fP nm ck ws D k).cs.length<=D.cs.length+(D.rs.take k).length:=by show(D.cs++_).length<=_;rw[List.length_append];omega
 exact⟨⟨h.rp,a1,h.ln,by omega,by omega⟩,by omega,by omega⟩
theorem wn{nm:ByteArray}{ck:Int}{ws:List W.ay}{D:WD}{k:Nat}{r:aw}(hr:D.rs[k]?=some r)(hb:ib ck ws D.gs (fP nm ck ws D k).qs r=true):
  fP nm ck ws D (k+1)={fP nm ck ws D k with qs:=Ord.cJ A.aM ⟨r.h,r.c,dH ck (fP nm ck ws D k).qs r.h r.c,ck⟩ (fP nm ck ws D k).qs,cs:=(fP nm ck ws D k).cs++[eB nm 2 0 r.h r.c ck]}:=by
 unfold fP at hb ⊢;rw[eG _ _ hr];generalize (D.rs.take k).foldl (dF nm ck ws D.gs) (D.qs,[])=st at hb ⊢;unfold dF;rw[if_pos hb];simp only[List.append_assoc];rfl
theorem vC{nm:ByteArray}{ck:Int}{ws:List W.ay}{D:WD}{k:Nat}{r:aw}(hr:D.rs[k]?=some r)(hb:ib ck ws D.gs (fP nm ck ws D k).qs r=false):fP nm ck ws D (k+1)=fP nm ck ws D k:=by unfold fP at hb ⊢;rw[eG _ _ hr];generalize (D.rs.take k).foldl (dF nm ck ws D.gs) (D.qs,[])=st at hb ⊢;unfold dF;rw[if_neg (by rw[hb];simp)]
theorem lJ{r:aw}{q:W.ay}(h:pY r q=true):q.h=r.h/\q.c=r.c:=by have:=(same_iff q ⟨r.c,r.h,r.v,r.p,r.s,r.d,r.g⟩).1 h;rw[this];exact⟨rfl,rfl⟩
theorem yC{a:A.aC}{l:List A.aC}(h:l.length<40):oG a l=Ord.cJ A.aM a l:=by unfold oG gQ;rw[if_pos (by simp[h])]
theorem oK{E:WE}{N:Nat}{D:WD}{v:Value}{x:World}{ck:Int}{kn:Bool}{se:Int}(h:Wk E N D v x)(hN:N<=1800000)(hG:cQ ck D)(hE:DN E ck kn se)(h0:0<=ck)(h1:ck<=1000000)(IQ:D.qs.length<=20)(hcl:D.cs.length<=100):
  Calls prog 77 #[.pointer (some ⟨E.d,0,none⟩),(.func (.func 25) #[] #[.pointer (some ⟨E.mb,0,none⟩),.pointer (some ⟨E.sb,0,none⟩)])] x fun e y=>e=.returned (.tuple #[])/\∃v',Wk E (N+D.rs.length) {D with qs:=(dC E.nm ck E.ws D.gs D.rs D.qs).1,cs:=D.cs++(dC E.nm ck E.ws D.gs D.rs D.qs).2} v' y:=by
 have kc:x.cell? ⟨E.d,10,none⟩=some (.map (some E.m2)):=(h.dk.c 10).trans hE.c10;have H0:=ah h;have HG:=ah hG;have CE:=ah hE;have hod:=h.od;have hxd:=h.dk.l;have Qh:Hid (∀g,v.ownBlock=some g->g<x.heap.size):=fun g hg=>((Pc.Sl.bE h.ow).lt g hg).2;obtain⟨n2,hn2,o2⟩:=h.dk.o2;have O2:=ah o2;clear h hG hE o2;have hrl:=HG.out.ln;go_enter func77,ntmps77
 go_wp2_with fail
 refine(eX fB dY E.m2 n2 D.rs x O2.out HG.out.ok.s2 (fun r hr=>(HG.out.ok.f2 r hr).1) (by omega)).mono ?_;rintro e x1 ⟨⟨s,rfl,hs⟩,c1⟩;have H1:=ah (H0.out.keep c1);obtain⟨a,c,rfl⟩:=Sl.shape hs;have HS:=ah hs;clear hs c1 kc;go_wp2_with fail
 go_loopw [14] (fun i wx=>∃(k:Nat),k<=D.rs.length/\i=.int .i64 k/\∃v',Hid (Wk E (N+k) (fP E.nm ck E.ws D k) v' wx)/\Hid (Sx E v v' x1 wx)) (fun i _=>D.rs.length-(intOf i).toNat)
 case atStart=>exact⟨0,Nat.zero_le _,rfl,v,by rw[tN];exact H1.out,Sx.oJ (Off.refl _ _)⟩
 case round=>
  obtain⟨k,hk,rfl,v',HW,HX⟩:=hrel;by_cases hlt:k<D.rs.length
  ·
   obtain⟨r,hr⟩:∃r,D.rs[k]?=some r:=⟨D.rs[k],List.getElem?_eq_getElem hlt⟩
   have Hr:=ah hr;have i1:(k:Int)<(D.rs.length:Int):=(by omega);have vB:=ah (HG.out.rp.1 r (List.mem_of_getElem? hr));rcases HS.out with⟨-,h⟩|⟨g,cap,h,hg1,hg2,hR,-⟩;·rw[h]at hr;simp at hr
   injection h with e1 e2 e3;subst e1 e3;have hgv:¬(g<=E.d\/v.ownBlock=some g):=fun hp=>by
    rcases hp with hp|hp;·omega
    have:=Qh.out g hp;omega
   have hR2:=aG.off hR hg2 HX.out.1 hgv;have hg3:g<wr.heap.size:=Nat.lt_of_lt_of_le hg2 HX.out.1.size;obtain⟨c0,c1,c2,c3,c4,c5,c6,c7,c8,c9,c10⟩:=hR2.at hr;simp only[Nat.zero_add]at c0 c1 c2 c3 c4 c5 c6 c7 c8 c9 c10;have hcz:r.c.size<=maxLen:=(dN vB.out).1;have hhz:r.h.size<=maxLen:=(dN vB.out).2.1;have hwd:=HW.out.dk.l;have hvw:Hid (∀g,v'.ownBlock=some g->g<wr.heap.size):=fun g hg=>((Pc.Sl.bE HW.out.ow).lt g hg).2;obtain⟨g1,g2,g3⟩:=jE (nm:=E.nm) (ws:=E.ws) HG.out h0 h1 IQ hcl k;have yL:=ah g1;have VA:=ah g2;have SN:Hid ((fP E.nm ck E.ws D k).cs.length<=120):=(by show _<=_;omega);obtain⟨q,hq⟩:∃q,wz (cI E.ws r.c)=q:=⟨_,rfl⟩
   obtain⟨b,hb⟩:∃b,(cI E.ws r.c).isSome=b:=⟨_,rfl⟩
   have HQ:=ah hq;have HB:=ah hb;have K3:Hid (∀y,Below (wr.alloc (.cells (aL r.c r.v r.h r.p r.s r.d r.g r.a r.b r.i r.u) 39)).heap.size (wr.alloc (.cells (aL r.c r.v r.h r.p r.s r.d r.g r.a r.b r.i r.u) 39)) y->y.cell? ⟨E.d,9,none⟩=some (.map (some E.m1))/\y.cell? ⟨wr.heap.size,0,none⟩=some (.string r.c)/\Sem.run prog (Instr.lookup 102 (.map (some E.m1)) (.string r.c) true) y=.ok (.tuple #[.agg (aX q.c q.v q.h q.p q.s q.d q.g),.bool b]) y):=fun y hy=>by have hw2:=(HW.out.keep (ae bR _)).keep hy;exact⟨(hw2.dk.c 9).trans CE.out.c9,by rw[aJ hy 0];simp[go_sem],hw2.want HQ.out HB.out hcz⟩
   clear hr hq hb hR hR2 g1 g2 g3
   go_upto_region 3 with(fail)
   go_cut [6,7] (fun v6 v7 wx=>∃b6,v6=.pointer (some ⟨b6,0,none⟩)/\v7=.bool b/\Hid (wx.rangeAt b6 0 (iT q.c q.v q.h q.p q.s q.d q.g))/\b6<wx.heap.size/\wr.heap.size<b6/\Hid (Below (wr.alloc (.cells (aL r.c r.v r.h r.p r.s r.d r.g r.a r.b r.i r.u) 39)).heap.size (wr.alloc (.cells (aL r.c r.v r.h r.p r.s r.d r.g r.a r.b r.i r.u) 39)) wx))
   case first=>
    refine wp_region_noPanic ?_;refine wp_region_held_drew (S:=fun y=>y.cell? ⟨E.d,9,none⟩=some (.map (some E.m1))/\y.cell? ⟨wr.heap.size,0,none⟩=some (.string r.c)/\Sem.run prog (Instr.lookup 102 (.map (some E.m1)) (.string r.c) true) y=.ok (.tuple #[.agg (aX q.c q.v q.h q.p q.s q.d q.g),.bool b]) y) (by kernel_rfl) (K3.out _ bD) (fun hHeld=>?_);refine aF 0 ?_;refine aF 1 ?_;try simp only[sp]
    refine aF 2 ?_;refine aF 3 ?_;try simp only[sp]
    refine aF 4 ?_;refine aF 5 ?_;try simp only[sp]
    refine aF 6 ?_;refine aF 7 ?_;try simp only[sp]
    refine aF 8 ?_;refine aF 9 ?_;try simp only[sp]
    refine aF 10 ?_;try simp only[sp]
    refine dJ 11 (by kernel_rfl) rfl fun K hK=>?_
    go_simp
    refine hK.out _ _ (K3.out _ (ae bD _)) (fun hH1=>?_);clear hK K;try simp only[sp]
    refine dJ 12 (by kernel_rfl) rfl fun K hK=>?_
    go_simp
    refine hK.out _ _ (K3.out _ (au (ae bR _))) (fun hH2=>?_);clear hK K;try simp only[sp]
    refine aF 13 ?_;try simp only[sp]
    refine wpAnyH_done (by kernel_rfl) ?_ _;refine NoPanic.normal ?_;clear hH1 hH2;go_wp2_with fail
    go_meet
    exact⟨_,rfl,rfl,by show World.rangeAt _ _ _ _;rw[show wr.heap.size+1=(wr.alloc (.cells (aL r.c r.v r.h r.p r.s r.d r.g r.a r.b r.i r.u) 39)).heap.size from by simp];exact hU rfl (wD _),by simp,by omega,au (ae bR _)⟩
   rename World=>w4
   obtain⟨b6,rfl,rfl,R6,l6,hb6,yJ⟩:=hcut;have My:Hid (Below wr.heap.size wr w4):=af (ae bR _) yJ.out;have H4:=ah (HW.out.keep My.out);have SP:Hid (¬(b6<=E.d\/v'.ownBlock=some b6)):=fun hp=>by
    rcases hp with hp|hp;·omega
    have:=hvw.out b6 hp;omega
   obtain⟨ab,hab⟩:∃ab,ib ck E.ws D.gs (fP E.nm ck E.ws D k).qs r=ab:=⟨_,rfl⟩
   have Mz:=ah hab;have kq:∀j u,((iT q.c q.v q.h q.p q.s q.d q.g):List Value)[j]?=some u->w4.cell? ⟨b6,j,none⟩=some u:=fun j u hj=>by have:=R6.out j u hj;rw[Nat.zero_add]at this;exact this
   have RP:=kq 0 _ rfl;have RQ:=kq 1 _ rfl;have RR:=kq 2 _ rfl;have RS:=kq 3 _ rfl;have RX:=kq 4 _ rfl;have RY:=kq 5 _ rfl;have RZ:=kq 6 _ rfl;have kr:∀j,w4.cell? ⟨wr.heap.size,j,none⟩=((aL r.c r.v r.h r.p r.s r.d r.g r.a r.b r.i r.u):Array Value)[j]?:=fun j=>by rw[aJ yJ.out j];simp[go_sem]
   have ML:w4.cell? ⟨wr.heap.size,0,none⟩=some (.string r.c):=kr 0;have PW:w4.cell? ⟨wr.heap.size,1,none⟩=some (.int .i64 r.v):=kr 1;have PX:w4.cell? ⟨wr.heap.size,2,none⟩=some (.string r.h):=kr 2;have PY:w4.cell? ⟨wr.heap.size,3,none⟩=some (.int .i64 r.p):=kr 3;have VB:w4.cell? ⟨wr.heap.size,4,none⟩=some (.int .i64 r.s):=kr 4;have VC:w4.cell? ⟨wr.heap.size,5,none⟩=some (.int .i64 r.d):=kr 5;have VD:w4.cell? ⟨wr.heap.size,6,none⟩=some (.int .i64 r.g):=kr 6;clear K3 c0 c1 c2 c3 c4 c5 c6 c7 c8 c9 c10 kq kr
   go_upto_region 4 with(fail)
   go_cut [40] (fun vv wx=>vv=.bool ab/\Hid (Below w4.heap.size w4 wx))
   case first=>
    have hib:=gj E.ws r;rw[HQ.out,HB.out]at hib;cases b
    ·
     have e:ab=false:=(by rw[<-hab];unfold ib;rw[hib];rfl);subst e;clear hab hib;go_wp2_with fail
     go_meet
     exact⟨rfl,Below.refl _ _⟩
    cases hsm:pY r q
    ·
     have hne:∀y,Sem.run prog (binOp .eql 37 (.agg (aX q.c q.v q.h q.p q.s q.d q.g)) (.agg (aX r.c r.v r.h r.p r.s r.d r.g))) y=.ok (.bool false) y:=fun y=>by have:=iJ r.c r.h q.c q.h r.v r.p r.s r.d r.g q.v q.p q.s q.d q.g y;rw[show fL r.c r.h q.c q.h r.v r.p r.s r.d r.g q.v q.p q.s q.d q.g=false from hsm]at this;exact this
     have e:ab=false:=(by rw[<-hab];unfold ib;rw[hib,hsm];rfl);subst e;clear hab hib;go_wp2_with fail
     go_meet
     exact⟨rfl,Below.refl _ _⟩
    have hne:∀y,Sem.run prog (binOp .eql 37 (.agg (aX q.c q.v q.h q.p q.s q.d q.g)) (.agg (aX r.c r.v r.h r.p r.s r.d r.g))) y=.ok (.bool true) y:=fun y=>by have:=iJ r.c r.h q.c q.h r.v r.p r.s r.d r.g q.v q.p q.s q.d q.g y;rw[show fL r.c r.h q.c q.h r.v r.p r.s r.d r.g q.v q.p q.s q.d q.g=true from hsm]at this;exact this
    obtain⟨e1,e2⟩:=lJ hsm;have e:ab=uo ck (fP E.nm ck E.ws D k).gs (fP E.nm ck E.ws D k).qs q.h q.c:=(by rw[<-hab];unfold ib uo;rw[hib,hsm,e1,e2];rfl);have HE:=ah e;have NA:Hid q.fits:=⟨by rw[e2];exact hcz,by rw[e1];exact hhz⟩
    clear hab hib e e1 e2;go_wp2_with fail
    refine(uq H4.out yL.out CE.out h0 h1 q NA.out).mono ?_;rintro e y ⟨rfl,c5⟩;go_wp2_with fail
    go_meet
    exact⟨by rw[HE.out],c5⟩
   rename World=>w5
   obtain⟨rfl,AU⟩:=hcut;have H5:=ah (H4.out.keep AU.out);have Fc:=ah (af My.out AU.out);have R5:=ah (ft R6.out l6 AU.out);have l5:b6<w5.heap.size:=Nat.lt_of_lt_of_le l6 AU.out.size;have KX:Hid (∀(M:Nat)(D':WD)(v2:Value)(v3:Value) y,Wk E M D' v3 y->Sx E v' v2 w5 y->y.cell? ⟨b6,2,none⟩=some (.string q.h)/\y.cell? ⟨b6,0,none⟩=some (.string q.c)/\y.cell? ⟨E.d,2,none⟩=some (.int .i64 ck)):=fun M D' v2 v3 y hy ho=>by
    have e:∀j u,((iT q.c q.v q.h q.p q.s q.d q.g):List Value)[j]?=some u->y.cell? ⟨b6,j,none⟩=some u:=fun j u hj=>by have:=R5.out j u hj;rw[Nat.zero_add]at this;rw[ho.1.cell (p:=⟨b6,j,none⟩) l5 SP.out];exact this
    exact⟨e 2 _ rfl,e 0 _ rfl,(hy.dk.c 2).trans CE.out.c2⟩
   clear hab RP RQ RR RS RX RY RZ ML PW PX PY VB VC VD;cases ab
   ·
    have HST:=ah (vC Hr.out Mz.out);go_wp2_with fail
    exact⟨⟨k+1,by omega,by go_num,v',by rw[HST.out];exact H5.out.more (by omega),HX.out.trans (Sx.oJ (Off.of_below Fc.out)) (fun _ _=>trivial)⟩,by simp[intOf];omega⟩
   have SQ:=ah Mz.out;have hsm:pY r q=true:=(by have h1:=SQ.out;unfold ib at h1;rw[gj,HQ.out,HB.out]at h1;simp only[Bool.and_eq_true]at h1;exact h1.1.2);obtain⟨e1,e2⟩:=lJ hsm;have LH:=ah e1;have HE2:=ah e2;have NA:Hid q.fits:=⟨by rw[e2];exact hcz,by rw[e1];exact hhz⟩
   have hqz:=NA.out.2;clear hsm e1 e2;have K5:Hid (∀y,Below w5.heap.size w5 y->y.cell? ⟨b6,2,none⟩=some (.string q.h)/\y.cell? ⟨b6,0,none⟩=some (.string q.c)/\y.cell? ⟨E.d,2,none⟩=some (.int .i64 ck)):=fun y hy=>⟨by have:=ft R5.out l5 hy 2 _ rfl;rw[Nat.zero_add]at this;exact this,by have:=ft R5.out l5 hy 0 _ rfl;rw[Nat.zero_add]at this;exact this,((H5.out.keep hy).dk.c 2).trans CE.out.c2⟩
   have Em:Hid (Wk E (N+k) (fP E.nm ck E.ws D k) v' (World.drew w5)):=H5.out.keep bD
   go_upto_region 5 with(fail)
   go_cut [] (fun wx=>∃v2,Hid (Wk E (N+k) {(fP E.nm ck E.ws D k)with cs:=(fP E.nm ck E.ws D k).cs++[eB E.nm 2 0 q.h q.c ck]} v2 wx)/\Hid (Sx E v' v2 w5 wx))
   case first=>
    refine wp_region_noPanic ?_;refine wp_region_held_drew (S:=fun y=>y.cell? ⟨b6,2,none⟩=some (.string q.h)/\y.cell? ⟨b6,0,none⟩=some (.string q.c)/\y.cell? ⟨E.d,2,none⟩=some (.int .i64 ck)) (by kernel_rfl) (K5.out _ bD) (fun hHeld=>?_);refine aF 0 ?_;refine aF 1 ?_;try simp only[sp]
    refine aF 2 ?_;refine aF 3 ?_;try simp only[sp]
    refine aF 4 ?_;refine aF 5 ?_;try simp only[sp]
    refine aF 6 ?_;refine aF 7 ?_;try simp only[sp]
    refine aF 8 ?_;refine aF 9 ?_;try simp only[sp]
    refine aF 10 ?_;try simp only[sp]
    refine dJ 11 (by kernel_rfl) rfl fun K hK=>?_
    go_simp
    refine(lP Em.out (by have:=SN.out;omega) 2 0 q.h q.c ck).mono ?_;rintro e y6 ⟨rfl,v2,h6,x6⟩;have X6:Hid (Sx E v' v2 w5 y6):=(Sx.oJ (Off.of_below bD)).trans x6 (fun _ _=>trivial);have H6:=ah h6;clear h6 x6;go_wp2_with fail
    refine hK.out _ _ (KX.out _ _ _ _ _ H6.out X6.out) (fun hH1=>?_);clear hK K;try simp only[sp]
    refine wpAnyH_done (by kernel_rfl) ?_ _;refine NoPanic.normal ?_;clear hH1;go_wp2_with fail
    go_meet
    exact⟨v2,H6.out,X6.out⟩
   rename World=>w6
   obtain⟨v2,H6,X6⟩:=hcut;have Mq:Hid (cQ ck {(fP E.nm ck E.ws D k)with cs:=(fP E.nm ck E.ws D k).cs++[eB E.nm 2 0 q.h q.c ck]}):=⟨yL.out.rp,yL.out.qg,yL.out.ln,yL.out.lq,by show((fP E.nm ck E.ws D k).cs++_).length<=200;rw[List.length_append];have:=SN.out;simp;omega⟩
   have Qi:Hid (Wk E (N+k) {(fP E.nm ck E.ws D k)with cs:=(fP E.nm ck E.ws D k).cs++[eB E.nm 2 0 q.h q.c ck]} v2 (World.drew w6)):=H6.out.keep bD;have K6:Hid (∀(M:Nat)(D':WD) y,Wk E M D' v2 y->Up E w6 y->y.cell? ⟨E.d,11,none⟩=some (.map (some E.m3))/\yE y b6 q.c q.v q.h q.p q.s q.d q.g):=fun M D' y hy ho=>by
    have hb6:b6<w6.heap.size:=Nat.lt_of_lt_of_le l5 X6.out.1.size;have e:∀j u,((iT q.c q.v q.h q.p q.s q.d q.g):List Value)[j]?=some u->y.cell? ⟨b6,j,none⟩=some u:=fun j u hj=>by have:=R5.out j u hj;rw[Nat.zero_add]at this;rw[ho.cell (p:=⟨b6,j,none⟩) hb6 (by show ¬b6<=E.d;omega),X6.out.1.cell (p:=⟨b6,j,none⟩) l5 (SP.out)];exact this
    exact⟨(hy.dk.c 11).trans CE.out.c11,e 0 _ rfl,e 1 _ rfl,e 2 _ rfl,e 3 _ rfl,e 4 _ rfl,e 5 _ rfl,e 6 _ rfl⟩
   go_upto_region 6 with(fail)
   refine wp_region_noPanic ?_;refine wp_region_held_drew (S:=fun y=>y.cell? ⟨E.d,11,none⟩=some (.map (some E.m3))/\yE y b6 q.c q.v q.h q.p q.s q.d q.g) (by kernel_rfl) (K6.out _ _ _ Qi.out (Off.of_below bD)) (fun hHeld=>?_);refine aF 0 ?_;refine aF 1 ?_;try simp only[sp]
   refine aF 2 ?_;refine aF 3 ?_;try simp only[sp]
   refine aF 4 ?_;refine aF 5 ?_;try simp only[sp]
   refine dJ 6 (by kernel_rfl) rfl fun K hK=>?_
   go_simp
   refine(uu Qi.out Mq.out CE.out q NA.out).mono ?_;rintro e y7 ⟨rfl,c7⟩;have H7:Hid (Wk E (N+k) {(fP E.nm ck E.ws D k)with cs:=(fP E.nm ck E.ws D k).cs++[eB E.nm 2 0 q.h q.c ck]} v2 y7):=Qi.out.keep c7;have U7:Hid (Up E w6 y7):=(Off.of_below bD).trans (Off.of_below c7);clear c7;go_wp2_with fail
   refine hK.out _ _ (K6.out _ _ _ H7.out U7.out) (fun hH1=>?_);clear hK K;try simp only[sp]
   refine dJ 7 (by kernel_rfl) rfl fun K hK=>?_
   go_simp
   refine(yv H7.out (by omega) Mq.out.qg.s3 (by have:=Mq.out.lq;omega) ⟨q.h,q.c,dH ck (fP E.nm ck E.ws D k).qs q.h q.c,ck⟩ hqz).mono ?_;rintro e y8 ⟨rfl,h8,u8⟩;have H8:Hid (Wk E (N+(k+1)) (fP E.nm ck E.ws D (k+1)) v2 y8):=(by show Wk _ _ _ _ _;rw[wn Hr.out SQ.out];have h9:=h8;rw[yC (by have:=VA.out;show(fP E.nm ck E.ws D k).qs.length<40;omega),LH.out,HE2.out]at h9;exact h9);have U8:=ah (U7.out.trans u8);clear h8 u8;go_wp2_with fail
   refine hK.out _ _ (K6.out _ _ _ H8.out U8.out) (fun hH2=>?_);clear hK K;try simp only[sp]
   refine wpAnyH_done (by kernel_rfl) ?_ _;refine NoPanic.normal ?_;clear hH1 hH2;go_wp2_with fail
   exact⟨⟨k+1,by omega,by go_num,v2,H8.out,((HX.out.trans (Sx.oJ (Off.of_below Fc.out)) (fun _ _=>trivial)).trans X6.out (fun _ _=>trivial)).trans (Sx.oJ U8.out) (fun _ _=>trivial)⟩,by simp[intOf];omega⟩
  have e:k=D.rs.length:=by omega
  subst e;go_wp2
  exact bodyPost_end (v:=.tuple #[]) (by simp[results,results77,go_sem]) rfl ⟨rfl,v',by have:=HW.out;rw[jF]at this;exact this⟩
def Ml(ck:Int)(m:aj)(rs:List aw):WD:=⟨(gG ck m rs).1.rs,(gG ck m rs).1.qs,(gG ck m rs).1.gs,(gG ck m rs).2⟩
def eC(ck:Int)(m:aj)(rs:List aw):WD:=⟨fx m (bS ck m rs).1,(bS ck m rs).2.1,(bS ck m rs).2.2,[]⟩
theorem tW{ck:Int}{m:aj}{rs:List aw}(K:Work ck m rs)(hq:m.qs.length<=20):cQ ck (eC ck m rs)/\(eC ck m rs).qs.length<=20:=
 ⟨⟨K.pl,K.qg,K.pn,by show(bS ck m rs).2.1.length<=100;have:=K.ql;omega,Nat.zero_le _⟩,Nat.le_trans K.ql hq⟩
theorem A9{E:WE}{N:Nat}{v:Value}{x:World}{ck:Int}{kn:Bool}{se:Int}(m:aj)(rs:List aw)(h:Wk E N ⟨rs,m.qs,m.gs,[]⟩ v x)(hN:N<=1100000)(hE:DN E ck kn se)(h0:0<=ck)(h1:ck<=1000000)
  (hws:E.ws=m.ws) (hnm:E.nm=m.nm) (hkn:kn=m.kn) (hse:se=m.se) (hok:∀q∈m.ws,q.ok=true) (hwl:m.ws.length<=10) (hG:cQ ck ⟨rs,m.qs,m.gs,[]⟩) (hK:Work ck m rs) (IQ:m.qs.length<=20):
  Calls prog 24 #[.pointer (some ⟨E.d,0,none⟩),(.func (.func 25) #[] #[.pointer (some ⟨E.mb,0,none⟩),.pointer (some ⟨E.sb,0,none⟩)])] x fun e y=>e=.returned (.tuple #[])/\∃v' N',Wk E N' (Ml ck m rs) v' y:=by
 have kc:x.cell? ⟨E.d,3,none⟩=some (.bool kn):=(h.dk.c 3).trans hE.c3;have H0:=ah h;have HG:=ah hG;have CE:=ah hE;have Du:=ah hws;have SS:=ah hnm;have Ii:=ah hkn;have SU:=ah hse;have HK:=ah hK;have vB:Hid (∀q∈E.ws,q.ok=true):=by show ∀q∈E.ws,_;rw[hws];exact hok
 obtain⟨ga,qa⟩:=tW hK IQ;have Fe:=ah ga;have NB:=ah qa;have hrl:=hG.ln;have hel:E.ws.length<=10:=by rw[hws];exact hwl
 have Xc:=ah hK.pn;clear h hG hE hws hnm hkn hse hK hok ga qa;cases kn
 ·
  have HA:Hid (Wk E N (eC ck m rs) v x):=by show Wk _ _ _ _ _;have hk:=Ii.out;unfold eC fx bS;rw[if_neg (by rw[<-hk];simp),if_neg (by rw[<-hk];simp)];exact H0.out
  go_enter func24,ntmps24
  go_wp2_with fail
  refine(oK HA.out (by omega) Fe.out CE.out h0 h1 NB.out (Nat.zero_le _)).mono ?_;rintro e y3 ⟨rfl,v3,h3⟩;have e3:=jF E.nm ck E.ws (eC ck m rs);obtain⟨g1,-,g3⟩:=jE (nm:=E.nm) (ws:=E.ws) Fe.out h0 h1 NB.out (Nat.zero_le _) (eC ck m rs).rs.length;rw[e3]at g1 g3;have Qj:Hid (cQ ck {eC ck m rs with qs:=(dC E.nm ck E.ws (eC ck m rs).gs (eC ck m rs).rs (eC ck m rs).qs).1,cs:=(eC ck m rs).cs++(dC E.nm ck E.ws (eC ck m rs).gs (eC ck m rs).rs (eC ck m rs).qs).2}):=g1;have Qk:Hid (((eC ck m rs).cs++(dC E.nm ck E.ws (eC ck m rs).gs (eC ck m rs).rs (eC ck m rs).qs).2).length<=20):=by show _<=_;have h8:=Fe.out.ln;have h9:(eC ck m rs).cs.length=0:=rfl;have g4:((eC ck m rs).cs++(dC E.nm ck E.ws (eC ck m rs).gs (eC ck m rs).rs (eC ck m rs).qs).2).length<=(eC ck m rs).cs.length+(eC ck m rs).rs.length:=g3;omega
  have IA:=ah Fe.out.qg.l4;have H3:Hid (Wk E _ {eC ck m rs with qs:=(dC E.nm ck E.ws (eC ck m rs).gs (eC ck m rs).rs (eC ck m rs).qs).1,cs:=(eC ck m rs).cs++(dC E.nm ck E.ws (eC ck m rs).gs (eC ck m rs).rs (eC ck m rs).qs).2} v3 y3):=h3;clear e3 g1 g3 h3;go_wp2_with fail
  refine(lQ H3.out Qj.out CE.out).mono ?_;rintro e y4 ⟨rfl,v4,h4⟩;have H4:=ah h4;have kd:=(h4.dk.c 4).trans CE.out.c4;clear h4;go_wp2_with fail
  refine(lP H4.out (by show((_++_)++List.map _ _).length<=1000;rw[List.length_append,List.length_map];have:=Qk.out;have:=IA.out;omega) 6 se ⟨#[]⟩ ⟨#[]⟩ 0).mono ?_;rintro e y5 ⟨rfl,v5,h5,-⟩;obtain⟨M5,h8⟩:∃M,Wk E M (Ml ck m rs) v5 y5:=by have h6:=h5;rw[SS.out]at h6;have hse:=SU.out;rw[hse,Du.out]at h6;exact⟨_,h6⟩
  have H5:=ah h8;clear h5 kd h8;go_wp2
  exact bodyPost_end (v:=.tuple #[]) (by simp[results,results24,go_sem]) rfl ⟨rfl,v5,_,H5.out⟩
 ·
  go_enter func24,ntmps24
  go_wp2_with fail
  refine(vL H0.out (by omega) HG.out CE.out).mono ?_;rintro e y1 ⟨rfl,g1⟩;have hlv:(⟨(dr ck E.ws rs (m.qs,m.gs)).1,(dr ck E.ws rs (m.qs,m.gs)).2.1,(dr ck E.ws rs (m.qs,m.gs)).2.2,[]⟩:WD)=⟨(bS ck m rs).1,(bS ck m rs).2.1,(bS ck m rs).2.2,[]⟩:=by have hk:=Ii.out;unfold bS;rw[if_pos hk.symm,Du.out]
  have Pq:Hid (cQ ck ⟨(bS ck m rs).1,(bS ck m rs).2.1,(bS ck m rs).2.2,[]⟩):=⟨HK.out.lv,HK.out.qg,HK.out.ll,by show(bS ck m rs).2.1.length<=100;have:=HK.out.ql;omega,Nat.zero_le _⟩
  have g2:Wk E (N+3*rs.length) ⟨(bS ck m rs).1,(bS ck m rs).2.1,(bS ck m rs).2.2,[]⟩ v y1:=by rw[<-hlv];exact g1
  have H1:=ah g2;clear g1 g2 hlv kc;go_wp2_with fail
  refine(oI H1.out (by omega) Pq.out CE.out vB.out).mono ?_;rintro e y2 ⟨rfl,g2⟩;have HA:Hid (Wk E (N+3*rs.length+E.ws.length) (eC ck m rs) v y2):=by show Wk _ _ _ _ _;have hk:=Ii.out;have h9:=g2;rw[Du.out]at h9;unfold eC fx;rw[if_pos hk.symm,Du.out];exact h9
  clear g2;go_wp2_with fail
  refine(oK HA.out (by omega) Fe.out CE.out h0 h1 NB.out (Nat.zero_le _)).mono ?_;rintro e y3 ⟨rfl,v3,h3⟩;have e3:=jF E.nm ck E.ws (eC ck m rs);obtain⟨g1,-,g3⟩:=jE (nm:=E.nm) (ws:=E.ws) Fe.out h0 h1 NB.out (Nat.zero_le _) (eC ck m rs).rs.length;rw[e3]at g1 g3;have Qj:Hid (cQ ck {eC ck m rs with qs:=(dC E.nm ck E.ws (eC ck m rs).gs (eC ck m rs).rs (eC ck m rs).qs).1,cs:=(eC ck m rs).cs++(dC E.nm ck E.ws (eC ck m rs).gs (eC ck m rs).rs (eC ck m rs).qs).2}):=g1;have Qk:Hid (((eC ck m rs).cs++(dC E.nm ck E.ws (eC ck m rs).gs (eC ck m rs).rs (eC ck m rs).qs).2).length<=20):=by show _<=_;have h8:=Fe.out.ln;have h9:(eC ck m rs).cs.length=0:=rfl;have g4:((eC ck m rs).cs++(dC E.nm ck E.ws (eC ck m rs).gs (eC ck m rs).rs (eC ck m rs).qs).2).length<=(eC ck m rs).cs.length+(eC ck m rs).rs.length:=g3;omega
  have IA:=ah Fe.out.qg.l4;have H3:Hid (Wk E _ {eC ck m rs with qs:=(dC E.nm ck E.ws (eC ck m rs).gs (eC ck m rs).rs (eC ck m rs).qs).1,cs:=(eC ck m rs).cs++(dC E.nm ck E.ws (eC ck m rs).gs (eC ck m rs).rs (eC ck m rs).qs).2} v3 y3):=h3;clear e3 g1 g3 h3;go_wp2_with fail
  refine(lQ H3.out Qj.out CE.out).mono ?_;rintro e y4 ⟨rfl,v4,h4⟩;have H4:=ah h4;have kd:=(h4.dk.c 4).trans CE.out.c4;clear h4;go_wp2_with fail
  refine(lP H4.out (by show((_++_)++List.map _ _).length<=1000;rw[List.length_append,List.length_map];have:=Qk.out;have:=IA.out;omega) 6 se ⟨#[]⟩ ⟨#[]⟩ 0).mono ?_;rintro e y5 ⟨rfl,v5,h5,-⟩;obtain⟨M5,h8⟩:∃M,Wk E M (Ml ck m rs) v5 y5:=by have h6:=h5;rw[SS.out]at h6;have hse:=SU.out;rw[hse,Du.out]at h6;exact⟨_,h6⟩
  have H5:=ah h8;clear h5 kd h8;go_wp2
  exact bodyPost_end (v:=.tuple #[]) (by simp[results,results24,go_sem]) rfl ⟨rfl,v5,_,H5.out⟩
theorem vF(a:Option Addr)(c:Nat)(clock:Int)(w:World):
  Calls prog 22 #[.slice a 0 c,.int .i64 clock] w fun e w'=>(∃v,e=.returned v/\Sl w' v [] w.heap.size)/\Below w.heap.size w w':=by
 obtain⟨C,hC,hmk⟩:=lV 0 (Nat.zero_le _);have hmk:∀w:World,Sem.run prog (Instr.makeSlice 24 (.int .i64 0) (.int .i64 0)) w=.ok (.slice (some ⟨w.heap.size,0,none⟩) 0 0) (w.alloc (.cells C 39)):=hmk;go_enter func22,ntmps22
 go_wp2
 refine wp_loop_rounds 1 ?_;rw[rounds_succ];go_wp2
 go_ret
 exact⟨⟨_,rfl,Or.inr ⟨w.heap.size,0,rfl,Nat.le_refl _,by simp,fun k r h=>by simp at h,fun j hj=>absurd hj (Nat.not_lt_zero _)⟩⟩,ae bR _⟩
theorem yj(a:Option Addr)(c:Nat)(rs:List aw)(clock:Int)(w:World)(h:Src w a c rs)(hl:rs.length<=1048576):
  Calls prog 22 #[.slice a rs.length c,.int .i64 clock] w fun e w'=>(∃v,e=.returned v/\Sl w' v (rs.map (bN clock)) w.heap.size)/\Below w.heap.size w w':=by
 rcases h with⟨rfl,rfl,rfl⟩|⟨g,rfl,hg,hr⟩;·exact vF none 0 clock w
 ·
  refine(yk g 0 c rs clock w hr hg hl).mono ?_;rintro e w' ⟨rfl,h1,h2,h3,h4⟩;exact⟨⟨_,rfl,Or.inr ⟨w.heap.size,rs.length,by rw[List.length_map],Nat.le_refl _,h3,h1,by rw[List.length_map];exact h2⟩⟩,h4⟩
theorem yl{q:W.ay}(h:q.ok=true):q.fits:=qi h
theorem kJ{m:aj}(h:Valid m):m.fits:=by have h1:=h.1;simp only[cV,Bool.and_eq_true]at h1;have hP:=(cv m.ck m.rs).1 h.2.2.1.2;have l1:=h.2.1.1.1;have l2:=h.2.2.1.1;have l3:=h.2.2.2.1.1.1;have l4:=h.2.2.2.1.2.1;exact⟨jR h1.1,fun r hr=>yl (jk h r hr),fun r hr=>dN (hP.1 r hr),fun r hr=>lL (h.2.2.2.1.1.2.2 r hr),fun r hr=>lL (h.2.2.2.1.2.2.2 r hr),by omega,by omega,by omega,by omega⟩
theorem tU{m:aj}{rate:Int}(h:cA rate 1 4=false):eS m rate=(m,[]):=by unfold eS;rw[if_pos h]
theorem qe{m:aj}{rate:Int}(h:cA rate 1 4=true)(h2:1000000<m.ck+rate):eS m rate=({fQ true m with ck:=1000000},[]):=by unfold eS;rw[if_neg (by rw[h];simp),if_pos h2]
theorem qf{m:aj}{rate:Int}(h:cA rate 1 4=true)(h2:¬1000000<m.ck+rate)(h3:m.up=false):eS m rate=({m with ck:=m.ck+rate,rs:=m.rs.map (bN (m.ck+rate))},[]):=by unfold eS;rw[if_neg (by rw[h];simp),if_neg h2,if_pos h3]
theorem wu{m:aj}{rate:Int}(h:cA rate 1 4=true)(h2:¬1000000<m.ck+rate)(h3:m.up=true):eS m rate=gG (m.ck+rate) m (m.rs.map (bN (m.ck+rate))):=by unfold eS;rw[if_neg (by rw[h];simp),if_neg h2,if_neg (by rw[h3];simp)]
theorem oB(m:aj)(ck:Int)(a2:Option Addr)(n2 p2:Nat):∀u∈((dP m.nm false ck false 0 (.slice none 0 0) (.slice a2 n2 p2) (.slice none 0 0) (.slice none 0 0)):List Value),u.oneCell'=true:=by intro u hu;simp only[List.mem_cons,List.not_mem_nil,or_false]at hu;rcases hu with rfl|rfl|rfl|rfl|rfl|rfl|rfl|rfl|rfl<;>rfl
theorem yi(m:aj)(x1 x2 x3 x4:Option Addr)(n1 n2 n3 n4:Nat)(w:World)(hL:gx w m x1 x2 x3 x4 n1 n2 n3 n4)(hf:m.fits):
  Calls prog 21 #[.agg (bK m x1 x2 x3 x4 n1 n2 n3 n4)] w fun e w'=>(∃a p,e=.returned (.agg #[.string m.nm,.bool false,.int .i64 1000000,.bool false,.int .i64 0,.slice none 0 0,.slice a (cx true m.rs).length p,.slice none 0 0,.slice none 0 0])/\Sl w' (.slice a (cx true m.rs).length p) (cx true m.rs) w.heap.size)/\Below w.heap.size w w':=by
 have S0:=ah (ic m x1 x2 x3 x4 n1 n2 n3 n4 w);have hinfo:(prog.info? 27).map (·.size)=some 9:=by kernel_rfl
 go_enter func21,ntmps21
 go_wp2_with fail
 refine(CO true m x1 x2 x3 x4 n1 n2 n3 n4 _ (hL.keep S0.out.e) hf).mono ?_;rintro e w1 ⟨⟨s,rfl,hs⟩,c1⟩;have S1:=ah (S0.out.below c1);obtain⟨fr,hfr⟩:∃fr,fr=cx true m.rs:=⟨_,rfl⟩
 rw[<-hfr]at hs;have Nt:=ah hfr;obtain⟨a2,p2,rfl⟩:=Sl.shape hs;have HS:=ah hs;have T1:=ah (S1.out.box rfl);have S2:Hid (Sc w (dP m.nm false m.ck false 0 (.slice none 0 0) (ai a2 fr p2) (.slice none 0 0) (.slice none 0 0)).toArray (w1.setCells w.heap.size 0 (dP m.nm false m.ck false 0 (.slice none 0 0) (ai a2 fr p2) (.slice none 0 0) (.slice none 0 0)))):=S1.out.all rfl _ rfl;have S3:Hid (Sc w (bY m.nm false 1000000 false 0 (.slice none 0 0) (ai a2 fr p2) (.slice none 0 0) (.slice none 0 0)) ((w1.setCells w.heap.size 0 (dP m.nm false m.ck false 0 (.slice none 0 0) (ai a2 fr p2) (.slice none 0 0) (.slice none 0 0))).setCell ⟨w.heap.size,2,none⟩ (.int .i64 1000000))):=S2.out.set 2 (by simp) _;have hz1:=S1.out.f;clear hs c1 hfr;have E2:Hid (Ex w.heap.size w1 (w1.setCells w.heap.size 0 (dP m.nm false m.ck false 0 (.slice none 0 0) (ai a2 fr p2) (.slice none 0 0) (.slice none 0 0)))):=(Ex.refl _ _).cells _ _;obtain⟨W2,hW2⟩:∃W2,W2=w1.setCells w.heap.size 0 (dP m.nm false m.ck false 0 (.slice none 0 0) (ai a2 fr p2) (.slice none 0 0) (.slice none 0 0)):=⟨_,rfl⟩
 go_wp2_with (first|(refine wpList_store_mid (by rfl) 27 _ _ (by rfl) w.heap.size 0 (bY m.nm false m.ck false 0 (.slice none 0 0) (ai a2 fr p2) (.slice none 0 0) (.slice none 0 0)) (by rfl) (by rfl) (by exact T1.out) hinfo (by exact all_oneCell_toArray (oB m m.ck a2 fr.length p2)) ?_;rw[<-hW2]at S2 S3 E2 ⊢;have kb:=S2.out.b;have kf:=S2.out.c;clear hW2)|(refine wpList_store_mid (by rfl) 27 _ _ (by rfl) (w.heap.size+1) 0 (bY m.nm false 1000000 false 0 (.slice none 0 0) (ai a2 fr p2) (.slice none 0 0) (.slice none 0 0)) (by rfl) (by rfl) (by exact S3.out.d) hinfo (by exact all_oneCell_toArray (oB m 1000000 a2 fr.length p2)) ?_))
 have hrg:=World.rangeAt_setCells_same (W2.setCell ⟨w.heap.size,2,none⟩ (.int .i64 1000000)) (w.heap.size+1) 0 (dP m.nm false 1000000 false 0 (.slice none 0 0) (ai a2 fr p2) (.slice none 0 0) (.slice none 0 0)) S3.out.d;obtain⟨d0,d1,d2,d3,d4,d5,d6,d7,d8⟩:=d9 hrg;have hE:Ex w.heap.size w1 (W2.setCell ⟨w.heap.size,2,none⟩ (.int .i64 1000000)):=E2.out.trans ((Ex.refl _ _).set 2 _);have hE2:Ex (w.heap.size+1) (W2.setCell ⟨w.heap.size,2,none⟩ (.int .i64 1000000)) ((W2.setCell ⟨w.heap.size,2,none⟩ (.int .i64 1000000)).setCells (w.heap.size+1) 0 (dP m.nm false 1000000 false 0 (.slice none 0 0) (ai a2 fr p2) (.slice none 0 0) (.slice none 0 0))):=(Ex.refl _ _).cells _ _;refine bodyPost_ret (v:=.agg (bY m.nm false 1000000 false 0 (.slice none 0 0) (ai a2 fr p2) (.slice none 0 0) (.slice none 0 0))) (by simp[results,results21,go_sem,d0,d1,d2,d3,d4,d5,d6,d7,d8]) rfl ⟨⟨a2,p2,by rw[Nt.out],?_⟩,S3.out.put _⟩;rw[<-Nt.out];have Ss:∀{k:Nat},k<w.heap.size+1+1->(Value.slice a2 fr.length p2).ownBlock=none\/(Value.slice a2 fr.length p2).ownBlock≠some k:=fun hk=>bC (N:=w.heap.size+1) (fun g hg=>by have h1:=(HS.out.lt g hg).1;simp at h1;omega) (by omega);exact Sl.low ((HS.out.grown (av hE) (Ss (by omega))).grown (av hE2) (Ss (by omega))) (by simp;omega)
end Go.Proofs.YtlfnpjcjapljpaaGreatDoor
namespace Go.Proofs.YtlfnpjcjapljpaaGreatDoor
open Go.RowKit
set_option linter.unusedVariables false
theorem Ao{m:aj}{rate:Int}(h:Valid m):(eS m rate).2.length<=100:=by
 have hP:=(cv m.ck m.rs).1 h.2.2.1.2;unfold eS;split
 ·simp
 rename_i hr;have hr':1<=rate/\rate<=4:=by simp only[Bool.not_eq_false,cA,Bool.and_eq_true,decide_eq_true_eq]at hr;exact hr
 split
 ·simp
 split
 ·simp
 have hW:dV (m.ck+rate) (m.rs.map (bN (m.ck+rate))):=nL hP;have hk:=mV h (ck:=m.ck+rate) (by omega) hW (by rw[List.length_map];exact h.2.2.1.1);have h1:=lp (nm:=m.nm) (ck:=m.ck+rate) (ws:=m.ws) (gs:=(bS (m.ck+rate) m (m.rs.map (bN (m.ck+rate)))).2.2) (fx m (bS (m.ck+rate) m (m.rs.map (bN (m.ck+rate)))).1) ((bS (m.ck+rate) m (m.rs.map (bN (m.ck+rate)))).2.1,[]);have h2:=hk.pn;have h3:=hk.qg.l4;unfold gG dC;simp only[List.length_append,List.length_map,List.length_cons,List.length_nil]at h1 ⊢;omega
structure Ul(m r:aj)(out:List Pc.bP):Prop where
 l:Lens r
 b:∀c∈out,Bare c
 n:out.length<=100
 no:¬Valid m->r=ju/\out=[]
 v:Valid m->Valid r/\r.fits/\(∀c∈out,kH m.nm c)/\m.ck<=r.ck
theorem Ac{m r:aj}{k:Int}{out:List Pc.bP}(h:tC m k r out)(hq:m.qs.length<=20):Ul m r out:=by
 rcases h with⟨hv,e⟩|⟨hv,rfl,rfl⟩
 ·
  have e1:r=(eS m k).1:=congrArg Prod.fst e;have e2:out=(eS m k).2:=congrArg Prod.snd e;obtain⟨h1,h2,h3⟩:=nM (rate:=k) hv hq;have h4:=Ao (rate:=k) hv;rw[<-e1]at h1 h3;rw[<-e2]at h2 h4;have hf:=kJ h1;exact⟨⟨hf.k1,hf.k2,hf.k3,hf.k4⟩,fun c hc=>⟨(h2 c hc).2.1,(h2 c hc).2.2.1,(h2 c hc).2.2.2.1⟩,h4,fun h=>absurd hv h,fun _=>⟨h1,hf,h2,h3⟩⟩
 exact⟨⟨Nat.zero_le _,Nat.zero_le _,Nat.zero_le _,Nat.zero_le _⟩,(fun c hc=>by cases hc),Nat.zero_le _,fun _=>⟨rfl,rfl⟩,fun h=>absurd h hv⟩
theorem Af{m r:aj}{p:bI}(h:Takes m p r)(hf:m.fits)(hp:p.fits):r.fits/\(Valid m->Valid r):=by
 rcases h with⟨hv,rfl⟩|⟨hv,rfl⟩;·exact⟨kJ (nN hv),fun _=>nN hv⟩
 exact⟨⟨by show(0:Nat)<=_;omega,(fun x hx=>by cases hx),(fun x hx=>by cases hx),(fun x hx=>by cases hx),(fun x hx=>by cases hx),Nat.zero_le _,Nat.zero_le _,Nat.zero_le _,Nat.zero_le _⟩,fun h=>absurd h hv⟩
theorem dI.GA{w:World}{m:aj}{a1 a2 a3 a4:Option Addr}{p1 p2 p3 p4 B:Nat}(h:dI w m (ai a1 m.ws p1) (ai a2 m.rs p2) (ai a3 m.qs p3) (ai a4 m.gs p4) B)(hc:gU (ai a1 m.ws p1)):gx w m a1 a2 a3 a4 p1 p2 p3 p4:=
 ⟨h.a1.src,h.a2.src,h.a3.src,h.a4.src,hc _ _ _ rfl⟩
open Go.Maps Go.Proofs.Tryz Go.WideMaps
structure Lv(w:World)(P:Array Value)(q g:Value)(D:WD)(v:Value)(x:World):Prop where
 sc:Sc w ((P.push q).push g) x
 oq:A.Ow x q D.qs 0
 og:A.Ow x g D.gs 0
 ov:Ow x v D.rs (w.heap.size+2)
 nq:∀j,q.ownBlock=some j->j≠w.heap.size/\j≠w.heap.size+1
 ng:∀j,g.ownBlock=some j->j≠w.heap.size/\j≠w.heap.size+1
 dq:eh q v
 dg:eh g v
 p7:P.size=7
theorem LI{P:Array Value}(h:P.size=7){q g q':Value}:((P.push q).push g).setIfInBounds 7 q'=(P.push q').push g:=by
 obtain⟨l⟩:=P;have h:l.length=7:=h
 match l,h with
 |[_,_,_,_,_,_,_],_=>rfl
theorem Pl{P:Array Value}(h:P.size=7){q g g':Value}:((P.push q).push g).setIfInBounds 8 g'=(P.push q).push g':=by
 obtain⟨l⟩:=P;have h:l.length=7:=h
 match l,h with
 |[_,_,_,_,_,_,_],_=>rfl
section
variable {w x y:World} {P:Array Value} {q g v v':Value} {D:WD}
theorem Lv.keep(h:Lv w P q g D v x)(hb:Below x.heap.size x y):Lv w P q g D v y:=
 ⟨h.sc.below hb,h.oq.keep hb,h.og.keep hb,h.ov.keep hb,h.nq,h.ng,h.dq,h.dg,h.p7⟩
theorem Lv.lt(h:Lv w P q g D v x):w.heap.size+1<x.heap.size:=h.sc.f
theorem AL{O:Array Value}{R:Nat->Prop}(h:Sc w O x)(ho:Off R x y)(h0:¬R w.heap.size)(h1:¬R (w.heap.size+1))(hb:∀j,R j->w.heap.size<=j):Sc w O y:=by
 have hf:=h.f;refine⟨fun k=>(ho.cell (p:=⟨w.heap.size,k,none⟩) (by show w.heap.size<_;omega) h0).trans (h.b k),fun k=>?_,fun j hj=>?_,h.e.trans (ho.below hb h.e.size),Nat.lt_of_lt_of_le hf ho.size⟩;·rw[World.frozen?_of_block (w:=x) (a:=⟨w.heap.size,k,none⟩) (ho.block w.heap.size (by omega) h0)];exact h.c k
 have e1:=ho.cell (p:=⟨w.heap.size+1,0+j,none⟩) hf h1;have e2:y.frozen? ⟨w.heap.size+1,0+j,none⟩=x.frozen? ⟨w.heap.size+1,0+j,none⟩:=World.frozen?_of_block (w:=x) (a:=⟨w.heap.size+1,0+j,none⟩) (ho.block (w.heap.size+1) hf h1);exact⟨by rw[e1];exact(h.d j hj).1,by rw[e2];exact(h.d j hj).2⟩
theorem Lv.row(h:Lv w P q g D v x){rs:List aw}(hg:x.grownBy y v.ownBlock)(ho:Ow y v' rs (w.heap.size+2))(hat:v'.ownBlock=v.ownBlock\/v'.ownBlock=some x.heap.size):Lv w P q g {D with rs:=rs} v' y:=by
 have hv:=h.ov.lt;have hne:∀j,j<w.heap.size+2->¬v.ownBlock=some j:=fun j hj e=>by have:=(hv j e).1;omega
 have dn:∀{s:Value}{l:List A.aC},A.Ow x s l 0->eh s v->eh s v':=fun {s l} hs hd=>by
  rcases hat with e|e
  ·
   rcases hd with h'|h';·exact Or.inl h'
   exact Or.inr (by rw[e];exact h')
  cases hsb:s.ownBlock with
  |none=>exact Or.inl hsb
  |some j=>exact Or.inr (by rw[hsb,e];intro e';have:=(hs.lt j hsb).2;have:=Option.some.inj e';omega)
 exact⟨AL h.sc (Off.di (P:=fun j=>v.ownBlock=some j) hg (fun j hj=>hj)) (hne _ (by omega)) (hne _ (by omega)) (fun j hj=>by have:=(hv j hj).1;omega),h.oq.grown hg h.dq,h.og.grown hg h.dg,ho,h.nq,h.ng,dn h.oq h.dq,dn h.og h.dg,h.p7⟩
theorem Lv.kB(h:Lv w P q g D v x)(j:Nat)(u:Value):Ex w.heap.size x (x.setCell ⟨w.heap.size,j,none⟩ u)/\A.Ow (x.setCell ⟨w.heap.size,j,none⟩ u) q D.qs 0/\A.Ow (x.setCell ⟨w.heap.size,j,none⟩ u) g D.gs 0/\Ow (x.setCell ⟨w.heap.size,j,none⟩ u) v D.rs (w.heap.size+2):=by
 have he:Ex w.heap.size x (x.setCell ⟨w.heap.size,j,none⟩ u):=(Ex.refl _ _).set j u;have nb:∀{s:Value},(∀j,s.ownBlock=some j->j≠w.heap.size)->s.ownBlock=none\/s.ownBlock≠some w.heap.size:=fun {s} hn=>by
  cases hsb:s.ownBlock with
  |none=>exact Or.inl rfl
  |some j=>exact Or.inr (fun e=>hn j hsb (Option.some.inj e))
 exact⟨he,h.oq.grown (A.av he) (nb (fun j hj=>(h.nq j hj).1)),h.og.grown (A.av he) (nb (fun j hj=>(h.ng j hj).1)),h.ov.grown (av he) (nb (fun j hj=>by have:=(h.ov.lt j hj).1;omega))⟩
theorem vu{s:Value}{l:List A.aC}{B:Nat}(h:A.Ow x s l B)(hB:w.heap.size+2<=B)(j:Nat)(u:Value):A.Ow (x.setCell ⟨w.heap.size,j,none⟩ u) s l 0:=
 (h.grown (A.av ((Ex.refl w.heap.size x).set j u)) (by
  cases hsb:s.ownBlock with
  |none=>exact Or.inl rfl
  |some k=>exact Or.inr (fun e=>by have:=(h.lt k hsb).1;have:=Option.some.inj e;omega))).low (Nat.zero_le _)
theorem oe{s:Value}{l:List A.aC}{B:Nat}(h:A.Ow x s l B)(hv:∀g,v.ownBlock=some g->g<B):eh s v:=by
 cases hsb:s.ownBlock with
 |none=>exact Or.inl hsb
 |some k=>exact Or.inr (by rw[hsb];intro e;have:=(h.lt k hsb).1;have:=hv k e.symm;omega)
theorem Lv.asks(h:Lv w P q g D v x)(hb:Below x.heap.size x y){q':Value}{l:List A.aC}(ho:A.Ow y q' l x.heap.size):Lv w P q' g {D with qs:=l} v (y.setCell ⟨w.heap.size,7,none⟩ q'):=by have hl:=h.lt;obtain⟨he,-,h2,h3⟩:=(h.keep hb).kB 7 q';refine⟨?_,vu ho (by omega) 7 q',h2,h3,fun j hj=>by have:=(ho.lt j hj).1;omega,h.ng,oe ho (fun j hj=>(h.ov.lt j hj).2),h.dg,h.p7⟩;have hs:=(h.keep hb).sc.set 7 (by rw[Array.size_push,Array.size_push,h.p7];omega) q';rw[LI h.p7]at hs;exact hs
theorem Lv.gives(h:Lv w P q g D v x)(hb:Below x.heap.size x y){g':Value}{l:List A.aC}(ho:A.Ow y g' l x.heap.size):Lv w P q g' {D with gs:=l} v (y.setCell ⟨w.heap.size,8,none⟩ g'):=by have hl:=h.lt;obtain⟨he,h1,-,h3⟩:=(h.keep hb).kB 8 g';refine⟨?_,h1,vu ho (by omega) 8 g',h3,h.nq,fun j hj=>by have:=(ho.lt j hj).1;omega,h.dq,oe ho (fun j hj=>(h.ov.lt j hj).2),h.p7⟩;have hs:=(h.keep hb).sc.set 8 (by rw[Array.size_push,Array.size_push,h.p7];omega) g';rw[Pl h.p7]at hs;exact hs
end
theorem oh{l:List A.aC}{h:ByteArray}{a:A.aC}(e:bU l h=some a):∃i:Nat,A.fj l h=(i:Int)/\l[i]?=some a:=by
 unfold bU at e;obtain⟨hp,i,hi,he,hb⟩:=List.find?_eq_some_iff_getElem.1 e;have hr:l[i]?=some a:=by rw[List.getElem?_eq_getElem hi,he]
 refine⟨i,A.m8 hr hp (fun j r hj hr'=>?_),hr⟩;have h1:j<l.length:=by omega
 have h2:=hb j hj;rw[List.getElem?_eq_getElem h1]at hr';rw[Option.some.inj hr']at h2;simpa using h2
theorem oj{l:List A.aC}{h:ByteArray}(e:bU l h=none):A.fj l h=-1:=
 A.m9 (fun j r hj hr=>by have:=List.find?_eq_none.1 e r (List.mem_of_getElem? hr);simpa using this)
theorem ES(r:aw)(w:World):Sem.run prog (Instr.buildSlice 24 1 #[(0,.agg (aL r.c r.v r.h r.p r.s r.d r.g r.a r.b r.i r.u))]) w=.ok (.slice (some ⟨w.heap.size,0,none⟩) 1 1) (w.alloc (.cells r.cells.toArray 39)):=by kernel_rfl
theorem A.Ow.gv{x:World}{a:Option Addr}{n p B:Nat}{l:List A.aC}(h:A.Ow x (.slice a n p) l B):A.Gv x a l/\n=l.length:=by
 rcases h.sl with⟨e,rfl⟩|⟨g,cap,e,-,h2,h3,-⟩;·cases e;exact⟨Or.inl rfl,rfl⟩
 injection e with e1 e2 e3;subst e1 e2;exact⟨Or.inr ⟨g,rfl,h2,h3⟩,rfl⟩
structure Aq(w:World)(P:Array Value)(q g:Value)(l:List A.aC)(out:List Pc.bP)(v:Value)(x:World):Prop where
 sc:Sc w ((P.push q).push g) x
 oq:A.Ow x q l 0
 ov:x.ownsRow (w.heap.size+2) 43 7 v out.length (Pc.aA out)
 nq:∀j,q.ownBlock=some j->j≠w.heap.size/\j≠w.heap.size+1
 dq:eh q v
 p7:P.size=7
section
variable {w x y:World} {P:Array Value} {q g v v':Value} {l:List A.aC} {out:List Pc.bP}
theorem Aq.keep(h:Aq w P q g l out v x)(hb:Below x.heap.size x y):Aq w P q g l out v y:=
 ⟨h.sc.below hb,h.oq.keep hb,aN h.ov hb,h.nq,h.dq,h.p7⟩
theorem Aq.lt(h:Aq w P q g l out v x):w.heap.size+1<x.heap.size:=h.sc.f
theorem Aq.row(h:Aq w P q g l out v x){out':List Pc.bP}(hg:x.grownBy y v.ownBlock)(ho:y.ownsRow (w.heap.size+2) 43 7 v' out'.length (Pc.aA out'))(hat:v'.ownBlock=v.ownBlock\/v'.ownBlock=some x.heap.size):Aq w P q g l out' v' y:=by
 have hv:=br h.ov;have hne:∀j,j<w.heap.size+2->¬v.ownBlock=some j:=fun j hj e=>by have:=hv j e;omega
 have dn:eh q v':=by
  rcases hat with e|e
  ·
   rcases h.dq with h'|h';·exact Or.inl h'
   exact Or.inr (by rw[e];exact h')
  cases hsb:q.ownBlock with
  |none=>exact Or.inl hsb
  |some j=>exact Or.inr (by rw[hsb,e];intro e';have:=(h.oq.lt j hsb).2;have:=Option.some.inj e';omega)
 exact⟨AL h.sc (Off.di (P:=fun j=>v.ownBlock=some j) hg (fun j hj=>hj)) (hne _ (by omega)) (hne _ (by omega)) (fun j hj=>by have:=hv j hj;omega),h.oq.grown hg h.dq,ho,h.nq,dn,h.p7⟩
theorem Aq.asks(h:Aq w P q g l out v x)(hb:Below x.heap.size x y){q':Value}{l':List A.aC}(ho:A.Ow y q' l' x.heap.size):Aq w P q' g l' out v (y.setCell ⟨w.heap.size,7,none⟩ q'):=by have hl:=h.lt;have he:Ex w.heap.size y (y.setCell ⟨w.heap.size,7,none⟩ q'):=(Ex.refl _ _).set 7 q';refine⟨?_,vu ho (by omega) 7 q',fU (h.keep hb).ov he (by omega),fun j hj=>by have:=(ho.lt j hj).1;omega,oe ho (fun j hj=>(h.ov.lt j hj).2),h.p7⟩;have hs:=(h.keep hb).sc.set 7 (by rw[Array.size_push,Array.size_push,h.p7];omega) q';rw[LI h.p7]at hs;exact hs
theorem Aq.fin(h:Aq w P q g l out v x)(c:List Value):A.Ow (x.setCells (w.heap.size+1) 0 c) q l 0/\(x.setCells (w.heap.size+1) 0 c).ownsRow (w.heap.size+2) 43 7 v out.length (Pc.aA out)/\Below w.heap.size w (x.setCells (w.heap.size+1) 0 c):=by
 have hx:Ex (w.heap.size+1) x (x.setCells (w.heap.size+1) 0 c):=(Ex.refl _ _).cells _ _;refine⟨h.oq.grown (A.av hx) ?_,fU h.ov hx (by omega),h.sc.put c⟩;cases hsb:q.ownBlock with
 |none=>exact Or.inl rfl
 |some j=>exact Or.inr (fun e=>(h.nq j hsb).2 (Option.some.inj e))
end
theorem pX(gs:List A.aC)(h:ByteArray):jj gs h=(bU gs h).isSome:=by unfold jj bU;rw[List.isSome_find?]
theorem ya{ck:Int}{ws:List W.ay}{gs qs:List A.aC}{r:aw}(h:(eK ws r&&(!r.h.toList.isEmpty&&!jj gs r.h))=false):ib ck ws gs qs r=false:=by unfold ib;revert h;cases eK ws r<;>cases r.h.toList.isEmpty<;>cases jj gs r.h<;>simp
theorem AW{ck:Int}{ws:List W.ay}{gs qs:List A.aC}{r:aw}(h:(eK ws r&&(!r.h.toList.isEmpty&&!jj gs r.h))=true):ib ck ws gs qs r=jW ck qs r.h r.c:=by unfold ib;revert h;cases eK ws r<;>cases r.h.toList.isEmpty<;>cases jj gs r.h<;>simp
end Go.Proofs.YtlfnpjcjapljpaaGreatDoor
