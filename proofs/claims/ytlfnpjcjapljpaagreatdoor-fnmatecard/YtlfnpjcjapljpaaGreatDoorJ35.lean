import Derived.Test.YtlfnpjcjapljpaaGreatDoorJ32
import Derived.Test.YtlfnpjcjapljpaaGreatDoorJ33
namespace Go.Proofs.YtlfnpjcjapljpaaGreatDoor
open Go.Maps Go.Proofs.Tryz Go.RowKit Go.WideMaps
set_option maxRecDepth 4000
set_option maxHeartbeats 4000000
set_option linter.unusedVariables false
def az(o:Option A.aC):A.aC:=o.getD ⟨⟨#[]⟩,⟨#[]⟩,0,0⟩
theorem Wk.Mw{E:WE}{N:Nat}{D:WD}{v:Value}{x:World}(h:Wk E N D v x)(hs:A.dx D.qs){c:ByteArray}{r:A.aC}{b:Bool}(hr:az (bU D.qs c)=r)(hb:(bU D.qs c).isSome=b)(hz:c.size<=maxLen):
  Sem.run prog (Instr.lookup 108 (.map (some E.m3)) (.string c) true) x=.ok (.tuple #[.agg (cZ r.h r.c r.f r.t),.bool b]) x:=by
 cases e:bU D.qs c with
 |none=>rw[e]at hr hb;subst hr hb;exact h.sx hs e hz
 |some p=>rw[e]at hr hb;subst hr hb;exact h.oF hs e hz
theorem Wk.Qf{E:WE}{N:Nat}{D:WD}{v:Value}{x:World}(h:Wk E N D v x)(hs:A.dx D.gs){c:ByteArray}{r:A.aC}{b:Bool}(hr:az (bU D.gs c)=r)(hb:(bU D.gs c).isSome=b)(hz:c.size<=maxLen):
  Sem.run prog (Instr.lookup 108 (.map (some E.m4)) (.string c) true) x=.ok (.tuple #[.agg (cZ r.h r.c r.f r.t),.bool b]) x:=by
 cases e:bU D.gs c with
 |none=>rw[e]at hr hb;subst hr hb;exact h.wC hs e hz
 |some p=>rw[e]at hr hb;subst hr hb;exact h.uh hs e hz
theorem um(l:List A.aC)(h:ByteArray):jj l h=(bU l h).isSome:=by
 cases e:bU l h with
 |none=>rw[sA e];rfl
 |some a=>rw[sy e];rfl
def uo(ck:Int)(gs qs:List A.aC)(h c:ByteArray):Bool:=!h.toList.isEmpty&&(!jj gs h&&jW ck qs h c)
theorem uq{E:WE}{N:Nat}{D:WD}{v:Value}{x:World}{ck:Int}{kn:Bool}{se:Int}(h:Wk E N D v x)(hG:cQ ck D)(hE:DN E ck kn se)(h0:0<=ck)(h1:ck<=1000000)(q:W.ay)(hq:q.fits):
  Calls prog 113 #[.pointer (some ⟨E.d,0,none⟩),.agg (aX q.c q.v q.h q.p q.s q.d q.g)] x fun e y=>e=.returned (.bool (uo ck D.gs D.qs q.h q.c))/\Below x.heap.size x y:=by
 have HQ:=ah hq;have HG:=ah hG;have CE:=ah hE;have hhz:=hq.2;have HB0:Hid (Below x.heap.size x (x.alloc (.cells (aX q.c q.v q.h q.p q.s q.d q.g) 37))):=ae bR _;have hxd:=h.dk.l;have H1:=ah (h.keep HB0.out);obtain⟨W0,hW0⟩:∃W0,W0=(x.alloc (.cells (aX q.c q.v q.h q.p q.s q.d q.g) 37)):=⟨_,rfl⟩
 have KB:Hid (∀y,Below W0.heap.size W0 y->yE y x.heap.size q.c q.v q.h q.p q.s q.d q.g):=fun y hb=>by rw[hW0]at hb;have hk:=aJ hb;exact⟨by rw[hk 0];simp[go_sem],by rw[hk 1];simp[go_sem],by rw[hk 2];simp[go_sem],by rw[hk 3];simp[go_sem],by rw[hk 4];simp[go_sem],by rw[hk 5];simp[go_sem],by rw[hk 6];simp[go_sem]⟩
 rw[<-hW0]at HB0 H1;have HW0:=ah hW0;clear h hG hE hq hW0;go_enter func113,ntmps113
 go_upto_region 1 with(fail)
 rw[<-HW0.out];obtain⟨r,hr⟩:∃r,az (bU D.gs q.h)=r:=⟨_,rfl⟩
 have HR:=ah hr;obtain⟨b,hb⟩:∃b,(bU D.gs q.h).isSome=b:=⟨_,rfl⟩
 have HB:=ah hb;clear hr hb;have K1:Hid (∀y,Below W0.heap.size W0 y->y.cell? ⟨E.d,12,none⟩=some (.map (some E.m4))/\y.cell? ⟨x.heap.size,2,none⟩=some (.string q.h)/\Sem.run prog (Instr.lookup 108 (.map (some E.m4)) (.string q.h) true) y=.ok (.tuple #[.agg (cZ r.h r.c r.f r.t),.bool b]) y):=fun y hy=>⟨((H1.out.keep hy).dk.c 12).trans CE.out.c12,(KB.out y hy).2.2.1,(H1.out.keep hy).Qf HG.out.qg.s4 HR.out HB.out hhz⟩
 go_cut [6] (fun v6 wx=>v6=.bool b/\Hid (Below W0.heap.size W0 wx))
 case first=>
  refine wp_region_noPanic ?_;refine wp_region_held_drew (S:=fun y=>y.cell? ⟨E.d,12,none⟩=some (.map (some E.m4))/\y.cell? ⟨x.heap.size,2,none⟩=some (.string q.h)/\Sem.run prog (Instr.lookup 108 (.map (some E.m4)) (.string q.h) true) y=.ok (.tuple #[.agg (cZ r.h r.c r.f r.t),.bool b]) y) (by kernel_rfl) (K1.out _ bD) (fun hHeld=>?_);refine aF 0 ?_;refine aF 1 ?_;try simp only[sp]
  refine aF 2 ?_;refine aF 3 ?_;try simp only[sp]
  refine aF 4 ?_;refine aF 5 ?_;try simp only[sp]
  refine aF 6 ?_;refine aF 7 ?_;try simp only[sp]
  refine aF 8 ?_;refine aF 9 ?_;try simp only[sp]
  refine dJ 10 (by kernel_rfl) rfl fun K hK=>?_
  go_simp
  refine hK.out _ _ (K1.out _ (ae bD _)) (fun hH1=>?_);clear hK K;try simp only[sp]
  refine dJ 11 (by kernel_rfl) rfl fun K hK=>?_
  go_simp
  refine hK.out _ _ (K1.out _ (au (ae bR _))) (fun hH2=>?_);clear hK K;try simp only[sp]
  refine aF 12 ?_;try simp only[sp]
  refine wpAnyH_done (by kernel_rfl) ?_ _;refine NoPanic.normal ?_;clear hH1 hH2;go_wp2_with fail
  go_meet
  exact⟨rfl,au (ae bR _)⟩
 case rest=>
  rename World=>W1
  obtain⟨rfl,B1⟩:=hcut;clear K1 HR r;obtain⟨r,hr⟩:∃r,az (bU D.qs q.h)=r:=⟨_,rfl⟩
  have HR:=ah hr;obtain⟨b',hb⟩:∃b',(bU D.qs q.h).isSome=b':=⟨_,rfl⟩
  have xY:Hid ((bU D.qs q.h).isSome=b'):=hb;clear hr hb;have K2:Hid (∀y,Below W1.heap.size W1 y->y.cell? ⟨E.d,11,none⟩=some (.map (some E.m3))/\y.cell? ⟨x.heap.size,2,none⟩=some (.string q.h)/\Sem.run prog (Instr.lookup 108 (.map (some E.m3)) (.string q.h) true) y=.ok (.tuple #[.agg (cZ r.h r.c r.f r.t),.bool b']) y):=fun y hy=>⟨((H1.out.keep (af B1.out hy)).dk.c 11).trans CE.out.c11,(KB.out y (af B1.out hy)).2.2.1,(H1.out.keep (af B1.out hy)).Mw HG.out.qg.s3 HR.out xY.out hhz⟩
  go_upto_region 2 with(fail)
  go_cut [7,8] (fun v7 v8 wx=>∃b7,v7=.pointer (some ⟨b7,0,none⟩)/\v8=.bool b'/\Hid (wx.rangeAt b7 0 (mD r.h r.c r.f r.t))/\b7<wx.heap.size/\Hid (Below W1.heap.size W1 wx))
  case first=>
   refine wp_region_noPanic ?_;refine wp_region_held_drew (S:=fun y=>y.cell? ⟨E.d,11,none⟩=some (.map (some E.m3))/\y.cell? ⟨x.heap.size,2,none⟩=some (.string q.h)/\Sem.run prog (Instr.lookup 108 (.map (some E.m3)) (.string q.h) true) y=.ok (.tuple #[.agg (cZ r.h r.c r.f r.t),.bool b']) y) (by kernel_rfl) (K2.out _ bD) (fun hHeld=>?_);refine aF 0 ?_;refine aF 1 ?_;try simp only[sp]
   refine aF 2 ?_;refine aF 3 ?_;try simp only[sp]
   refine aF 4 ?_;refine aF 5 ?_;try simp only[sp]
   refine aF 6 ?_;refine aF 7 ?_;try simp only[sp]
   refine aF 8 ?_;refine aF 9 ?_;try simp only[sp]
   refine dJ 10 (by kernel_rfl) rfl fun K hK=>?_
   go_simp
   refine hK.out _ _ (K2.out _ (ae bD _)) (fun hH1=>?_);clear hK K;try simp only[sp]
   refine dJ 11 (by kernel_rfl) rfl fun K hK=>?_
   go_simp
   refine hK.out _ _ (K2.out _ (au (ae bR _))) (fun hH2=>?_);clear hK K;try simp only[sp]
   refine aF 12 ?_;try simp only[sp]
   refine wpAnyH_done (by kernel_rfl) ?_ _;refine NoPanic.normal ?_;clear hH1 hH2;go_wp2_with fail
   go_meet
   exact⟨_,rfl,rfl,hU (x:=W1) rfl (wD _),by simp,au (ae bR _)⟩
  rename World=>W2
  obtain⟨b7,rfl,rfl,R7,l7,B2⟩:=hcut;have Qg:=ah (af B1.out B2.out);clear K2;obtain⟨du,Jp⟩:∃du,jW ck D.qs q.h q.c=du:=⟨_,rfl⟩
  have Hj:=ah Jp;obtain⟨k0,-,k2,-⟩:=KB.out W2 Qg.out;have kd:W2.cell? ⟨E.d,2,none⟩=some (.int .i64 ck):=((H1.out.keep Qg.out).dk.c 2).trans CE.out.c2;have kr:∀j u,((mD r.h r.c r.f r.t):List Value)[j]?=some u->W2.cell? ⟨b7,j,none⟩=some u:=fun j u hj=>by have:=R7.out j u hj;rw[Nat.zero_add]at this;exact this
  have Vw:=kr 1 _ rfl;have Vy:=kr 3 _ rfl;clear kr
  go_upto_region 3 with(fail)
  go_cut [9] (fun v9 wx=>v9=.bool du/\Hid (Below W2.heap.size W2 wx))
  case first=>
   cases he:bU D.qs q.h with
   |none=>
    have hb0:b'=false:=(by rw[<-xY.out,he];rfl);have hd0:du=true:=(by rw[<-Jp];unfold jW;rw[he]);subst hb0 hd0;clear he Jp
    go_quiet (fail)
    go_wp2_with fail
    go_meet
    exact⟨rfl,eM bR⟩
   |some a=>
    have hb0:b'=true:=(by rw[<-xY.out,he];rfl);have hra:r=a:=(by rw[<-HR.out,he];rfl);have Mc:=HG.out.qg.v3 a (dt he).1;simp only[A.dR,cA,Bool.and_eq_true,decide_eq_true_eq]at Mc;have hat:0<=r.t/\r.t<=1000000:=(by rw[hra];omega);have hd0:du=(!(r.c.toList==q.c.toList)||decide (r.t+6<=ck)):=(by rw[<-Jp];unfold jW;rw[he,hra]);subst hb0;clear he Mc hra Jp;obtain⟨ht0,ht1⟩:=hat;cases hc:(r.c.toList==q.c.toList)
    ·
     have hd1:du=true:=(by rw[hd0,hc];rfl);subst hd1;clear hd0
     go_quiet (fail)
     go_wp2_with fail
     go_meet
     exact⟨rfl,eM bR⟩
    by_cases hle:r.t+6<=ck
    ·
     have hd1:du=true:=(by rw[hd0,hc,decide_eq_true hle];rfl);subst hd1;clear hd0
     go_quiet (fail)
     go_wp2_with fail
     go_meet
     exact⟨rfl,eM bR⟩
    have hd1:du=false:=(by rw[hd0,hc,decide_eq_false hle];rfl);have hle':ck<r.t+6:=(by omega);subst hd1;clear hd0 hle
    go_quiet (fail)
    go_wp2_with fail
    go_meet
    exact⟨by rw[decide_eq_false (by omega)],eM bR⟩
  rename World=>W3
  obtain⟨rfl,B3⟩:=hcut;have Nz:=ah (af Qg.out B3.out);clear k0 k2 kd Vw Vy;obtain⟨-,-,k2,-⟩:=KB.out W3 Nz.out;have HM:Hid (uo ck D.gs D.qs q.h q.c=(!q.h.toList.isEmpty&&(!b&&du))):=by show _=_;unfold uo;rw[um,HB.out,Hj.out]
  clear Jp;cases hh:q.h.toList.isEmpty
  ·
   cases b
   ·
    go_wp2
    go_ret
    exact⟨by rw[HM.out,hh];simp,af HB0.out Nz.out⟩
   go_wp2
   go_ret
   exact⟨by rw[HM.out,hh];simp,af HB0.out Nz.out⟩
  go_wp2
  go_ret
  exact⟨by rw[HM.out,hh];simp,af HB0.out Nz.out⟩
theorem vM{ck:Int}{qs:List A.aC}{h c:ByteArray}(e:bU qs h=none):dH ck qs h c=ck:=by unfold dH;rw[e]
theorem Bv{ck:Int}{qs:List A.aC}{h c:ByteArray}{a:A.aC}(e:bU qs h=some a)(hc:(a.c.toList==c.toList)=false):dH ck qs h c=ck:=by unfold dH;rw[e];simp only[hc];rfl
theorem yA{ck:Int}{qs:List A.aC}{h c:ByteArray}{a:A.aC}(e:bU qs h=some a)(hc:(a.c.toList==c.toList)=true):dH ck qs h c=a.f:=by unfold dH;rw[e];simp only[hc];rfl
theorem uu{E:WE}{N:Nat}{D:WD}{v:Value}{x:World}{ck:Int}{kn:Bool}{se:Int}(h:Wk E N D v x)(hG:cQ ck D)(hE:DN E ck kn se)(q:W.ay)(hq:q.fits):
  Calls prog 115 #[.pointer (some ⟨E.d,0,none⟩),.agg (aX q.c q.v q.h q.p q.s q.d q.g)] x fun e y=>e=.returned (.agg (cZ q.h q.c (dH ck D.qs q.h q.c) ck))/\Below x.heap.size x y:=by
 have hinfo:(prog.info? 64).map (·.size)=some 4:=by kernel_rfl
 have HQ:=ah hq;have HG:=ah hG;have CE:=ah hE;have hhz:=hq.2;have HB0:Hid (Below x.heap.size x ((x.alloc (.cells (aX q.c q.v q.h q.p q.s q.d q.g) 37)).alloc (.cells (cZ ⟨#[]⟩ ⟨#[]⟩ 0 0) 64))):=ae (ae bR _) _;have hxd:=h.dk.l;have H1:=ah (h.keep HB0.out);obtain⟨W0,hW0⟩:∃W0,W0=((x.alloc (.cells (aX q.c q.v q.h q.p q.s q.d q.g) 37)).alloc (.cells (cZ ⟨#[]⟩ ⟨#[]⟩ 0 0) 64)):=⟨_,rfl⟩
 have KB:Hid (∀y,Below W0.heap.size W0 y->yE y x.heap.size q.c q.v q.h q.p q.s q.d q.g):=fun y hb=>by rw[hW0]at hb;have hk:∀j,y.cell? ⟨x.heap.size,j,none⟩=_:=aJ (af (ae (Below.refl _ (x.alloc (.cells (aX q.c q.v q.h q.p q.s q.d q.g) 37))) _) hb);exact⟨by rw[hk 0];simp[go_sem],by rw[hk 1];simp[go_sem],by rw[hk 2];simp[go_sem],by rw[hk 3];simp[go_sem],by rw[hk 4];simp[go_sem],by rw[hk 5];simp[go_sem],by rw[hk 6];simp[go_sem]⟩
 have T0:Hid (W0.there (x.heap.size+1) 0 4):=by show World.there _ _ _ _;rw[hW0];exact fun j hj=>⟨by simp[go_sem];omega,by simp[go_sem]⟩
 have hz0:x.heap.size+1<W0.heap.size:=by rw[hW0];simp
 rw[<-hW0]at HB0 H1;have HW0:=ah hW0;clear h hG hE hq hW0;go_enter func115,ntmps115
 go_upto_region 1 with(fail)
 rw[<-HW0.out];obtain⟨r,hr⟩:∃r,az (bU D.qs q.h)=r:=⟨_,rfl⟩
 have HR:=ah hr;obtain⟨b,hb⟩:∃b,(bU D.qs q.h).isSome=b:=⟨_,rfl⟩
 have HB:=ah hb;obtain⟨f,hf⟩:∃f,dH ck D.qs q.h q.c=f:=⟨_,rfl⟩
 have HF:=ah hf;clear hr hb hf;have K1:Hid (∀y,Below W0.heap.size W0 y->y.cell? ⟨E.d,11,none⟩=some (.map (some E.m3))/\y.cell? ⟨x.heap.size,2,none⟩=some (.string q.h)/\Sem.run prog (Instr.lookup 108 (.map (some E.m3)) (.string q.h) true) y=.ok (.tuple #[.agg (cZ r.h r.c r.f r.t),.bool b]) y):=fun y hy=>⟨((H1.out.keep hy).dk.c 11).trans CE.out.c11,(KB.out y hy).2.2.1,(H1.out.keep hy).Mw HG.out.qg.s3 HR.out HB.out hhz⟩
 go_cut [5,6] (fun v5 v6 wx=>∃b5,v5=.pointer (some ⟨b5,0,none⟩)/\v6=.bool b/\Hid (wx.rangeAt b5 0 (mD r.h r.c r.f r.t))/\Hid (wx.there b5 0 4)/\b5<wx.heap.size/\W0.heap.size<=b5/\Hid (Below W0.heap.size W0 wx))
 case first=>
  refine wp_region_noPanic ?_;refine wp_region_held_drew (S:=fun y=>y.cell? ⟨E.d,11,none⟩=some (.map (some E.m3))/\y.cell? ⟨x.heap.size,2,none⟩=some (.string q.h)/\Sem.run prog (Instr.lookup 108 (.map (some E.m3)) (.string q.h) true) y=.ok (.tuple #[.agg (cZ r.h r.c r.f r.t),.bool b]) y) (by kernel_rfl) (K1.out _ bD) (fun hHeld=>?_);refine aF 0 ?_;refine aF 1 ?_;try simp only[sp]
  refine aF 2 ?_;refine aF 3 ?_;try simp only[sp]
  refine aF 4 ?_;refine aF 5 ?_;try simp only[sp]
  refine aF 6 ?_;refine aF 7 ?_;try simp only[sp]
  refine aF 8 ?_;refine aF 9 ?_;try simp only[sp]
  refine dJ 10 (by kernel_rfl) rfl fun K hK=>?_
  go_simp
  refine hK.out _ _ (K1.out _ (ae bD _)) (fun hH1=>?_);clear hK K;try simp only[sp]
  refine dJ 11 (by kernel_rfl) rfl fun K hK=>?_
  go_simp
  refine hK.out _ _ (K1.out _ (au (ae bR _))) (fun hH2=>?_);clear hK K;try simp only[sp]
  refine aF 12 ?_;try simp only[sp]
  refine wpAnyH_done (by kernel_rfl) ?_ _;refine NoPanic.normal ?_;clear hH1 hH2;go_wp2_with fail
  go_meet
  exact⟨_,rfl,rfl,hU (x:=W0) rfl (wD _),fun j hj=>⟨by simp[go_sem];omega,by simp[go_sem]⟩,by simp,Nat.le_refl _,au (ae bR _)⟩
 case rest=>
  rename World=>W1
  obtain⟨b5,rfl,rfl,R5,T5,l5,hb5,B1⟩:=hcut;clear K1;obtain⟨k0,-,k2,-⟩:=KB.out W1 B1.out;have kr:∀j u,((mD r.h r.c r.f r.t):List Value)[j]?=some u->W1.cell? ⟨b5,j,none⟩=some u:=fun j u hj=>by have:=R5.out j u hj;rw[Nat.zero_add]at this;exact this
  have SJ:=kr 1 _ rfl;clear kr;obtain⟨nb,hnb⟩:∃nb,(!b||!(r.c.toList==q.c.toList))=nb:=⟨_,rfl⟩
  have SK:=ah hnb
  go_upto_region 2 with(fail)
  go_cut [25] (fun v wx=>v=.bool nb/\wx=W1)
  case first=>
   cases b
   ·
    have e:nb=true:=(by rw[<-hnb];rfl);subst e;clear hnb;go_wp2_with fail
    go_meet
    exact⟨rfl,rfl⟩
   have e:nb=!(r.c.toList==q.c.toList):=(by rw[<-hnb];rfl);subst e;clear hnb;go_wp2_with fail
   go_meet
   exact⟨by simp,rfl⟩
  obtain⟨rfl,rfl⟩:=hcut;clear hnb SJ
  go_upto_if 25 with(fail)
  go_cut [] (fun wx=>∃t:Int,Hid (wx.rangeAt b5 0 (mD q.h q.c f t))/\Hid (wx.there b5 0 4)/\b5<wx.heap.size/\Hid (Below W0.heap.size W0 wx))
  case first=>
   rename World=>W1
   cases nb
   ·
    have hbr:b=true/\(r.c.toList==q.c.toList)=true:=(by have:=SK.out;cases b<;>simp at this ⊢;exact this);have hsm:bU D.qs q.h=some r:=by
     have h1:=HB.out;have h2:=HR.out;cases hx:bU D.qs q.h with
     |none=>rw[hx,hbr.1]at h1;cases h1
     |some z=>rw[hx]at h2;rw[<-h2];rfl
    have e1:r.h=q.h:=(dt hsm).2;have e2:r.c=q.c:=eU (by simpa using hbr.2);have e3:f=r.f:=(by rw[<-HF.out,yA hsm hbr.2]);have R6:Hid (W1.rangeAt b5 0 (mD q.h q.c f r.t)):=(by have:=R5.out;rw[e1,e2,<-e3]at this;exact this);clear hbr hsm e1 e2 e3;go_wp2_with fail
    go_meet
    exact⟨_,R6.out,T5.out,l5,B1.out⟩
   have e3:f=ck:=by
    rw[<-HF.out];cases hx:bU D.qs q.h with
    |none=>exact vM hx
    |some z=>have h1:=HB.out;have h2:=HR.out;rw[hx]at h1 h2;have:r=z:=h2.symm;subst this;have h3:=SK.out;rw[<-h1]at h3;exact Bv hx (by simpa using h3)
   have K3:Hid (∀y,Below W0.heap.size W0 y->y.cell? ⟨x.heap.size,2,none⟩=some (.string q.h)/\y.cell? ⟨x.heap.size,0,none⟩=some (.string q.c)/\y.cell? ⟨E.d,2,none⟩=some (.int .i64 ck)):=fun y hy=>⟨(KB.out y hy).2.2.1,(KB.out y hy).1,((H1.out.keep hy).dk.c 2).trans CE.out.c2⟩
   have T6:Hid ((World.drew W1).there b5 0 4):=bd T5.out l5 bD;have B6:Hid (Below W0.heap.size W0 (World.drew W1)):=af B1.out bD;go_wp2_with fail
   refine wp_region_noPanic ?_;refine wp_region_held_drew (S:=fun y=>y.cell? ⟨x.heap.size,2,none⟩=some (.string q.h)/\y.cell? ⟨x.heap.size,0,none⟩=some (.string q.c)/\y.cell? ⟨E.d,2,none⟩=some (.int .i64 ck)) (by kernel_rfl) (K3.out _ B6.out) (fun hHeld=>?_);refine aF 0 ?_;refine aF 1 ?_;try simp only[sp]
   refine aF 2 ?_;refine aF 3 ?_;try simp only[sp]
   refine aF 4 ?_;refine aF 5 ?_;try simp only[sp]
   refine aF 6 ?_;refine aF 7 ?_;try simp only[sp]
   refine aF 8 ?_;refine aF 9 ?_;try simp only[sp]
   refine dJ 10 (by kernel_rfl) rfl fun K hK=>?_;refine bF (by rfl) ?_;refine wp_store_mid 64 _ _ (by rfl) b5 0 (cZ q.h q.c ck 0) (by rfl) (by rfl) (by exact T6.out) hinfo (by simp[Value.oneCell']) ?_;refine hK.out _ _ (K3.out _ (cL hb5 _ _ _ B6.out)) (fun hH1=>?_);clear hK K;try simp only[sp]
   refine wpAnyH_done (by kernel_rfl) ?_ _;refine NoPanic.normal ?_;clear hH1;go_wp2_with fail
   go_meet
   exact⟨0,by rw[e3];exact World.rangeAt_setCells_same _ b5 0 (mD q.h q.c ck 0) T6.out,World.there_setCells T6.out _ _ _,by rw[ev];exact l5,cL hb5 _ _ _ B6.out⟩
  rename World=>W3
  obtain⟨t,R6,T6,l6,B6⟩:=hcut;clear k0 k2 R5 T5;have kd:W3.cell? ⟨E.d,2,none⟩=some (.int .i64 ck):=((H1.out.keep B6.out).dk.c 2).trans CE.out.c2;have kr:∀j u,((mD q.h q.c f t):List Value)[j]?=some u->W3.cell? ⟨b5,j,none⟩=some u:=fun j u hj=>by have:=R6.out j u hj;rw[Nat.zero_add]at this;exact this
  have kf:=fun j hj=>(T6.out j hj).2;simp only[Nat.zero_add]at kf;have IK:=kf 3 (by omega);have W5:=kr 0 _ rfl;have SJ:=kr 1 _ rfl;have W7:=kr 2 _ rfl;have Xa:=kr 3 _ rfl;have T7:=ah (bd T0.out hz0 B6.out);have hne:x.heap.size+1≠b5:=by omega
  have hx3:Ex b5 W3 (W3.setCell ⟨b5,3,none⟩ (.int .i64 ck)):=(Ex.refl _ _).set 3 _;have T8:Hid ((W3.setCell ⟨b5,3,none⟩ (.int .i64 ck)).there (x.heap.size+1) 0 4):=bh T7.out (by have:=B6.out.size;omega) hx3 hne;have B7:Hid (Below W0.heap.size W0 (W3.setCell ⟨b5,3,none⟩ (.int .i64 ck))):=iY (p:=⟨b5,3,none⟩) B6.out hb5 _;clear kr kf hx3;go_wp2_with (refine wpList_store_mid (by rfl) 64 _ _ (by rfl) (x.heap.size+1) 0 (cZ q.h q.c f ck) (by rfl) (by rfl) (by exact T8.out) hinfo (by simp[Value.oneCell']) ?_)
  have hrg:=World.rangeAt_setCells_same (W3.setCell ⟨b5,3,none⟩ (.int .i64 ck)) (x.heap.size+1) 0 (mD q.h q.c f ck) T8.out;have d0:=hrg 0 _ rfl;have d1:=hrg 1 _ rfl;have d2:=hrg 2 _ rfl;have d3:=hrg 3 _ rfl;simp only[Nat.zero_add]at d0 d1 d2 d3;exact bodyPost_ret (v:=.agg (cZ q.h q.c f ck)) (by simp[results,results115,go_sem,d0,d1,d2,d3]) rfl ⟨by rw[HF.out],cL (by omega) _ _ _ (af HB0.out B7.out)⟩
def eB(nm:ByteArray)(k s:Int)(h c:ByteArray)(t:Int):Pc.bP:=⟨k,nm,s,none,0,0,h,c,t⟩
theorem pZ(nm:ByteArray)(k s:Int)(h c:ByteArray)(t:Int)(w:World):Sem.run prog (Instr.buildSlice 30 1 #[(0,.agg (cw k nm s (.slice none 0 0) h c t))]) w=.ok (.slice (some ⟨w.heap.size,0,none⟩) 1 1) (w.alloc (.cells (eB nm k s h c t).cells.toArray 43)):=by kernel_rfl
def Sx(E:WE)(v v':Value)(x y:World):Prop:=Off (fun j=>j<=E.d\/v.ownBlock=some j) x y/\∀g,v'.ownBlock=some g->v.ownBlock=some g\/x.heap.size<=g
theorem Sx.trans{E:WE}{v v' v'':Value}{x y z:World}(h:Sx E v v' x y)(k:Sx E v' v'' y z)(hv:∀g,v.ownBlock=some g->True):Sx E v v'' x z:=by
 refine⟨⟨k.1.os.trans h.1.os,k.1.tape.trans h.1.tape,k.1.output.trans h.1.output,Nat.le_trans h.1.size k.1.size,fun i hi hn=>?_⟩,fun g hg=>?_⟩
 ·
  rw[k.1.block i (Nat.lt_of_lt_of_le hi h.1.size) (fun hp=>?_),h.1.block i hi hn];rcases hp with hp|hp;·exact hn (Or.inl hp)
  rcases h.2 i hp with h'|h';·exact hn (Or.inr h')
  omega
 rcases k.2 g hg with h'|h';·exact h.2 g h'
 exact Or.inr (Nat.le_trans h.1.size h')
theorem Sx.oJ{E:WE}{v:Value}{x y:World}(h:Up E x y):Sx E v v x y:=
 ⟨⟨h.os,h.tape,h.output,h.size,fun i hi hn=>h.block i hi (fun hp=>hn (Or.inl hp))⟩,fun g hg=>Or.inl hg⟩
theorem Wk.grow{E:WE}{N:Nat}{D:WD}{v v':Value}{x y:World}{c:Pc.bP}(h:Wk E N D v x)(hg:x.grownBy y v.ownBlock)(ho:y.ownsRow (E.d+1) 43 7 v' (D.cs.length+1) (Pc.aA D.cs++c.cells)):Wk E N {D with cs:=D.cs++[c]} v' (y.setCell ⟨E.sb,0,none⟩ v'):=by
 have hd:=h.dk.l;have hod:=h.od;have hne:∀j,j<=E.d->some j≠v.ownBlock:=fun j hj e=>by have:=br h.ow j e.symm;omega
 have hO:Off (fun j=>v.ownBlock=some j\/j=E.sb) x (y.setCell ⟨E.sb,0,none⟩ v'):=by have he:Ex E.sb y (y.setCell ⟨E.sb,0,none⟩ v'):=(Ex.refl _ _).set 0 _;exact(Off.di (P:=fun j=>v.ownBlock=some j\/j=E.sb) hg (fun j hj=>Or.inl hj)).trans ⟨he.os,he.tape,he.output,he.size,fun i hi hn=>he.block i hi (fun e=>hn (Or.inr e))⟩
 have hn:∀j,j<=E.d->j≠E.sb->¬(v.ownBlock=some j\/j=E.sb):=fun j hj hs hp=>by
  rcases hp with hp|hp;·exact hne j hj hp.symm
  exact hs hp
 have hs:=hO.size;obtain⟨n1,b1,o1⟩:=h.dk.o1;obtain⟨n2,b2,o2⟩:=h.dk.o2;obtain⟨n3,b3,o3⟩:=h.dk.o3;obtain⟨n4,b4,o4⟩:=h.dk.o4;have mk:∀{α:Type}{R:Value->Option (DataW α×List MemPlace)}{b n:Nat}{D':DataW α},x.ownsMap prog 9 R b n D'->b<=E.d->b≠E.sb->(y.setCell ⟨E.sb,0,none⟩ v').ownsMap prog 9 R b n D':=fun {α R b n D'} hm hb hbs=>by have h1:y.ownsMap prog 9 R b n D':=hm.kept (row:=v.ownBlock) hg (hne b hb);exact h1.setCell (by show b≠E.sb;exact hbs) _
 have hfr:(y.setCell ⟨E.sb,0,none⟩ v').frozen? ⟨E.sb,0,none⟩=false:=by rw[World.frozen?_setCell,World.frozen?_of_block (w:=x) (a:=⟨E.sb,0,none⟩) (hg.block E.sb (by omega) (hne E.sb (by omega)))];exact h.sf
 have hce:∀{j k:Nat},j<=E.d->j≠E.sb->(y.setCell ⟨E.sb,0,none⟩ v').cell? ⟨j,k,none⟩=x.cell? ⟨j,k,none⟩:=fun {j k} hj hs=>hO.cell (p:=⟨j,k,none⟩) (by show j<_;omega) (hn j hj hs);refine⟨⟨fun k=>(hce (Nat.le_refl _) (by omega)).trans (h.dk.c k),fun k=>?_,by omega,⟨n1,b1,mk o1 (by omega) (by omega)⟩,⟨n2,b2,mk o2 (by omega) (by omega)⟩,⟨n3,b3,mk o3 (by omega) (by omega)⟩,⟨n4,b4,mk o4 (by omega) (by omega)⟩⟩,(hce (by omega) (by omega)).trans h.bn,?_,?_,hfr,?_,h.od,h.s1,h.f1,h.l1⟩
 ·
  rw[World.frozen?_setCell,World.frozen?_of_block (w:=x) (a:=⟨E.d,k,none⟩) (hg.block E.d hd (hne E.d (Nat.le_refl _)))];exact h.dk.f k
 ·
  have:y.cell? ⟨E.sb,0,none⟩=some v:=(World.cell?_of_block (w:=x) (a:=⟨E.sb,0,none⟩) (hg.block E.sb (by omega) (hne E.sb (by omega)))).trans h.sn;exact World.cell?_setCell_same _ _ _ this
 ·
  have he:Ex E.sb y (y.setCell ⟨E.sb,0,none⟩ v'):=(Ex.refl _ _).set 0 _;have:=fU ho he (by omega);show World.ownsRow _ _ _ _ _ (D.cs++[c]).length _;rw[List.length_append,Pc.cP];exact this
 exact h.bl.trans (hO.below (fun j hp=>by
  rcases hp with hp|hp;·have:=br h.ow j hp;omega
  omega) h.bl.size)
theorem lP{E:WE}{N:Nat}{D:WD}{v:Value}{x:World}(hw:Wk E N D v x)(hl:D.cs.length<=1000)(k s:Int)(h c:ByteArray)(t:Int):
  Calls prog 25 #[.agg (cw k ⟨#[]⟩ s (.slice none 0 0) h c t),.pointer (some ⟨E.mb,0,none⟩),.pointer (some ⟨E.sb,0,none⟩)] x fun e y=>e=.returned (.tuple #[])/\∃v',Wk E N {D with cs:=D.cs++[eB E.nm k s h c t]} v' y/\Sx E v v' x y:=by
 obtain⟨i0,hi,hz0,hz1,hz2⟩:=info_parts Pc.cE;have hb:Below x.heap.size x (x.alloc (.cells (cw k E.nm s (.slice none 0 0) h c t) 43)):=ae bR _;have H1:=ah (hw.keep hb);have hod:=hw.od;have hxd:=hw.dk.l;have kn:(x.alloc (.cells (cw k ⟨#[]⟩ s (.slice none 0 0) h c t) 43)).cell? ⟨E.mb,0,none⟩=some (.string E.nm):=(hw.keep (ae bR _)).bn;have ks:=H1.out.sn;have hbb:=pZ E.nm k s h c t;have Y:Hid (Below (x.alloc (.cells (cw k E.nm s (.slice none 0 0) h c t) 43)).heap.size (x.alloc (.cells (cw k E.nm s (.slice none 0 0) h c t) 43)) ((x.alloc (.cells (cw k E.nm s (.slice none 0 0) h c t) 43)).alloc (.cells (eB E.nm k s h c t).cells.toArray 43))):=ae bR _;have H2:=ah (H1.out.keep Y.out);clear hw hb;go_enter func25,ntmps25
 go_wp2_with (at_builtin;refine wpList_append_own_at _ rfl _ _ 30 rfl (E.d+1) 43 i0 _ 7 96 underlying30 hi hz0 hz1 hz2 rfl (by decide) v D.cs.length _ rfl (by exact H2.out.ow) ⟨_,0,none⟩ 1 1 (eB E.nm k s h c t).cells rfl rfl (Pc.bG _ _ (by simp) _ _ _ rfl) (Pc.aU _) (by unfold maxLen;omega) (by omega) (by simp;omega) ?_;intro v' y ho hg EU hat;obtain⟨a9,c9,jq⟩:=Pc.Sl.shape (Pc.Sl.bE (l:=D.cs++[eB E.nm k s h c t]) (by rw[List.length_append,Pc.cP];exact ho));rw[List.length_append]at jq;subst jq;have Mx:some E.sb≠v.ownBlock:=(fun e=>by have:=br H2.out.ow E.sb e.symm;omega);have Xb:y.cell? ⟨E.sb,0,none⟩=some v:=(World.cell?_of_block (a:=⟨E.sb,0,none⟩) (hg.block E.sb (by simp;omega) Mx)).trans H2.out.sn;have IY:y.frozen? ⟨E.sb,0,none⟩=false:=(World.frozen?_of_block (a:=⟨E.sb,0,none⟩) (hg.block E.sb (by simp;omega) Mx)).trans H2.out.sf;have SL:Hid (World.grownBy _ y v.ownBlock):=hg;have CK:Hid (y.ownsRow _ _ _ _ _ _):=ho;have Ny:Hid (_\/_):=hat;clear ho hg EU hat)
 have H9:=H2.out.grow SL.out CK.out;refine bodyPost_end (v:=.tuple #[]) (by simp[results,results25,go_sem]) rfl ⟨rfl,_,H9,?_,fun g hg=>?_⟩
 ·
  have he:Ex E.sb y (y.setCell ⟨E.sb,0,none⟩ (.slice a9 (D.cs.length+1) c9)):=(Ex.refl _ _).set 0 _;exact((Off.of_below (ae (ae bR _) _)).trans (Off.di (P:=fun j=>j<=E.d\/v.ownBlock=some j) SL.out (fun j hj=>Or.inr hj))).trans ⟨he.os,he.tape,he.output,he.size,fun i hi hn=>he.block i hi (fun e=>hn (Or.inl (by omega)))⟩
 ·
  rcases Ny.out with h'|h';·exact Or.inl (by rw[<-h'];exact hg)
  right;rw[h']at hg;have h8:=Option.some.inj hg;simp at h8;omega
theorem qk{nm:ByteArray}{l:List A.aC}{k:Nat}{r:A.aC}(h:l[k]?=some r):(l.take (k+1)).map (lM nm)=(l.take k).map (lM nm)++[eB nm 4 0 r.h r.c r.t]:=by
 have hlt:k<l.length:=(List.getElem?_eq_some_iff.1 h).1;have he:l[k]=r:=by rw[List.getElem?_eq_getElem hlt]at h;exact Option.some.inj h
 rw[List.take_succ_eq_append_getElem hlt,he,List.map_append];rfl
theorem lQ{E:WE}{N:Nat}{D:WD}{v:Value}{x:World}{ck:Int}{kn:Bool}{se:Int}(h:Wk E N D v x)(hG:cQ ck D)(hE:DN E ck kn se):
  Calls prog 78 #[.pointer (some ⟨E.d,0,none⟩),(.func (.func 25) #[] #[.pointer (some ⟨E.mb,0,none⟩),.pointer (some ⟨E.sb,0,none⟩)])] x fun e y=>e=.returned (.tuple #[])/\∃v',Wk E N {D with cs:=D.cs++D.gs.map (lM E.nm)} v' y:=by
 have kc:x.cell? ⟨E.d,12,none⟩=some (.map (some E.m4)):=(h.dk.c 12).trans hE.c12;have H0:=ah h;have HG:=ah hG;have hod:=h.od;have hxd:=h.dk.l;have Qh:Hid (∀g,v.ownBlock=some g->g<x.heap.size):=fun g hg=>((Pc.Sl.bE h.ow).lt g hg).2;obtain⟨n4,UH,o4⟩:=h.dk.o4;have O4:=ah o4;have hgl:=hG.qg.l4;have hcl:=hG.lc;clear h hG hE o4;go_enter func78,ntmps78
 go_wp2_with fail
 refine(A.eX A.fB A.dY E.m4 n4 D.gs x O4.out HG.out.qg.s4 (fun r hr=>(HG.out.ok.f4 r hr).1) (by omega)).mono ?_;rintro e x1 ⟨⟨s,rfl,hs⟩,c1⟩;have H1:=ah (H0.out.keep c1);obtain⟨a,c,rfl⟩:=A.Sl.shape hs;have HS:=ah hs;clear hs c1 kc;go_wp2_with fail
 go_loopw [12] (fun i wx=>∃(k:Nat),k<=D.gs.length/\i=.int .i64 k/\∃v',Hid (Wk E N {D with cs:=D.cs++(D.gs.take k).map (lM E.nm)} v' wx)/\Hid (Sx E v v' x1 wx)) (fun i _=>D.gs.length-(intOf i).toNat)
 case atStart=>exact⟨0,Nat.zero_le _,rfl,v,by show Wk E N {D with cs:=D.cs++[]} v x1;rw[List.append_nil];exact H1.out,Sx.oJ (Off.refl _ _)⟩
 case round=>
  obtain⟨k,hk,rfl,v',HW,HX⟩:=hrel;by_cases hlt:k<D.gs.length
  ·
   obtain⟨r,hr⟩:∃r,D.gs[k]?=some r:=⟨D.gs[k],List.getElem?_eq_getElem hlt⟩
   have Hr:=ah hr;have i1:(k:Int)<(D.gs.length:Int):=(by omega);rcases HS.out with⟨-,h⟩|⟨g,cap,h,hg1,hg2,hR,-⟩;·rw[h]at hr;simp at hr
   injection h with e1 e2 e3;subst e1 e3;have hgd:E.d<g:=(by have:=hxd;omega);have hgv:¬(g<=E.d\/v.ownBlock=some g):=fun hp=>by
    rcases hp with hp|hp;·omega
    have:=Qh.out g hp;omega
   have hR2:=A.aG.off hR hg2 HX.out.1 hgv;have hg3:g<wr.heap.size:=Nat.lt_of_lt_of_le hg2 HX.out.1.size;obtain⟨c0,c1,c2,c3⟩:=hR2.at hr;simp only[Nat.zero_add]at c0 c1 c2 c3;have H5:Hid (Wk E N {D with cs:=D.cs++(D.gs.take k).map (lM E.nm)} v' (wr.alloc (.cells (cZ r.h r.c r.f r.t) 64))):=HW.out.keep (ae bR _);clear hr hR hR2;go_wp2_with fail
   refine(lP H5.out (by show(D.cs++_).length<=1000;rw[List.length_append,List.length_map,List.length_take];omega) 4 0 r.h r.c r.t).mono ?_;rintro e y ⟨rfl,v2,h2,x2⟩;have H6:Hid (Wk E N {D with cs:=D.cs++(D.gs.take (k+1)).map (lM E.nm)} v2 y):=(by show Wk _ _ _ _ _;rw[qk Hr.out,<-List.append_assoc];exact h2);have X6:Hid (Sx E v v2 x1 y):=(HX.out.trans (Sx.oJ (Off.of_below (ae bR _))) (fun _ _=>trivial)).trans x2 (fun _ _=>trivial);clear h2 x2;go_wp2_with fail
   exact⟨⟨k+1,by omega,by go_num,v2,H6.out,X6.out⟩,by simp[intOf];omega⟩
  have e:k=D.gs.length:=by omega
  subst e;go_wp2
  exact bodyPost_end (v:=.tuple #[]) (by simp[results,results78,go_sem]) rfl ⟨rfl,v',by have:=HW.out;rw[List.take_of_length_le (Nat.le_refl _)]at this;exact this⟩
set_option maxHeartbeats 2000000
theorem Dj(w:World)(t:TypeId):(w.alloc (.cells (aX ⟨#[]⟩ 0 ⟨#[]⟩ 0 0 0 0) t)).there w.heap.size 0 7:=
 fun j hj=>⟨by simp[go_sem];omega,by simp[go_sem]⟩
def ER(ws:List W.ay)(c:ByteArray)(k:Nat):Prop:=∀(j:Nat) r,j<k->ws[j]?=some r->(r.c.toList==c.toList)=false
theorem ER.step{ws:List W.ay}{c:ByteArray}{k:Nat}{r:W.ay}(h:ER ws c k)(hr:ws[k]?=some r)(hq:(r.c.toList==c.toList)=false):ER ws c (k+1):=by
 intro j z hj hz;by_cases e:j=k;·subst e;rw[hr]at hz;cases hz;exact hq
 exact h j z (by omega) hz
theorem ER.found{ws:List W.ay}{c:ByteArray}{k:Nat}{r:W.ay}(h:ER ws c k)(hr:ws[k]?=some r)(hq:(r.c.toList==c.toList)=true):cI ws c=some r:=by unfold cI;rw[List.find?_eq_some_iff_getElem];obtain⟨hk,he⟩:=List.getElem?_eq_some_iff.1 hr;exact⟨hq,k,hk,he,fun j hj=>by rw[h j ws[j] hj (List.getElem?_eq_getElem (by omega))];rfl⟩
theorem ER.none{ws:List W.ay}{c:ByteArray}{k:Nat}(h:ER ws c k)(hk:ws.length<=k):cI ws c=none:=by unfold cI;rw[List.find?_eq_none];intro r hr;obtain⟨j,hj⟩:=List.getElem?_of_mem hr;rw[h j r (by have:=(List.getElem?_eq_some_iff.1 hj).1;omega) hj];simp
theorem lG(a:Option Addr)(cap:Nat)(ws:List W.ay)(c:ByteArray)(w:World)(hG:W.Gv w a ws)(hl:ws.length<=1048576){q:W.ay}{b:Bool}(hq:wz (cI ws c)=q)(hb:(cI ws c).isSome=b):
  Calls prog 83 #[.slice a ws.length cap,.string c] w fun e w'=>e=.returned (.tuple #[.agg (aX q.c q.v q.h q.p q.s q.d q.g),.bool b])/\Below w.heap.size w w':=by
 have hinfo:(prog.info? 37).map (·.size)=some 7:=by kernel_rfl
 have HQ:=ah hq;have HB:=ah hb;have HT:Hid ((w.alloc (.cells (aX ⟨#[]⟩ 0 ⟨#[]⟩ 0 0 0 0) 37)).there w.heap.size 0 7):=Dj _ _;have HG:Hid (W.Gv (w.alloc (.cells (aX ⟨#[]⟩ 0 ⟨#[]⟩ 0 0 0 0) 37)) a ws):=hG.keep (ae bR _);clear hq hb hG;go_enter func83,ntmps83
 go_wp2_with fail
 go_loopw [6] (fun i wx=>∃(k:Nat),k<=ws.length/\i=.int .i64 k/\Hid (ER ws c k)/\wx=(w.alloc (.cells (aX ⟨#[]⟩ 0 ⟨#[]⟩ 0 0 0 0) 37))) (fun i _=>ws.length-(intOf i).toNat)
 case atStart=>exact⟨0,Nat.zero_le _,rfl,(fun j r hj=>by omega),rfl⟩
 case round=>
  obtain⟨k,hk,rfl,HN,rfl⟩:=hrel;by_cases hlt:k<ws.length
  ·
   obtain⟨b9,hab,vT,hR⟩:=HG.out.resolve_left (fun h=>by rw[h]at hlt;simp at hlt);subst hab;obtain⟨r,hr⟩:∃r,ws[k]?=some r:=⟨ws[k],List.getElem?_eq_getElem hlt⟩
   obtain⟨c0,c1,c2,c3,c4,c5,c6⟩:=hR.at hr;simp only[Nat.zero_add]at c0 c1 c2 c3 c4 c5 c6;have Hr:=ah hr;clear hr hR;cases hq:(r.c.toList==c.toList)
   ·
    go_wp2
    exact⟨⟨k+1,by omega,by go_num,HN.out.step Hr.out hq,trivial⟩,by simp[intOf];omega⟩
   have GZ:=HN.out.found Hr.out hq;have LH:Hid (q=r):=(by have:=HQ.out;rw[GZ]at this;exact this.symm);have HE2:Hid (b=true):=(by have:=HB.out;rw[GZ]at this;exact this.symm);clear GZ;go_wp2_with (refine wpList_store_mid (by rfl) 37 _ _ (by rfl) w.heap.size 0 (aX r.c r.v r.h r.p r.s r.d r.g) (by rfl) (by rfl) (by exact HT.out) hinfo (by simp[Value.oneCell']) ?_)
   have hrg:=World.rangeAt_setCells_same (w.alloc (.cells (aX ⟨#[]⟩ 0 ⟨#[]⟩ 0 0 0 0) 37)) w.heap.size 0 (iT r.c r.v r.h r.p r.s r.d r.g) HT.out;have d0:=hrg 0 _ rfl;have d1:=hrg 1 _ rfl;have d2:=hrg 2 _ rfl;have d3:=hrg 3 _ rfl;have d4:=hrg 4 _ rfl;have d5:=hrg 5 _ rfl;have d6:=hrg 6 _ rfl;simp only[Nat.zero_add]at d0 d1 d2 d3 d4 d5 d6;exact bodyPost_ret (v:=.tuple #[.agg (aX r.c r.v r.h r.p r.s r.d r.g),.bool true]) (by simp[results,results83,go_sem,d0,d1,d2,d3,d4,d5,d6]) rfl ⟨by rw[LH.out,HE2.out],cL (Nat.le_refl _) _ _ _ (ae bR _)⟩
  have GZ:=HN.out.none (by omega);have LH:Hid (q=⟨⟨#[]⟩,⟨#[]⟩,0,0,0,0,0⟩):=by have:=HQ.out;rw[GZ]at this;exact this.symm
  have HE2:Hid (b=false):=by have:=HB.out;rw[GZ]at this;exact this.symm
  clear GZ;go_wp2_with (refine wpList_store_mid (by rfl) 37 _ _ (by rfl) w.heap.size 0 (aX ⟨#[]⟩ 0 ⟨#[]⟩ 0 0 0 0) (by rfl) (by rfl) (by exact HT.out) hinfo (by simp[Value.oneCell']) ?_)
  have hrg:=World.rangeAt_setCells_same (w.alloc (.cells (aX ⟨#[]⟩ 0 ⟨#[]⟩ 0 0 0 0) 37)) w.heap.size 0 (iT ⟨#[]⟩ 0 ⟨#[]⟩ 0 0 0 0) HT.out;have d0:=hrg 0 _ rfl;have d1:=hrg 1 _ rfl;have d2:=hrg 2 _ rfl;have d3:=hrg 3 _ rfl;have d4:=hrg 4 _ rfl;have d5:=hrg 5 _ rfl;have d6:=hrg 6 _ rfl;simp only[Nat.zero_add]at d0 d1 d2 d3 d4 d5 d6;exact bodyPost_ret (v:=.tuple #[.agg (aX ⟨#[]⟩ 0 ⟨#[]⟩ 0 0 0 0),.bool false]) (by simp[results,results83,go_sem,d0,d1,d2,d3,d4,d5,d6]) rfl ⟨by rw[LH.out,HE2.out],cL (Nat.le_refl _) _ _ _ (ae bR _)⟩
theorem A.xW(b off cap:Nat)(rs:List A.aC)(x:ByteArray)(w:World)(hR:A.aG w b off rs)(hb:b<w.heap.size)(hl:rs.length<=1048576):
  Calls prog 59 #[.slice (some ⟨b,off,none⟩) rs.length cap,.string x] w fun e w'=>(∃v,e=.returned v/\A.Ow w' v (A.db x rs) w.heap.size)/\Below w.heap.size w w':=by
 obtain⟨i0,hi,hz0,hz1,hz2⟩:=info_parts A.cE;have hbn:=fS;go_enter func59,ntmps59
 go_wp2
 clear hbn
 go_loopw [5,6] (fun v i wx=>∃(k:Nat),k<=rs.length/\i=.int .i64 k/\wx.ownsRow w.heap.size 64 4 v (A.db x (rs.take k)).length (A.aA (A.db x (rs.take k)))/\Below w.heap.size w wx) (fun _ i _=>rs.length-(intOf i).toNat)
 case atStart=>exact⟨0,Nat.zero_le _,rfl,World.ownsRow_made w #[] 0 (Nat.le_refl _) (Nat.zero_le _) rfl,ae bR _⟩
 case round=>
  obtain⟨k,hk,rfl,hown,hB⟩:=hrel;by_cases hlt:k<rs.length
  ·
   obtain⟨r,hr⟩:∃r,rs[k]?=some r:=⟨rs[k],List.getElem?_eq_getElem hlt⟩
   have Hr:=ah hr;have Ho:=ah hown;have hdl:(A.db x (rs.take k)).length<=k:=Nat.le_trans (List.length_filter_le _ _) (by simp;omega);obtain⟨c0,c1,c2,c3⟩:=(hR.keep hb hB).at hr;clear hr hown;cases he:(r.h.toList==x.toList)
   ·
    go_wp2_with (first|(at_builtin;(refine wpList_append_own _ rfl _ _ 25 rfl w.heap.size 64 i0 _ 4 48 underlying25 hi hz0 hz1 hz2 rfl (by decide) _ (A.db x (rs.take k)).length _ rfl (by exact aN Ho.out (by repeat (first|exact bR|refine ae ?_ _))) ⟨_,0,none⟩ 1 1 r.cells rfl rfl (A.bG _ _ (by simp) _ _ _ rfl) (A.aU _) (by unfold maxLen;omega) (by omega) (by have:=hB.size;simp;omega) ?_);intro v' w1 ho1 hg1 hn1))
    exact⟨⟨k+1,by omega,by go_num,by rw[A.pJ Hr.out he,List.length_append,A.cP];exact ho1,Below.grown (by repeat (first|exact hB|refine ae ?_ _)) hg1 (by have:=hB.size;simp;omega) (br Ho.out)⟩,by simp[intOf];omega⟩
   go_wp2_with fail
   exact⟨⟨k+1,by omega,by go_num,by rw[A.sQ Hr.out he];exact Ho.out,hB⟩,by simp[intOf];omega⟩
  go_wp2
  go_ret
  have hk':k=rs.length:=by omega
  subst hk';rw[List.take_of_length_le (Nat.le_refl _)]at hown;exact⟨⟨_,rfl,hown⟩,hB⟩
theorem A.drop_zero(a:Option Addr)(cap:Nat)(x:ByteArray)(w:World):
  Calls prog 59 #[.slice a 0 cap,.string x] w fun e w'=>(∃v,e=.returned v/\A.Ow w' v [] w.heap.size)/\Below w.heap.size w w':=by
 have hbn:=fS;go_enter func59,ntmps59
 go_wp2
 refine wp_loop_rounds 1 ?_;rw[rounds_succ];go_wp2
 go_ret
 exact⟨⟨_,rfl,World.ownsRow_made w #[] 0 (Nat.le_refl _) (Nat.zero_le _) rfl⟩,ae bR _⟩
theorem A.pV(a:Option Addr)(cap:Nat)(rs:List A.aC)(x:ByteArray)(w:World)(h:A.Gv w a rs)(hl:rs.length<=1048576):
  Calls prog 59 #[.slice a rs.length cap,.string x] w fun e w'=>(∃v,e=.returned v/\A.Ow w' v (A.db x rs) w.heap.size)/\Below w.heap.size w w':=by
 rcases h with rfl|⟨b,rfl,hb,hR⟩;·exact A.drop_zero a cap x w
 ·exact A.xW b 0 cap rs x w hR hb hl
theorem pW{ck:Int}{ws:List W.ay}{r:aw}{q:W.ay}{t:aw}{b b':Bool}(hf:r.fits)(hq:wz (cI ws r.c)=q)(hb:(cI ws r.c).isSome=b)(ht:rz (cX ck ws r)=t)(hb':(cX ck ws r).isSome=b')(w:World):
  Calls prog 84 #[.agg (aL r.c r.v r.h r.p r.s r.d r.g r.a r.b r.i r.u),.agg (aX q.c q.v q.h q.p q.s q.d q.g),.bool b,.int .i64 ck] w fun e w'=>e=.returned (.tuple #[.agg (aL t.c t.v t.h t.p t.s t.d t.g t.a t.b t.i t.u),.bool b'])/\Below w.heap.size w w':=by
 refine(rH r.c r.h q.c q.h r.v r.p r.s r.d r.g r.a r.b r.i r.u q.v q.p q.s q.d q.g ck b w hf.2.2.1 hf.2.2.2).mono ?_;rintro e w' ⟨rfl,hB⟩;refine⟨?_,hB⟩;have e1:(b&&fL r.c r.h q.c q.h r.v r.p r.s r.d r.g q.v q.p q.s q.d q.g)=eK ws r:=by rw[gj,hq,hb];rfl
 rw[e1];unfold cX at ht hb';cases hl:aW r.h r.s r.d r.g r.a r.b r.i r.u ck (eK ws r)with
 |none=>rw[hl]at ht hb';subst ht hb';rfl
 |some x=>rw[hl]at ht hb';subst ht hb';rfl
end Go.Proofs.YtlfnpjcjapljpaaGreatDoor
