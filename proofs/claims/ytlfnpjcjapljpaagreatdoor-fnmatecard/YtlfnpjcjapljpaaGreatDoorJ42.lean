import Derived.Test.YtlfnpjcjapljpaaGreatDoorJ39
namespace Go.Proofs.YtlfnpjcjapljpaaGreatDoor
open Go.Maps Go.Proofs.Tryz Go.RowKit Go.WideMaps
set_option maxRecDepth 4000
set_option maxHeartbeats 8000000
set_option linter.unusedVariables false
theorem wm(w:World):Sem.run prog (Instr.buildSlice 30 0 #[]) w=.ok (.slice (some ⟨w.heap.size,0,none⟩) 0 0) (w.alloc (.cells #[] 43)):=by kernel_rfl
theorem AX(m:aj)(a1 a2 a3 a4:Option Addr)(n1 n2 n3 n4:Nat)(w:World)(h1:W.Gv w a1 m.ws)(h2:Gv w a2 m.rs)(h3:A.Ow w (ai a3 m.qs n3) m.qs 0)(h4:A.Gv w a4 m.gs)(hG:cQ m.ck ⟨m.rs,m.qs,m.gs,[]⟩)(hwl:m.ws.length<=10)(hc0:0<=m.ck)(Nn:m.ck<=1000000)(Ps:m.qs.length<=20):
  Calls prog 32 #[.agg (bK m a1 a2 a3 a4 n1 n2 n3 n4)] w fun e w'=>(∃v3 vo,e=.returned (.tuple #[.agg (bY m.nm m.up m.ck m.kn m.se (ai a1 m.ws n1) (ai a2 m.rs n2) v3 (ai a4 m.gs n4)),vo])/\A.Ow w' v3 (dC m.nm m.ck m.ws m.gs m.rs m.qs).1 0/\w'.ownsRow (w.heap.size+2) 43 7 vo (dC m.nm m.ck m.ws m.gs m.rs m.qs).2.length (Pc.aA (dC m.nm m.ck m.ws m.gs m.rs m.qs).2)/\eh v3 vo/\w.heap.size+1<w'.heap.size)/\Below w.heap.size w w':=by
 have S0:=ah (ic m a1 a2 a3 a4 n1 n2 n3 n4 w);have vz:(prog.info? 27).map (·.size)=some 9:=by kernel_rfl
 have vA:(prog.info? 37).map (·.size)=some 7:=by kernel_rfl
 obtain⟨i0,hi,hz0,hz1,hz2⟩:=info_parts Pc.cE;have I4:=ah h1;have HG2:=ah h2;have Uz:=ah h4;have RN:=ah hc0;have RO:=ah Nn;have LQ:=ah Ps;have hl1:m.ws.length<=1048576:=by omega
 have UA:=hG.qg.l4;obtain⟨D,hD⟩:∃D:WD,D=⟨m.rs,m.qs,m.gs,[]⟩:=⟨_,rfl⟩
 have Ur:=ah hD;have BI:Hid (cQ m.ck D):=by show cQ _ _;rw[hD];exact hG
 have hrl:=hG.ln;have UB:Hid (Aq w #[.string m.nm,.bool m.up,.int .i64 m.ck,.bool m.kn,.int .i64 m.se,.slice a1 m.ws.length n1,.slice a2 m.rs.length n2] (ai a3 m.qs n3) (ai a4 m.gs n4) m.qs [] (.slice (some ⟨w.heap.size+1+1,0,none⟩) 0 0) (((w.alloc (.cells (bK m a1 a2 a3 a4 n1 n2 n3 n4) 27)).alloc (.cells iU 27)).alloc (.cells #[] 43))):=by
  show Aq _ _ _ _ _ _ _ _;have hb2:Below w.heap.size w (((w.alloc (.cells (bK m a1 a2 a3 a4 n1 n2 n3 n4) 27)).alloc (.cells iU 27)).alloc (.cells #[] 43)):=ae S0.out.e _;refine⟨S0.out.below (ae bR _),h3.keep hb2,?_,fun j hj=>by have:=(h3.lt j hj).2;omega,?_,rfl⟩
  ·
   have:=World.ownsRow_made ((w.alloc (.cells (bK m a1 a2 a3 a4 n1 n2 n3 n4) 27)).alloc (.cells iU 27)) (base:=w.heap.size+2) (e:=43) (size:=7) #[] 0 (by simp) (Nat.zero_le _) rfl;rw[show((w.alloc (.cells (bK m a1 a2 a3 a4 n1 n2 n3 n4) 27)).alloc (.cells iU 27)).heap.size=w.heap.size+1+1 from by simp]at this;exact this
  cases hsb:(Value.slice a3 m.qs.length n3).ownBlock with
  |none=>exact Or.inl hsb
  |some j=>exact Or.inr (by rw[hsb];intro e;have h9:=(h3.lt j hsb).2;simp[Value.ownBlock]at e;omega)
 have UC:Hid (fP m.nm m.ck m.ws D 0=⟨m.rs,m.qs,m.gs,[]⟩):=by show _=_;rw[tN,hD]
 clear h1 h2 h3 h4 hG;have Es:=wm;go_enter func32,ntmps32
 go_wp2_with fail
 clear Es
 go_loopw [4,5] (fun v i wx=>∃(k:Nat),k<=m.rs.length/\i=.int .i64 k/\∃q lq lc,Hid (fP m.nm m.ck m.ws D k=⟨m.rs,lq,m.gs,lc⟩)/\Hid (Aq w #[.string m.nm,.bool m.up,.int .i64 m.ck,.bool m.kn,.int .i64 m.se,.slice a1 m.ws.length n1,.slice a2 m.rs.length n2] q (ai a4 m.gs n4) lq lc v wx)) (fun _ i _=>m.rs.length-(intOf i).toNat)
 case atStart=>exact⟨0,Nat.zero_le _,rfl,_,_,_,UC.out,UB.out⟩
 case round=>
  obtain⟨k,hk,rfl,q0,lq,lc,HK,HV⟩:=hrel;by_cases hlt:k<m.rs.length
  ·
   obtain⟨r,hr⟩:∃r,m.rs[k]?=some r:=⟨m.rs[k],List.getElem?_eq_getElem hlt⟩
   have Hr:Hid (D.rs[k]?=some r):=(by show D.rs[k]?=some r;rw[hD];exact hr);have i1:(k:Int)<(m.rs.length:Int):=(by omega);have I8:Hid (cQ m.ck ⟨m.rs,lq,m.gs,lc⟩/\lq.length<=m.qs.length+k/\lc.length<=k):=(by have h:=jE (nm:=m.nm) (ws:=m.ws) BI.out RN.out RO.out (by rw[hD];exact LQ.out) (by rw[hD];exact Nat.zero_le _) k;rw[HK.out,hD]at h;exact⟨h.1,h.2.1,by have:=h.2.2;simpa using this⟩);have hlq:lq.length<40:=(by have:=I8.out.2.1;have:=LQ.out;omega);have hlc:lc.length<=20:=(by have:=I8.out.2.2;omega);have Nb:=ah I8.out.1.qg;obtain⟨g2,rfl,hg2,hR2⟩:=HG2.out.resolve_left (fun h=>by rw[h]at hlt;simp at hlt);have vB:Hid (r.ok m.ck=true):=BI.out.rp.1 r (by rw[hD];exact List.mem_of_getElem? hr);have hcz:r.c.size<=maxLen:=(dN vB.out).1;have I5:Hid (∀y,Below w.heap.size w y->oN y g2 (k*11) r.c r.v r.h r.p r.s r.d r.g r.a r.b r.i r.u):=fun y hy=>by have:=(hR2.keep hg2 hy).at hr;simp only[Nat.zero_add]at this;exact this
   have ka:=HV.out.sc.b;obtain⟨q,hq⟩:∃q,wz (cI m.ws r.c)=q:=⟨_,rfl⟩
   obtain⟨b,hb⟩:∃b,(cI m.ws r.c).isSome=b:=⟨_,rfl⟩
   have HQ:=ah hq;have HB:=ah hb;obtain⟨c1,hc1⟩:∃c1,(eK m.ws r&&(!r.h.toList.isEmpty&&!jj m.gs r.h))=c1:=⟨_,rfl⟩
   have EV:=ah hc1;have K5:Hid (∀y,Below wr.heap.size wr y->y.cell? ⟨w.heap.size,5,none⟩=some (ai a1 m.ws n1)/\y.cell? ⟨w.heap.size,6,none⟩=some (.slice (some ⟨g2,0,none⟩) m.rs.length n2)/\y.cell? ⟨g2,k*11,none⟩=some (.string r.c)):=fun y hy=>by have hy2:=HV.out.keep hy;exact⟨hy2.sc.b 5,hy2.sc.b 6,(I5.out y hy2.sc.e).1⟩
   clear hr hq hb hR2 hc1
   go_upto_region 5 with(fail)
   clear ka;go_cut [6,7] (fun v5 v6 wx=>∃b5,v5=.pointer (some ⟨b5,0,none⟩)/\v6=.bool b/\Hid (wx.rangeAt b5 0 (iT q.c q.v q.h q.p q.s q.d q.g))/\b5<wx.heap.size/\wr.heap.size<=b5/\Hid (Below wr.heap.size wr wx))
   case first=>
    refine wp_region_noPanic ?_;refine wp_region_held_drew (S:=fun y=>y.cell? ⟨w.heap.size,5,none⟩=some (ai a1 m.ws n1)/\y.cell? ⟨w.heap.size,6,none⟩=some (.slice (some ⟨g2,0,none⟩) m.rs.length n2)/\y.cell? ⟨g2,k*11,none⟩=some (.string r.c)) (by kernel_rfl) (K5.out _ bD) (fun hHeld=>?_);refine aF 0 ?_;refine aF 1 ?_;try simp only[sp]
    refine aF 2 ?_;refine aF 3 ?_;try simp only[sp]
    refine aF 4 ?_;refine aF 5 ?_;try simp only[sp]
    refine aF 6 ?_;refine aF 7 ?_;try simp only[sp]
    refine aF 8 ?_;try simp only[sp]
    refine wpAnyH_ready (rs:=[9,13]) (by kernel_rfl) (by simp) ?_;refine AllReadyH.cons rfl (fun K hK=>?_) (AllReadyH.cons rfl (fun K hK=>?_) AllReadyH.nil)
    ·
     go_simp
     refine(lG a1 n1 m.ws r.c _ (I4.out.keep (af HV.out.sc.e bD)) hl1 HQ.out HB.out).mono ?_;rintro e y5 ⟨rfl,c5⟩;go_wp2_with fail
     refine hK.out _ _ (K5.out _ (af bD c5)) (fun hH1=>?_);clear hK K;try simp only[sp]
     refine aF 10 ?_;refine aF 11 ?_;try simp only[sp]
     refine aF 12 ?_;try simp only[sp]
     refine dJ 13 (by kernel_rfl) rfl fun K hK=>?_
     go_simp
     refine hK.out _ _ (K5.out _ (ae (af bD c5) _)) (fun hH2=>?_);clear hK K;try simp only[sp]
     refine dJ 14 (by kernel_rfl) rfl fun K hK=>?_
     go_simp
     refine hK.out _ _ (K5.out _ (ae (af bD c5) _)) (fun hH3=>?_);clear hK K;try simp only[sp]
     refine aF 15 ?_;try simp only[sp]
     refine wpAnyH_done (by kernel_rfl) ?_ _;refine NoPanic.normal ?_;clear hH1 hH2 hH3;go_wp2_with fail
     go_meet
     exact⟨_,rfl,rfl,by show World.rangeAt _ _ _ _;exact hU rfl bR,by simp,by have:=c5.size;simp at this;omega,ae (af bD c5) _⟩
    go_simp
    refine hK.out _ _ (K5.out _ (ae bD _)) (fun hH1=>?_);clear hK K;try simp only[sp]
    refine dJ 9 (by kernel_rfl) rfl fun K hK=>?_
    go_simp
    refine(lG a1 n1 m.ws r.c _ (I4.out.keep (af HV.out.sc.e (ae bD _))) hl1 HQ.out HB.out).mono ?_;rintro e y5 ⟨rfl,c5⟩;go_wp2_with fail
    have T5:Hid (y5.there wr.heap.size 0 7):=bd (x:=((World.drew wr).alloc (.cells (aX ⟨#[]⟩ 0 ⟨#[]⟩ 0 0 0 0) 37))) (fun j hj=>⟨by simp[go_sem];omega,by simp[go_sem]⟩) (by simp) c5;have B5:Hid (Below wr.heap.size wr y5):=af (ae bD _) c5;refine hK.out _ _ (K5.out _ B5.out) (fun hH2=>?_);clear hK K;try simp only[sp]
    refine aF 10 ?_;refine aF 11 ?_;try simp only[sp]
    refine aF 12 ?_;try simp only[sp]
    refine dJ 14 (by kernel_rfl) rfl fun K hK=>?_;refine bF (by rfl) ?_;refine wp_store_mid 37 _ _ (by rfl) wr.heap.size 0 (aX q.c q.v q.h q.p q.s q.d q.g) (by rfl) (by rfl) (by exact T5.out) vA (by simp[Value.oneCell']) ?_;refine hK.out _ _ (K5.out _ (cL (Nat.le_refl _) _ _ _ B5.out)) (fun hH3=>?_);clear hK K;try simp only[sp]
    refine aF 15 ?_;try simp only[sp]
    refine wpAnyH_done (by kernel_rfl) ?_ _;refine NoPanic.normal ?_;clear hH1 hH2 hH3;go_wp2_with fail
    go_meet
    exact⟨_,rfl,rfl,World.rangeAt_setCells_same y5 wr.heap.size 0 (iT q.c q.v q.h q.p q.s q.d q.g) T5.out,by rw[ev];have:=c5.size;simp at this;omega,Nat.le_refl _,cL (Nat.le_refl _) _ _ _ B5.out⟩
   rename World=>w4
   obtain⟨b5,rfl,rfl,R5,l5,hb5,yJ⟩:=hcut;have H4:=ah (HV.out.keep yJ.out);clear K5
   go_upto_region 6 with(fail)
   go_cut [55] (fun v wx=>v=.bool (!c1)/\Hid (Below w4.heap.size w4 wx))
   case first=>
    have LR:=ah (Uz.out.keep H4.out.sc.e);have RP:w4.cell? ⟨b5,0,none⟩=some (.string q.c):=(by have:=R5.out 0 _ rfl;rw[Nat.zero_add]at this;exact this);have RQ:w4.cell? ⟨b5,1,none⟩=some (.int .i64 q.v):=(by have:=R5.out 1 _ rfl;rw[Nat.zero_add]at this;exact this);have RR:w4.cell? ⟨b5,2,none⟩=some (.string q.h):=(by have:=R5.out 2 _ rfl;rw[Nat.zero_add]at this;exact this);have RS:w4.cell? ⟨b5,3,none⟩=some (.int .i64 q.p):=(by have:=R5.out 3 _ rfl;rw[Nat.zero_add]at this;exact this);have RX:w4.cell? ⟨b5,4,none⟩=some (.int .i64 q.s):=(by have:=R5.out 4 _ rfl;rw[Nat.zero_add]at this;exact this);have RY:w4.cell? ⟨b5,5,none⟩=some (.int .i64 q.d):=(by have:=R5.out 5 _ rfl;rw[Nat.zero_add]at this;exact this);have RZ:w4.cell? ⟨b5,6,none⟩=some (.int .i64 q.g):=(by have:=R5.out 6 _ rfl;rw[Nat.zero_add]at this;exact this);obtain⟨z0,z1,z2,z3,z4,z5,z6,z7,z8,z9,Ry⟩:=I5.out w4 H4.out.sc.e;have ka:=H4.out.sc.b;have HW:Hid (eK m.ws r=(b&&fL r.c r.h q.c q.h r.v r.p r.s r.d r.g q.v q.p q.s q.d q.g)):=(by show _=_;rw[gj,HQ.out,HB.out];rfl);cases b
    ·
     have HC:Hid (c1=false):=by show _=_;rw[<-EV.out,HW.out];rfl
     go_quiet (fail)
     go_wp2_with fail
     go_meet
     exact⟨by rw[HC.out];rfl,eM bR⟩
    cases hs:fL r.c r.h q.c q.h r.v r.p r.s r.d r.g q.v q.p q.s q.d q.g
    ·
     have hnw:∀wx,Sem.run prog (binOp .neq 37 (.agg (aX q.c q.v q.h q.p q.s q.d q.g)) (.agg (aX r.c r.v r.h r.p r.s r.d r.g))) wx=.ok (.bool true) wx:=fun wx=>by rw[jB,hs];rfl
     have HC:Hid (c1=false):=by show _=_;rw[<-EV.out,HW.out,hs];rfl
     go_quiet (fail)
     go_wp2_with fail
     go_meet
     exact⟨by rw[HC.out];rfl,eM bR⟩
    have hnw:∀wx,Sem.run prog (binOp .neq 37 (.agg (aX q.c q.v q.h q.p q.s q.d q.g)) (.agg (aX r.c r.v r.h r.p r.s r.d r.g))) wx=.ok (.bool false) wx:=fun wx=>by rw[jB,hs];rfl
    obtain⟨Dz,hqc⟩:=lJ (r:=r) (q:=q) hs;cases he:q.h.toList.isEmpty
    ·
     cases ha:bU m.gs q.h with
     |none=>
      have HC:Hid (c1=true):=(by show _=_;rw[<-EV.out,HW.out,hs,<-Dz,he,pX,ha];rfl);have UD:=ah (oj ha);have WN:=UD.out;clear Dz hqc hs ha
      go_quiet ((go_at_call 41;refine Calls.quiet_of_same (A.cG a4 _ m.gs q.h _ LR.out (by omega))))
      go_wp2_with fail
      go_meet
      exact⟨by rw[HC.out];rfl,eM bR⟩
     |some a9=>
      obtain⟨i9,hi9,-⟩:=oh ha;have HC:Hid (c1=false):=(by show _=_;rw[<-EV.out,HW.out,hs,<-Dz,he,pX,ha];rfl);clear Dz hqc hs ha
      go_quiet ((go_at_call 41;refine Calls.quiet_of_same (A.cG a4 _ m.gs q.h _ LR.out (by omega))))
      go_wp2_with fail
      go_meet
      exact⟨by rw[HC.out];rfl,eM bR⟩
    have HC:Hid (c1=false):=(by show _=_;rw[<-EV.out,HW.out,hs,<-Dz,he];rfl);clear Dz hqc hs
    go_quiet (fail)
    go_wp2_with fail
    go_meet
    exact⟨by rw[HC.out];rfl,eM bR⟩
   rename World=>w5
   obtain⟨rfl,AU⟩:=hcut;have H5:=ah (H4.out.keep AU.out);have Hj:Hid (∀du,jW m.ck lq r.h r.c=du->c1=true->ib m.ck m.ws D.gs (fP m.nm m.ck m.ws D k).qs r=du):=fun du h hc=>by rw[HK.out,hD];rw[AW (by rw[EV.out];exact hc)];exact h
   cases c1
   ·
    have G7:Hid (fP m.nm m.ck m.ws D (k+1)=fP m.nm m.ck m.ws D k):=vC Hr.out (by rw[HK.out,hD];exact ya EV.out);go_wp2_with fail
    exact⟨⟨k+1,by omega,by go_num,_,_,_,by show _=_;rw[G7.out];exact HK.out,H5.out⟩,by simp[intOf];omega⟩
   obtain⟨Dz,hqc⟩:q.h=r.h/\q.c=r.c:=by
    have hw:eK m.ws r=true:=by have:=EV.out;revert this;cases eK m.ws r<;>simp
    have hw':(b&&pY r q)=true:=(by rw[<-hw,gj,HQ.out,HB.out]);exact lJ (by revert hw';cases b<;>simp)
   have K5:Hid (∀y,Below w5.heap.size w5 y->y.cell? ⟨b5,0,none⟩=some (.string r.c)/\y.cell? ⟨b5,2,none⟩=some (.string r.h)):=fun y hy=>by have h:=ft R5.out l5 (af AU.out hy);have h0:=h 0 _ rfl;have h2:=h 2 _ rfl;rw[Nat.zero_add,hqc]at h0;rw[Nat.zero_add,Dz]at h2;exact⟨h0,h2⟩
   clear Dz hqc;have xq:=(K5.out w5 bR).1;have u9:=(K5.out w5 bR).2;obtain⟨aq,pq,rfl⟩:=H5.out.oq.shape;have xZ:=ah ((A.Ow.gv H5.out.oq).1);have py:Hid (jW m.ck lq r.h r.c=true->fP m.nm m.ck m.ws D (k+1)=⟨m.rs,Ord.cJ A.aM ⟨r.h,r.c,dH m.ck lq r.h r.c,m.ck⟩ lq,m.gs,lc++[(eB m.nm 2 0 r.h r.c m.ck)]⟩):=fun hd=>by have:=wn Hr.out (Hj.out _ hd rfl);rw[this,HK.out]
   have DF:Hid (jW m.ck lq r.h r.c=false->fP m.nm m.ck m.ws D (k+1)=fP m.nm m.ck m.ws D k):=fun hd=>vC Hr.out (Hj.out _ hd rfl);cases hao:bU lq r.h with
   |none=>
    obtain⟨W6,DG⟩:∃W6,W6=(w5.alloc (.cells (cZ r.h r.c m.ck m.ck) 64)):=⟨_,rfl⟩
    have Np:=ah DG;have KX:Hid (∀y,Below W6.heap.size W6 y->Er y w5.heap.size r.h r.c m.ck m.ck):=fun y hb=>by rw[DG]at hb;have hk:=aJ hb;exact⟨by rw[hk 0];simp[go_sem],by rw[hk 1];simp[go_sem],by rw[hk 2];simp[go_sem],by rw[hk 3];simp[go_sem]⟩
    have BJ:Hid (Below w5.heap.size w5 W6):=(by show Below _ _ _;rw[DG];exact ae bR _);have ka:=H5.out.sc.b;clear DG;have ou:jW m.ck lq r.h r.c=true:=(by unfold jW;rw[hao]);have EW:Hid (dH m.ck lq r.h r.c=m.ck):=(by show _=_;unfold dH;rw[hao]);have HH:=ah (oj hao);have Pt:=ah ou;clear hao ou
    go_upto_region 9 with(go_at_call 41;refine(A.cG aq _ lq r.h _ xZ.out (by omega)).mono ?_;rintro e w' ⟨rfl,jD⟩;rw[jD,HH.out];clear jD w')
    rw[<-Np.out];clear ka xq u9;go_cut [82] (fun v wx=>v=.bool false/\Hid (Below W6.heap.size W6 wx))
    case first=>
     go_quiet (fail)
     go_wp2_with fail
     go_meet
     exact⟨rfl,eM bR⟩
    rename World=>w6
    obtain⟨rfl,uB⟩:=hcut;have ox:=ah (af BJ.out uB.out);obtain⟨LU,LV,LW,LX⟩:=KX.out w6 uB.out;have xq:=(K5.out w6 ox.out).1;have u9:=(K5.out w6 ox.out).2;have ou:=Pt.out;have AY:Hid (fP m.nm m.ck m.ws D (k+1)=⟨m.rs,Ord.cJ A.aM ⟨r.h,r.c,m.ck,m.ck⟩ lq,m.gs,lc++[(eB m.nm 2 0 r.h r.c m.ck)]⟩):=(by show _=_;rw[py.out ou,EW.out]);have H6:=ah (H5.out.keep ox.out);have LY:=ah H6.out.oq;have Nq:=H6.out.sc.b;have LZ:b5≠w.heap.size:=(by have:=HV.out.lt;omega);have Ma:w.heap.size≠b5:=(by have:=HV.out.lt;omega);have hbb:=pZ m.nm 2 0 r.h r.c m.ck;clear ou py DF EW Hj;go_wp2_with (first|(go_at_call 85;refine(mY _ pq 0 lq ⟨r.h,r.c,m.ck,m.ck⟩ _ LY.out (by omega)).mono ?_;rintro e w7 ⟨⟨vs,rfl,hos⟩,c7⟩;have H8:Hid (Aq w _ _ _ _ lc u4 _):=H6.out.asks c7 hos;have uB:Hid (Below w5.heap.size w5 w7):=af ox.out c7;have Sb:=(H6.out.sc.below c7).c;have Se:∀j,w7.cell? ⟨w.heap.size,j,none⟩=((bY m.nm m.up m.ck m.kn m.se (ai a1 m.ws n1) (.slice (some ⟨g2,0,none⟩) m.rs.length n2) (ai aq lq pq) (ai a4 m.gs n4)):Array Value)[j]?:=(H6.out.sc.below c7).b;have N6:=(K5.out w7 uB.out).1;have Oa:=(K5.out w7 uB.out).2;obtain⟨Dv,ps,hss⟩:=hos.shape;obtain⟨ns,hns⟩:∃ns,ns=(Ord.cJ A.aM ⟨r.h,r.c,m.ck,m.ck⟩ lq).length:=⟨_,rfl⟩;rw[<-hns]at hss;subst hss;clear hos c7 hns)|(at_builtin;have H9:Hid (Aq w #[.string m.nm,.bool m.up,.int .i64 m.ck,.bool m.kn,.int .i64 m.se,.slice a1 m.ws.length n1,.slice (some ⟨g2,0,none⟩) m.rs.length n2] (.slice Dv ns ps) (ai a4 m.gs n4) (Ord.cJ A.aM ⟨r.h,r.c,m.ck,m.ck⟩ lq) lc u4 ((w7.setCell ⟨w.heap.size,7,none⟩ (.slice Dv ns ps)).alloc (.cells (eB m.nm 2 0 r.h r.c m.ck).cells.toArray 43))):=H8.out.keep (ae bR _);refine wpList_append_own_at _ rfl _ _ 30 rfl (w.heap.size+2) 43 i0 _ 7 96 underlying30 hi hz0 hz1 hz2 rfl (by decide) u4 lc.length _ rfl (by exact H9.out.ov) ⟨_,0,none⟩ 1 1 (eB m.nm 2 0 r.h r.c m.ck).cells rfl rfl (Pc.bG _ _ (by simp) _ _ _ rfl) (Pc.aU _) (by unfold maxLen;omega) (by omega) (by have h1:=H8.out.lt;simp at h1 ⊢;omega) ?_;intro v' y ho hg EU hat))
    have Dw:=H9.out.row (out':=lc++[(eB m.nm 2 0 r.h r.c m.ck)]) hg (by rw[List.length_append,Pc.cP];exact ho) (by rcases hat with h'|h';exact Or.inl h';exact Or.inr (by rw[h'];simp));exact⟨⟨k+1,by omega,by go_num,_,_,_,AY.out,Dw⟩,by simp[intOf];omega⟩
   |some a=>
    obtain⟨hma,Nf⟩:=dt hao;obtain⟨ia,hat,hia⟩:=oh hao;have Mb:=ah hao;have UE:=ah hma;have HH:=ah hat;have hil:ia<lq.length:=(List.getElem?_eq_some_iff.1 hia).1;obtain⟨gq,rfl,Pn,LL⟩:=xZ.out.resolve_left (fun h=>by rw[h]at hil;simp at hil);have xZ:=ah xZ.out;have KA:Hid (∀y,Below w5.heap.size w5 y->y.cell? ⟨w.heap.size,2,none⟩=some (.int .i64 m.ck)/\y.cell? ⟨w.heap.size,7,none⟩=some (.slice (some ⟨gq,0,none⟩) lq.length pq)/\Bw y gq (ia*4) a.h a.c a.f a.t):=fun y hy=>by have hy2:=H5.out.keep hy;have:=(LL.keep Pn hy).at hia;simp only[Nat.zero_add]at this;exact⟨hy2.sc.b 2,hy2.sc.b 7,this⟩
    obtain⟨c9,Nn⟩:∃c9,(a.c.toList==r.c.toList)=c9:=⟨_,rfl⟩
    have I9:=ah Nn;have i2:(ia:Int)<(lq.length:Int):=(by omega);obtain⟨W6,DG⟩:∃W6,W6=(w5.alloc (.cells (cZ r.h r.c m.ck m.ck) 64)):=⟨_,rfl⟩
    have Np:=ah DG;have KX:Hid (∀y,Below W6.heap.size W6 y->Er y w5.heap.size r.h r.c m.ck m.ck):=fun y hb=>by rw[DG]at hb;have hk:=aJ hb;exact⟨by rw[hk 0];simp[go_sem],by rw[hk 1];simp[go_sem],by rw[hk 2];simp[go_sem],by rw[hk 3];simp[go_sem]⟩
    have BJ:Hid (Below w5.heap.size w5 W6):=(by show Below _ _ _;rw[DG];exact ae bR _);have ka:=H5.out.sc.b;clear DG;have KF:Hid (∀y,Below W6.heap.size W6 y->y.frozen? ⟨w5.heap.size,2,none⟩=false):=fun y hb=>by rw[Np.out]at hb;exact(hb.frozen (p:=⟨w5.heap.size,2,none⟩) (by simp)).trans (by simp[go_sem])
    clear hao hat hia Nf hma LL Nn
    go_upto_region 9 with(go_at_call 41;refine(A.cG (some ⟨gq,0,none⟩) _ lq r.h _ xZ.out (by omega)).mono ?_;rintro e w' ⟨rfl,jD⟩;rw[jD,HH.out];clear jD w')
    rw[<-Np.out];clear ka xq u9;go_cut [82] (fun v wx=>v=.bool c9/\Hid (Below W6.heap.size W6 wx))
    case first=>
     obtain⟨Nj,Nh,ks,Ni,Ng,Nk⟩:=KA.out W6 BJ.out;obtain⟨LU,LV,LW,LX⟩:=KX.out W6 bR;have xq:=(K5.out W6 BJ.out).1;have u9:=(K5.out W6 BJ.out).2
     go_quiet (fail)
     go_wp2_with fail
     go_meet
     exact⟨by rw[I9.out],eM bR⟩
    rename World=>w6
    obtain⟨rfl,uB⟩:=hcut;have ox:=ah (af BJ.out uB.out);obtain⟨LU,LV,LW,LX⟩:=KX.out w6 uB.out;have xq:=(K5.out w6 ox.out).1;have u9:=(K5.out w6 ox.out).2;cases c9
    ·
     have ou:jW m.ck lq r.h r.c=true:=(by unfold jW;rw[Mb.out];show(!(a.c.toList==r.c.toList)||_)=_;rw[I9.out];rfl);have EW:Hid (dH m.ck lq r.h r.c=m.ck):=(by show _=_;unfold dH;rw[Mb.out];show(if(a.c.toList==r.c.toList)=true then a.f else m.ck)=_;rw[I9.out,if_neg (by simp)]);have AY:Hid (fP m.nm m.ck m.ws D (k+1)=⟨m.rs,Ord.cJ A.aM ⟨r.h,r.c,m.ck,m.ck⟩ lq,m.gs,lc++[(eB m.nm 2 0 r.h r.c m.ck)]⟩):=(by show _=_;rw[py.out ou,EW.out]);have H6:=ah (H5.out.keep ox.out);have LY:=ah H6.out.oq;have Nq:=H6.out.sc.b;have LZ:b5≠w.heap.size:=(by have:=HV.out.lt;omega);have Ma:w.heap.size≠b5:=(by have:=HV.out.lt;omega);have hbb:=pZ m.nm 2 0 r.h r.c m.ck;clear ou py DF EW Hj;go_wp2_with (first|(go_at_call 85;refine(mY _ pq 0 lq ⟨r.h,r.c,m.ck,m.ck⟩ _ LY.out (by omega)).mono ?_;rintro e w7 ⟨⟨vs,rfl,hos⟩,c7⟩;have H8:Hid (Aq w _ _ _ _ lc u4 _):=H6.out.asks c7 hos;have uB:Hid (Below w5.heap.size w5 w7):=af ox.out c7;have Sb:=(H6.out.sc.below c7).c;have Se:∀j,w7.cell? ⟨w.heap.size,j,none⟩=((bY m.nm m.up m.ck m.kn m.se (ai a1 m.ws n1) (.slice (some ⟨g2,0,none⟩) m.rs.length n2) (.slice (some ⟨gq,0,none⟩) lq.length pq) (ai a4 m.gs n4)):Array Value)[j]?:=(H6.out.sc.below c7).b;have N6:=(K5.out w7 uB.out).1;have Oa:=(K5.out w7 uB.out).2;obtain⟨Dv,ps,hss⟩:=hos.shape;obtain⟨ns,hns⟩:∃ns,ns=(Ord.cJ A.aM ⟨r.h,r.c,m.ck,m.ck⟩ lq).length:=⟨_,rfl⟩;rw[<-hns]at hss;subst hss;clear hos c7 hns)|(at_builtin;have H9:Hid (Aq w #[.string m.nm,.bool m.up,.int .i64 m.ck,.bool m.kn,.int .i64 m.se,.slice a1 m.ws.length n1,.slice (some ⟨g2,0,none⟩) m.rs.length n2] (.slice Dv ns ps) (ai a4 m.gs n4) (Ord.cJ A.aM ⟨r.h,r.c,m.ck,m.ck⟩ lq) lc u4 ((w7.setCell ⟨w.heap.size,7,none⟩ (.slice Dv ns ps)).alloc (.cells (eB m.nm 2 0 r.h r.c m.ck).cells.toArray 43))):=H8.out.keep (ae bR _);refine wpList_append_own_at _ rfl _ _ 30 rfl (w.heap.size+2) 43 i0 _ 7 96 underlying30 hi hz0 hz1 hz2 rfl (by decide) u4 lc.length _ rfl (by exact H9.out.ov) ⟨_,0,none⟩ 1 1 (eB m.nm 2 0 r.h r.c m.ck).cells rfl rfl (Pc.bG _ _ (by simp) _ _ _ rfl) (Pc.aU _) (by unfold maxLen;omega) (by omega) (by have h1:=H8.out.lt;simp at h1 ⊢;omega) ?_;intro v' y ho hg EU hat))
     have Dw:=H9.out.row (out':=lc++[(eB m.nm 2 0 r.h r.c m.ck)]) hg (by rw[List.length_append,Pc.cP];exact ho) (by rcases hat with h'|h';exact Or.inl h';exact Or.inr (by rw[h'];simp));exact⟨⟨k+1,by omega,by go_num,_,_,_,AY.out,Dw⟩,by simp[intOf];omega⟩
    have Mc:=Nb.out.v3 a UE.out;simp only[A.dR,cA,Bool.and_eq_true,decide_eq_true_eq]at Mc;have hat:0<=a.t/\a.t<=1000000:=(by omega);obtain⟨ht0,ht1⟩:=hat;clear Mc;have hc0:=RN.out;have UF:=RO.out;obtain⟨Nj,Nh,ks,Ni,Ng,Nk⟩:=KA.out w6 ox.out
    go_upto_region 10 with(fail)
    go_cut [92] (fun v wx=>v=.bool (decide (m.ck<a.t+6))/\Hid (Below w6.heap.size w6 wx))
    case first=>
     go_quiet (fail)
     go_wp2_with fail
     go_meet
     exact⟨rfl,eM bR⟩
    rename World=>Hw
    obtain⟨rfl,Pu⟩:=hcut;have Md:=ah (af ox.out Pu.out);clear Nj Nh ks Ni Ng Nk LU LV LW LX xq u9;by_cases hle:m.ck<a.t+6
    ·
     have G7:Hid (fP m.nm m.ck m.ws D (k+1)=fP m.nm m.ck m.ws D k):=DF.out (by unfold jW;rw[Mb.out];show(!(a.c.toList==r.c.toList)||_)=_;rw[I9.out,decide_eq_false (by omega)];rfl);rw[decide_eq_true hle];go_wp2_with fail
     exact⟨⟨k+1,by omega,by go_num,_,_,_,by show _=_;rw[G7.out];exact HK.out,H5.out.keep Md.out⟩,by simp[intOf];omega⟩
    have ou:jW m.ck lq r.h r.c=true:=(by unfold jW;rw[Mb.out];show(!(a.c.toList==r.c.toList)||_)=_;rw[I9.out,decide_eq_true (by omega)];rfl);have EW:Hid (dH m.ck lq r.h r.c=a.f):=(by show _=_;unfold dH;rw[Mb.out];show(if(a.c.toList==r.c.toList)=true then a.f else m.ck)=_;rw[I9.out,if_pos rfl]);rw[decide_eq_false hle];obtain⟨Nj,Nh,ks,Ni,Ng,Nk⟩:=KA.out Hw Md.out;obtain⟨LU,LV,LW,LX⟩:=KX.out Hw (af uB.out Pu.out);have xq:=(K5.out Hw Md.out).1;have u9:=(K5.out Hw Md.out).2;have WO:Hw.frozen? ⟨w5.heap.size,2,none⟩=false:=KF.out Hw (af uB.out Pu.out);have UG:=ox;clear ox;have ox:Hid (Below w5.heap.size w5 (Hw.setCell ⟨w5.heap.size,2,none⟩ (.int .i64 a.f))):=iY Md.out (Nat.le_refl _) _;have hn1:w5.heap.size≠w.heap.size:=(by have:=H5.out.lt;omega);have hn2:w.heap.size≠w5.heap.size:=(by have:=H5.out.lt;omega);have WQ:b5≠w5.heap.size:=(by have:=AU.out.size;omega);have UH:w5.heap.size≠b5:=(by have:=AU.out.size;omega);have AY:Hid (fP m.nm m.ck m.ws D (k+1)=⟨m.rs,Ord.cJ A.aM ⟨r.h,r.c,a.f,m.ck⟩ lq,m.gs,lc++[(eB m.nm 2 0 r.h r.c m.ck)]⟩):=(by show _=_;rw[py.out ou,EW.out]);have H6:=ah (H5.out.keep ox.out);have LY:=ah H6.out.oq;have Nq:=H6.out.sc.b;have LZ:b5≠w.heap.size:=(by have:=HV.out.lt;omega);have Ma:w.heap.size≠b5:=(by have:=HV.out.lt;omega);have hbb:=pZ m.nm 2 0 r.h r.c m.ck;clear ou py DF EW Hj;go_wp2_with (first|(go_at_call 85;refine(mY _ pq 0 lq ⟨r.h,r.c,a.f,m.ck⟩ _ LY.out (by omega)).mono ?_;rintro e w7 ⟨⟨vs,rfl,hos⟩,c7⟩;have H8:Hid (Aq w _ _ _ _ lc u4 _):=H6.out.asks c7 hos;have uB:Hid (Below w5.heap.size w5 w7):=af ox.out c7;have Sb:=(H6.out.sc.below c7).c;have Se:∀j,w7.cell? ⟨w.heap.size,j,none⟩=((bY m.nm m.up m.ck m.kn m.se (ai a1 m.ws n1) (.slice (some ⟨g2,0,none⟩) m.rs.length n2) (.slice (some ⟨gq,0,none⟩) lq.length pq) (ai a4 m.gs n4)):Array Value)[j]?:=(H6.out.sc.below c7).b;have N6:=(K5.out w7 uB.out).1;have Oa:=(K5.out w7 uB.out).2;obtain⟨Dv,ps,hss⟩:=hos.shape;obtain⟨ns,hns⟩:∃ns,ns=(Ord.cJ A.aM ⟨r.h,r.c,a.f,m.ck⟩ lq).length:=⟨_,rfl⟩;rw[<-hns]at hss;subst hss;clear hos c7 hns)|(at_builtin;have H9:Hid (Aq w #[.string m.nm,.bool m.up,.int .i64 m.ck,.bool m.kn,.int .i64 m.se,.slice a1 m.ws.length n1,.slice (some ⟨g2,0,none⟩) m.rs.length n2] (.slice Dv ns ps) (ai a4 m.gs n4) (Ord.cJ A.aM ⟨r.h,r.c,a.f,m.ck⟩ lq) lc u4 ((w7.setCell ⟨w.heap.size,7,none⟩ (.slice Dv ns ps)).alloc (.cells (eB m.nm 2 0 r.h r.c m.ck).cells.toArray 43))):=H8.out.keep (ae bR _);refine wpList_append_own_at _ rfl _ _ 30 rfl (w.heap.size+2) 43 i0 _ 7 96 underlying30 hi hz0 hz1 hz2 rfl (by decide) u4 lc.length _ rfl (by exact H9.out.ov) ⟨_,0,none⟩ 1 1 (eB m.nm 2 0 r.h r.c m.ck).cells rfl rfl (Pc.bG _ _ (by simp) _ _ _ rfl) (Pc.aU _) (by unfold maxLen;omega) (by omega) (by have h1:=H8.out.lt;simp at h1 ⊢;omega) ?_;intro v' y ho hg EU hat))
    have Dw:=H9.out.row (out':=lc++[(eB m.nm 2 0 r.h r.c m.ck)]) hg (by rw[List.length_append,Pc.cP];exact ho) (by rcases hat with h'|h';exact Or.inl h';exact Or.inr (by rw[h'];simp));exact⟨⟨k+1,by omega,by go_num,_,_,_,AY.out,Dw⟩,by simp[intOf];omega⟩
  have e9:k=m.rs.length:=by omega
  subst e9;clear hlt;have EX:Hid (lq=(dC m.nm m.ck m.ws m.gs m.rs m.qs).1/\lc=(dC m.nm m.ck m.ws m.gs m.rs m.qs).2):=by have h1:=HK.out;have h2:=jF m.nm m.ck m.ws D;rw[hD]at h1 h2;have h3:=h1.symm.trans h2;injection h3 with z1 z2 z3 z4;exact⟨z2,by rw[z4];rfl⟩
  obtain⟨aq,pq,rfl⟩:=HV.out.oq.shape;have ka:=HV.out.sc.b;go_wp2_with (refine wpList_store_mid (by rfl) 27 _ _ (by rfl) (w.heap.size+1) 0 (bY m.nm m.up m.ck m.kn m.se (ai a1 m.ws n1) (ai a2 m.rs n2) (ai aq lq pq) (ai a4 m.gs n4)) (by rfl) (by rfl) (by exact HV.out.sc.d) vz (by simp[Value.oneCell']) ?_)
  obtain⟨e1,e2,e3⟩:=HV.out.fin (dP m.nm m.up m.ck m.kn m.se (ai a1 m.ws n1) (ai a2 m.rs n2) (ai aq lq pq) (ai a4 m.gs n4));have hrg:=World.rangeAt_setCells_same wr (w.heap.size+1) 0 (dP m.nm m.up m.ck m.kn m.se (ai a1 m.ws n1) (ai a2 m.rs n2) (ai aq lq pq) (ai a4 m.gs n4)) HV.out.sc.d;obtain⟨d0,d1,d2,d3,d4,d5,d6,d7,d8⟩:=d9 hrg;obtain⟨z1,z2⟩:=EX.out;exact bodyPost_ret (v:=.tuple #[.agg (bY m.nm m.up m.ck m.kn m.se (ai a1 m.ws n1) (ai a2 m.rs n2) (ai aq lq pq) (ai a4 m.gs n4)),u4]) (by simp[results,results32,go_sem,d0,d1,d2,d3,d4,d5,d6,d7,d8]) rfl ⟨⟨_,_,rfl,by rw[<-z1];exact e1,by rw[<-z2];exact e2,HV.out.dq,Nat.lt_of_lt_of_le HV.out.lt (Ex.size ((Ex.refl (w.heap.size+1) wr).cells (dP m.nm m.up m.ck m.kn m.se (ai a1 m.ws n1) (ai a2 m.rs n2) (ai aq lq pq) (ai a4 m.gs n4)) 0))⟩,e3⟩
end Go.Proofs.YtlfnpjcjapljpaaGreatDoor
