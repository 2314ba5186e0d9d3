import Derived.Test.YtlfnpjcjapljpaaGreatDoorJ33
namespace Go.Proofs.YtlfnpjcjapljpaaGreatDoor
open Go.Proofs.Tryz Go.RowKit
set_option maxRecDepth 4000
set_option maxHeartbeats 8000000
set_option linter.unusedVariables false
def NY(v:Value):Prop:=∃x:ByteArray,v=.string x/\x.size=1
def NZ(v:Value):Prop:=∃(h c:ByteArray)(t:Int),v=.agg (cZ h c 0 t)/\h.size<=20/\c.size<=20/\-1000<=t/\t<=1000
def wN(B:Nat)(w:World)(v:Value):Prop:=∃u,v=.pointer (some ⟨u,0,none⟩)/\B<=u/\u<w.heap.size/\w.there u 0 4
theorem wN.keep{B kr:Nat}{w w':World}{v:Value}(h:wN B w v)(he:Ex kr w w')(hk:kr<B):wN B w' v:=by obtain⟨u,h1,h2,h3,h4⟩:=h;exact⟨u,h1,h2,Nat.lt_of_lt_of_le h3 he.size,bh h4 h3 he (by omega)⟩
def qE(i:Nat):Nat:=if i=14 then 8 else 102+i
theorem gA{i:Nat}(hi:i<15):∀j,j<15->qE j=qE i->j=i:=by intro j hj h;unfold qE at h;split at h<;>split at h<;>omega
def zi:Array Value:=#[.string ⟨#[105,112]⟩,.string ⟨#[118,111,108]⟩,.string ⟨#[118,111,108,50]⟩]
theorem JV(w:World):Sem.run prog (Instr.buildSlice 87 3 #[(0,.string ⟨#[105,112]⟩),(1,.string ⟨#[118,111,108]⟩),(2,.string ⟨#[118,111,108,50]⟩)]) w=.ok (.slice (some ⟨w.heap.size,0,none⟩) 3 3) (w.alloc (.cells zi 9)):=qB _ _ _ w
theorem dK{P:Program}{o:Oper}{a:Act}{w:World}{I:Act->World->Prop}{Q:Exit->Act->World->Prop}(h:∀K:Act->World->Prop,Hid (∀a w,I a w->K a w)->o.wp P a w K Q):o.wp P a w I Q:=h I (fun _ _ h=>h)
def qF(kr bm B k:Nat)(ck:Int)(w:World):Nat->Value->Prop
 |0,v=>lR mE B bm 3 w v
 |1,v=>v=.int .i64 (k:Int)
 |2,v=>Cell mE B bm w v
 |3,v=>mE v
 |4,v=>v=.pointer (some ⟨kr,0,none⟩)
 |5,v=>Num 0 3 v
 |6,v=>NY v
 |7,v=>mE v
 |8,v=>v=.pointer (some ⟨bm,2,none⟩)
 |9,v=>v=.int .i64 ck
 |10,v=>v=.pointer (some ⟨kr,0,none⟩)
 |11,v=>Num 0 11 v
 |12,v=>Num (-1000) 1000 v
 |13,v=>NZ v
 |14,v=>wN B w v
 |_,_=>True
theorem qF.keep{kr bm B k:Nat}{ck:Int}{w w':World}(he:Ex kr w w')(hk:kr<B):∀i v,qF kr bm B k ck w i v->qF kr bm B k ck w' i v
 |0,_,h=>lR.keep h he hk
 |1,_,h=>h
 |2,_,h=>Cell.keep h he hk
 |3,_,h=>h
 |4,_,h=>h
 |5,_,h=>h
 |6,_,h=>h
 |7,_,h=>h
 |8,_,h=>h
 |9,_,h=>h
 |10,_,h=>h
 |11,_,h=>h
 |12,_,h=>h
 |13,_,h=>h
 |14,_,h=>wN.keep h he hk
 |_+15,_,h=>h
theorem JW(kr:Nat)(q:Int)(w:World)(hr:Rq w kr q)(hq:q<500000):
  Calls prog 60 #[.pointer (some ⟨kr,0,none⟩)] w fun e w'=>∃m s1 s2 s3 s4,e=.returned (.agg (bY m.nm m.up m.ck m.kn m.se s1 s2 s3 s4))/\dI w' m s1 s2 s3 s4 w.heap.size/\(m.up=true->Ow w' s2 m.rs w.heap.size)/\(∃x1 n1,s1=.slice x1 m.ws.length n1/\m.ws.length<=n1)/\jZ m/\Rq w' kr (q+3000)/\Ex kr w w':=by
 have hkr:=hr.lt;have hinfo:(prog.info? 27).map (·.size)=some 9:=by kernel_rfl
 have HR:Hid (Rq (w.alloc (.cells iU 27)) kr q):=hr.below (ae bR _);clear hr;go_enter func60,ntmps60
 go_wp2_with fail
 refine(bO kr q 6 _ HR.out (by omega) (by omega) (by omega)).mono ?_;rintro e w1 ⟨p6,rfl,Tn,p61',r1,e1⟩;have T1:Hid (w1.there w.heap.size 0 9):=bh (ny w 27) (by simp) e1 (by omega);have E1:Hid (Ex kr w w1):=(Ex.of_below (ae bR _)).trans e1;have z1:w.heap.size<w1.heap.size:=Nat.lt_of_lt_of_le (by simp) e1.size;have R1:Hid (Rq w1 kr (q+1)):=r1;clear r1 e1 HR;go_wp2_with fail
 refine(bO kr _ 60 _ R1.out (by omega) (by omega) (by omega)).mono ?_;rintro e w2 ⟨p60,rfl,JX,Tp,r2,e2⟩;have z2:w.heap.size<w2.heap.size:=Nat.lt_of_lt_of_le z1 e2.size;have D2:Hid (Dm w kr w2.heap.size (⟨{data:=#[97]},decide (0<p6),p60,false,0,[],[],[],[]⟩:aj) (.slice none 0 0) (.slice none 0 0) (.slice none 0 0) (.slice none 0 0) (q+1+1) (w2.alloc (.cells (bY ⟨#[97]⟩ (decide (0<p6)) p60 false 0 (.slice none 0 0) (.slice none 0 0) (.slice none 0 0) (.slice none 0 0)) 27))):=FK (bh T1.out z1 e2 (by omega)) r2 (E1.out.trans e2) z2 hkr;clear r2 e2 R1 E1 T1;go_wp2_with fail
 refine(JR kr _ p60 _ D2.out.r (by omega) JX (by omega)).mono ?_;rintro e w3 ⟨rs,v,rfl,ho,hrl,hrs,r3,e3⟩;obtain⟨a2,c2,hs2⟩:=eE ho;subst hs2;have D3:Hid (Dm w kr w2.heap.size (⟨{data:=#[97]},decide (0<p6),p60,false,0,[],[],[],[]⟩:aj) (.slice none 0 0) (.slice none 0 0) (.slice none 0 0) (.slice none 0 0) (q+1+1+500) w3):=D2.out.pick e3 r3;have O3:Hid (Ow w3 (ai a2 rs c2) rs (w2.heap.size+1)):=by have h:=ho;rw[World.size_alloc]at h;exact h
 have HS:Hid (∀x∈rs,Small x):=hrs;clear ho r3 e3 D2 hrs;have kb:=D3.out.b;have kf:=D3.out.c;have kz:=D3.out.z;obtain⟨up,hup⟩:∃up,decide (0<p6)=up:=⟨_,rfl⟩
 have D4:Hid (Dm w kr w2.heap.size (⟨{data:=#[97]},decide (0<p6),p60,false,0,[],rs,[],[]⟩:aj) (.slice none 0 0) (ai a2 rs c2) (.slice none 0 0) (.slice none 0 0) (q+1+1+500) (w3.setCell ⟨w2.heap.size,6,none⟩ (ai a2 rs c2))):=D3.out.set 6 (ai a2 rs c2) (by omega) rfl ⟨W.Ow.nil _ _,O3.out,A.Ow.nil _ _,A.Ow.nil _ _,Or.inl rfl,Or.inl rfl,Or.inl rfl,kY _,kY _,Or.inl rfl⟩;rw[hup]at D4 kb ⊢;have HD:Hid (jZ (⟨{data:=#[97]},up,p60,false,0,[],rs,[],[]⟩:aj)):=⟨(by show(⟨#[97]⟩:ByteArray).size<=maxLen;unfold maxLen;decide),JX,(by show p60<=1000;omega),Nat.zero_le _,(fun x hx=>by cases hx),hrl,HS.out,Nat.zero_le _,(fun x hx=>by cases hx),Nat.zero_le _,(fun x hx=>by cases hx)⟩
 clear D3 O3 HS;cases up
 ·
  have h6:¬(0<p6):=of_decide_eq_false hup;clear hup;go_wp2_with fail
  clear kb kf kz;have hS:(w3.setCell ⟨w2.heap.size,6,none⟩ (ai a2 rs c2)).cell? ⟨w2.heap.size,0,none⟩=some (.string ⟨#[97]⟩)/\(w3.setCell ⟨w2.heap.size,6,none⟩ (ai a2 rs c2)).cell? ⟨w2.heap.size,1,none⟩=some (.bool false)/\(w3.setCell ⟨w2.heap.size,6,none⟩ (ai a2 rs c2)).cell? ⟨w2.heap.size,2,none⟩=some (.int .i64 p60)/\(w3.setCell ⟨w2.heap.size,6,none⟩ (ai a2 rs c2)).cell? ⟨w2.heap.size,3,none⟩=some (.bool false)/\(w3.setCell ⟨w2.heap.size,6,none⟩ (ai a2 rs c2)).cell? ⟨w2.heap.size,4,none⟩=some (.int .i64 0)/\(w3.setCell ⟨w2.heap.size,6,none⟩ (ai a2 rs c2)).cell? ⟨w2.heap.size,5,none⟩=some (.slice none 0 0)/\(w3.setCell ⟨w2.heap.size,6,none⟩ (ai a2 rs c2)).cell? ⟨w2.heap.size,6,none⟩=some (ai a2 rs c2)/\(w3.setCell ⟨w2.heap.size,6,none⟩ (ai a2 rs c2)).cell? ⟨w2.heap.size,7,none⟩=some (.slice none 0 0)/\(w3.setCell ⟨w2.heap.size,6,none⟩ (ai a2 rs c2)).cell? ⟨w2.heap.size,8,none⟩=some (.slice none 0 0):=⟨D4.out.b 0,D4.out.b 1,D4.out.b 2,D4.out.b 3,D4.out.b 4,D4.out.b 5,D4.out.b 6,D4.out.b 7,D4.out.b 8⟩
  refine wp_region_noPanic ?_;refine wp_region_held_drew (S:=(fun y=>BN y w2.heap.size ⟨#[97]⟩ false p60 false 0 (.slice none 0 0) (ai a2 rs c2) (.slice none 0 0) (.slice none 0 0))) (by kernel_rfl) (⟨(D4.out.below bD).b 0,(D4.out.below bD).b 1,(D4.out.below bD).b 2,(D4.out.below bD).b 3,(D4.out.below bD).b 4,(D4.out.below bD).b 5,(D4.out.below bD).b 6,(D4.out.below bD).b 7,(D4.out.below bD).b 8⟩) (fun hHeld=>?_);clear hS;refine aF 0 ?_;try simp only[sp]
  refine aF 1 ?_;try simp only[sp]
  refine dJ 2 (by kernel_rfl) rfl fun K hK=>?_
  go_simp
  refine(bO kr _ 3 _ (D4.out.below bD).r (by omega) (by omega) (by omega)).mono ?_;rintro e y1 ⟨p3,rfl,p30,p31,r5,e5⟩;have D5:Hid (Dm w kr w2.heap.size (⟨{data:=#[97]},false,p60,false,0,[],rs,[],[]⟩:aj) (.slice none 0 0) (ai a2 rs c2) (.slice none 0 0) (.slice none 0 0) (q+1+1+500+1) y1):=(D4.out.below bD).pick e5 r5;clear r5 e5;go_wp2_with fail
  refine hK.out _ _ (⟨D5.out.b 0,D5.out.b 1,D5.out.b 2,D5.out.b 3,D5.out.b 4,D5.out.b 5,D5.out.b 6,D5.out.b 7,D5.out.b 8⟩) (fun cq=>?_);clear hK K hHeld;try simp only[sp]
  refine aF 3 ?_;try simp only[sp]
  obtain⟨dm,JY⟩:∃dm,dm=(p3==0):=⟨_,rfl⟩
  refine dJ 4 (by kernel_rfl) rfl fun K hK=>?_
  go_simp
  rw[<-JY];refine(pG dm (⟨{data:=#[97]},false,p60,false,0,[],rs,[],[]⟩:aj) none a2 none none 0 c2 0 0 _ ⟨(D5.out.l.a1.sl).src,(D5.out.l.a2.sl).src,(D5.out.l.a3.sl).src,(D5.out.l.a4.sl).src,Nat.zero_le _⟩ HD.out.fits).mono ?_;rintro e y2 ⟨⟨r,v1,v2,v3,v4,rfl,hF,R⟩,b6⟩;obtain⟨t1,u1,hs1⟩:=W.Sl.shape R.a1;subst hs1;obtain⟨t2,u2,hs2⟩:=Sl.shape R.a2;subst hs2;obtain⟨t3,u3,hs3⟩:=A.Sl.shape R.a3;subst hs3;obtain⟨t4,u4,hs4⟩:=A.Sl.shape R.a4;subst hs4;have D6:Hid (Dm w kr w2.heap.size (⟨{data:=#[97]},false,p60,false,0,[],rs,[],[]⟩:aj) (.slice none 0 0) (ai a2 rs c2) (.slice none 0 0) (.slice none 0 0) (q+1+1+500+1) y2):=D5.out.below b6;have R6:Hid (dI y2 r (ai t1 r.ws u1) (ai t2 r.rs u2) (ai t3 r.qs u3) (ai t4 r.gs u4) y1.heap.size):=R;have z6:w2.heap.size<y1.heap.size:=D5.out.z;clear R b6 D5;go_wp2_with fail
  refine hK.out _ _ (⟨D6.out.b 0,D6.out.b 1,D6.out.b 2,D6.out.b 3,D6.out.b 4,D6.out.b 5,D6.out.b 6,D6.out.b 7,D6.out.b 8⟩) (fun ep=>?_);clear hK K cq;try simp only[sp]
  have ho:=ones r R6.out.a1 R6.out.a2 R6.out.a3 R6.out.a4;refine dJ 5 (by kernel_rfl) rfl fun K hK=>?_;refine iD (by rfl) ?_;refine wp_store_mid 27 _ _ (by rfl) w.heap.size 0 (bK r t1 t2 t3 t4 u1 u2 u3 u4) (by rfl) (by rfl) (by exact D6.out.d) hinfo (by exact all_oneCell_toArray ho) ?_;have hE:Ex w.heap.size y2 (y2.setCells w.heap.size 0 (kg r t1 t2 t3 t4 u1 u2 u3 u4)):=(Ex.refl _ _).cells _ _;have IW:=D6.out.zw;refine hK.out _ _ (by have h:=D6.out.b;exact⟨(hE.cell (p:=⟨w2.heap.size,0,none⟩) D6.out.z (by show w2.heap.size≠w.heap.size;omega)).trans (h 0),(hE.cell (p:=⟨w2.heap.size,1,none⟩) D6.out.z (by show w2.heap.size≠w.heap.size;omega)).trans (h 1),(hE.cell (p:=⟨w2.heap.size,2,none⟩) D6.out.z (by show w2.heap.size≠w.heap.size;omega)).trans (h 2),(hE.cell (p:=⟨w2.heap.size,3,none⟩) D6.out.z (by show w2.heap.size≠w.heap.size;omega)).trans (h 3),(hE.cell (p:=⟨w2.heap.size,4,none⟩) D6.out.z (by show w2.heap.size≠w.heap.size;omega)).trans (h 4),(hE.cell (p:=⟨w2.heap.size,5,none⟩) D6.out.z (by show w2.heap.size≠w.heap.size;omega)).trans (h 5),(hE.cell (p:=⟨w2.heap.size,6,none⟩) D6.out.z (by show w2.heap.size≠w.heap.size;omega)).trans (h 6),(hE.cell (p:=⟨w2.heap.size,7,none⟩) D6.out.z (by show w2.heap.size≠w.heap.size;omega)).trans (h 7),(hE.cell (p:=⟨w2.heap.size,8,none⟩) D6.out.z (by show w2.heap.size≠w.heap.size;omega)).trans (h 8)⟩) (fun JZ=>?_);clear hK K ep JZ;refine wpAnyH_done (by kernel_rfl) ?_ _;refine NoPanic.normal ?_;have hrg:=World.rangeAt_setCells_same y2 w.heap.size 0 (kg r t1 t2 t3 t4 u1 u2 u3 u4) D6.out.d;obtain⟨d0,d1,d2,d3,d4,d5,d6,d7,d8⟩:=d9 hrg;go_wp2_with fail
  have hg:y2.grownBy (y2.setCells w.heap.size 0 (kg r t1 t2 t3 t4 u1 u2 u3 u4)) (some w.heap.size):=A.av hE;exact bodyPost_ret (v:=.agg (bK r t1 t2 t3 t4 u1 u2 u3 u4)) (by simp[results,results60,go_sem,d0,d1,d2,d3,d4,d5,d6,d7,d8]) rfl ⟨r,_,_,_,_,rfl,(R6.out.ex hE (by omega)).low (by omega),fun hu=>absurd hu (by rcases hF with⟨-,rfl⟩|⟨-,rfl⟩<;>simp[fQ,ju]),⟨_,_,rfl,by rcases hF with⟨-,rfl⟩|⟨-,rfl⟩<;>exact Nat.zero_le _⟩,uK HD.out hF,(D6.out.r.grown hg (fun k hk=>by cases hk;omega)).up (by omega),D6.out.e.grown hg (fun k hk=>by cases hk;exact Nat.le_refl _)⟩
 ·
  have h6:0<p6:=of_decide_eq_true hup;clear hup;go_wp2_with fail
  clear kb kf kz;refine(bO kr _ 6 _ D4.out.r (by omega) (by omega) (by omega)).mono ?_;rintro e w5 ⟨p,rfl,VU,VW,r5,e5⟩;have D5:Hid (Dm w kr w2.heap.size (⟨{data:=#[97]},true,p60,false,0,[],rs,[],[]⟩:aj) (.slice none 0 0) (ai a2 rs c2) (.slice none 0 0) (.slice none 0 0) (q+1+1+500+1) w5):=D4.out.pick e5 r5;have HS:Hid (∀x∈rs,Small x):=HD.out.r2;clear r5 e5 D4
  go_upto_if 31 with(fail)
  go_cut [] (fun wx=>∃m s1 s2,Hid (Dm w kr w2.heap.size m s1 s2 (.slice none 0 0) (.slice none 0 0) (q+800) wx)/\Hid (jZ m)/\m.up=true/\m.qs=[]/\m.gs=[])
  case first=>
   by_cases hp:0<p
   ·
    have kb:=D5.out.b;have kf:=D5.out.c;have kz:=D5.out.z;go_wp2_with fail
    clear kb kf kz;have D6:Hid (Dm w kr w2.heap.size (⟨{data:=#[97]},true,p60,true,0,[],rs,[],[]⟩:aj) (.slice none 0 0) (ai a2 rs c2) (.slice none 0 0) (.slice none 0 0) (q+1+1+500+1) (w5.setCell ⟨w2.heap.size,3,none⟩ (.bool true))):=D5.out.set 3 (.bool true) (by omega) rfl ⟨D5.out.l.a1,D5.out.l.a2,D5.out.l.a3,D5.out.l.a4,D5.out.l.gR,D5.out.l.im,D5.out.l.iq,D5.out.l.iu,D5.out.l.iV,D5.out.l.jo⟩;refine(bO kr _ 4 _ D6.out.r (by omega) (by omega) (by omega)).mono ?_;rintro e w6 ⟨p4,rfl,p40,p41,r6,e6⟩;have D7:Hid (Dm w kr w2.heap.size (⟨{data:=#[97]},true,p60,true,0,[],rs,[],[]⟩:aj) (.slice none 0 0) (ai a2 rs c2) (.slice none 0 0) (.slice none 0 0) (q+1+1+500+1+1) w6):=D6.out.pick e6 r6;clear r6 e6 D6;have kb:=D7.out.b;have kf:=D7.out.c;have kz:=D7.out.z;go_wp2_with fail
    clear kb kf kz;have D8:Hid (Dm w kr w2.heap.size (⟨{data:=#[97]},true,p60,true,p4,[],rs,[],[]⟩:aj) (.slice none 0 0) (ai a2 rs c2) (.slice none 0 0) (.slice none 0 0) (q+1+1+500+1+1) (w6.setCell ⟨w2.heap.size,4,none⟩ (.int .i64 p4))):=D7.out.set 4 (.int .i64 p4) (by omega) rfl ⟨D7.out.l.a1,D7.out.l.a2,D7.out.l.a3,D7.out.l.a4,D7.out.l.gR,D7.out.l.im,D7.out.l.iq,D7.out.l.iu,D7.out.l.iV,D7.out.l.jo⟩;refine(yT kr _ _ D8.out.r (by omega)).mono ?_;rintro e w7 ⟨ws,v,rfl,ho,hwl,hwf,r7,e7⟩;obtain⟨a1,c1,hs1⟩:=eE ho;subst hs1;have D9:Hid (Dm w kr w2.heap.size (⟨{data:=#[97]},true,p60,true,p4,[],rs,[],[]⟩:aj) (.slice none 0 0) (ai a2 rs c2) (.slice none 0 0) (.slice none 0 0) (q+1+1+500+1+1+100) w7):=D8.out.pick e7 r7;have O9:Hid (W.Ow w7 (ai a1 ws c1) ws (w6.setCell ⟨w2.heap.size,4,none⟩ (.int .i64 p4)).heap.size):=ho;have L9:Hid (∀j,(Value.slice a2 rs.length c2).ownBlock=some j->j<(w6.setCell ⟨w2.heap.size,4,none⟩ (.int .i64 p4)).heap.size):=fun j hj=>(D8.out.l.a2.lt j hj).2;have z9:w2.heap.size<(w6.setCell ⟨w2.heap.size,4,none⟩ (.int .i64 p4)).heap.size:=D8.out.z;have HW:Hid (∀x∈ws,x.fits):=hwf;clear r7 e7 D8 D7 ho hwf D5;have kb:=D9.out.b;have kf:=D9.out.c;have kz:=D9.out.z;go_wp2_with fail
    clear kb kf kz;have DA:Hid (Dm w kr w2.heap.size (⟨{data:=#[97]},true,p60,true,p4,ws,rs,[],[]⟩:aj) (ai a1 ws c1) (ai a2 rs c2) (.slice none 0 0) (.slice none 0 0) (q+608) (w7.setCell ⟨w2.heap.size,5,none⟩ (ai a1 ws c1))):=Dm.up (D9.out.set 5 (ai a1 ws c1) (by omega) rfl ⟨O9.out.low (by omega),D9.out.l.a2,D9.out.l.a3,D9.out.l.a4,eh.symm (cj (fun g hg=>L9.out g hg) (fun g hg=>(O9.out.lt g hg).1) (Nat.le_refl _)),kY _,kY _,D9.out.l.iu,D9.out.l.iV,D9.out.l.jo⟩) (by omega);clear D9 O9 L9 z9
    go_loopw [4] (fun i wx=>∃(k:Nat)(rs':List aw),k<=rs.length/\i=.int .i64 k/\rs'.length=rs.length/\Hid (∀x∈rs',Small x)/\Hid (Dm w kr w2.heap.size (⟨{data:=#[97]},true,p60,true,p4,ws,rs',[],[]⟩:aj) (ai a1 ws c1) (ai a2 rs c2) (.slice none 0 0) (.slice none 0 0) (q+608+k) wx)) (fun i _=>rs.length-(intOf i).toNat)
    case atStart=>exact⟨0,rs,Nat.zero_le _,rfl,rfl,HS.out,DA.out.up (by omega)⟩
    obtain⟨k,rs',hk,rfl,mO,EA,HK⟩:=hrel;have kb:=HK.out.b;by_cases hlt:k<rs.length
    ·
     obtain⟨g,cc,hv,hg1,hg2,hR,hth⟩:=HK.out.l.a2.blk (i:=k) (by show k<rs'.length;omega);simp only[Value.slice.injEq]at hv;obtain⟨rfl,-,rfl⟩:=hv;obtain⟨r,hr⟩:∃r,rs'[k]?=some r:=⟨rs'[k]'(by omega),List.getElem?_eq_getElem (by omega)⟩
     have Hr:Hid (rs'[k]?=some r):=hr
     go_upto_region 12 with(fail)
     have lT:(prog.info? 37).map (·.size)=some 7:=(by kernel_rfl);have J0:wr.cell? ⟨g,k*11,none⟩=some (.string r.c):=(by have h:=(hR.at hr).1;simpa using h);have KS:Hid (∀y,Below wr.heap.size wr y->(y.cell? ⟨w2.heap.size,5,none⟩=some (ai a1 ws c1)/\y.cell? ⟨w2.heap.size,6,none⟩=some (.slice (some ⟨g,0,none⟩) rs.length c2)/\y.cell? ⟨g,k*11,none⟩=some (.string r.c))):=fun y hb=>⟨(HK.out.below hb).b 5,(HK.out.below hb).b 6,(hb.cell (p:=⟨g,k*11,none⟩) hg2).trans J0⟩
     have i0:(0:Int)<=(k:Int):=(by omega);have i1:(k:Int)<(rs.length:Int):=(by omega);clear J0 kb;go_cut [5,6] (fun v5 v6 wx=>∃(t:W.ay)(b:Bool)(u:Nat),v5=.pointer (some ⟨u,0,none⟩)/\v6=.bool b/\t.fits/\wr.heap.size<=u/\u<wx.heap.size/\wx.rangeAt u 0 (iT t.c t.v t.h t.p t.s t.d t.g)/\wx.there u 0 7/\Below wr.heap.size wr wx)
     case first=>
      refine wp_region_noPanic ?_;refine wp_region_held_drew (S:=(fun y=>(y.cell? ⟨w2.heap.size,5,none⟩=some (ai a1 ws c1)/\y.cell? ⟨w2.heap.size,6,none⟩=some (.slice (some ⟨g,0,none⟩) rs.length c2)/\y.cell? ⟨g,k*11,none⟩=some (.string r.c)))) (by kernel_rfl) (KS.out _ bD) (fun hHeld=>?_);refine aF 0 ?_;try simp only[sp]
      refine aF 1 ?_;try simp only[sp]
      refine aF 2 ?_;try simp only[sp]
      refine aF 3 ?_;try simp only[sp]
      refine aF 4 ?_;try simp only[sp]
      refine aF 5 ?_;try simp only[sp]
      refine aF 6 ?_;try simp only[sp]
      refine aF 7 ?_;try simp only[sp]
      refine aF 8 ?_;try simp only[sp]
      refine wpAnyH_ready (rs:=[9,13]) (by kernel_rfl) (by simp) ?_;refine AllReadyH.cons rfl (fun K hK=>?_) (AllReadyH.cons rfl (fun K hK=>?_) AllReadyH.nil)
      ·
       go_simp
       refine(Ez a1 c1 ws r.c _ ((HK.out.l.a1.sl.gv).keep bD) HW.out (by omega)).mono ?_;rintro e y1 ⟨t,bb,rfl,ht,b9⟩;have Ht:Hid (t.fits):=ht;clear ht;have hb1:Below wr.heap.size wr y1:=af bD b9;go_wp2_with fail
       refine hK.out _ _ (KS.out _ hb1) (fun hH1=>?_);clear hK K hHeld b9;try simp only[sp]
       refine aF 10 ?_;try simp only[sp]
       refine aF 11 ?_;try simp only[sp]
       refine aF 12 ?_;try simp only[sp]
       refine dJ 13 (by kernel_rfl) rfl fun K hK=>?_
       go_simp
       refine hK.out _ _ (KS.out _ (ae hb1 (.cells (aX ⟨#[]⟩ 0 ⟨#[]⟩ 0 0 0 0) 37))) (fun hH2=>?_);clear hK K hH1;try simp only[sp]
       have hzu:y1.heap.size<(y1.alloc (.cells (aX ⟨#[]⟩ 0 ⟨#[]⟩ 0 0 0 0) 37)).heap.size:=(by simp);have uL:=qD y1 37;refine dJ 14 (by kernel_rfl) rfl fun K hK=>?_;refine iD (by rfl) ?_;refine wp_store_mid 37 _ _ (by rfl) y1.heap.size 0 (aX t.c t.v t.h t.p t.s t.d t.g) (by rfl) (by rfl) (by exact uL) lT (by simp[Value.oneCell']) ?_;have hB:Below wr.heap.size wr ((y1.alloc (.cells (aX ⟨#[]⟩ 0 ⟨#[]⟩ 0 0 0 0) 37)).setCells y1.heap.size 0 (iT t.c t.v t.h t.p t.s t.d t.g)):=Ex.mono (ae hb1 _) ((Ex.refl y1.heap.size _).cells (iT t.c t.v t.h t.p t.s t.d t.g) 0) hb1.size;refine hK.out _ _ (KS.out _ hB) (fun hL=>?_);clear hK K hH2;try simp only[Act.put]
       refine aF 15 ?_;try simp only[sp]
       refine wpAnyH_done (by kernel_rfl) ?_ _;refine NoPanic.normal ?_;go_wp2_with fail
       go_meet
       exact⟨t,bb,y1.heap.size,rfl,rfl,Ht.out,hb1.size,Nat.lt_of_lt_of_le (by first|exact hzu|simp) ((Ex.refl y1.heap.size (y1.alloc (.cells (aX ⟨#[]⟩ 0 ⟨#[]⟩ 0 0 0 0) 37))).cells (iT t.c t.v t.h t.p t.s t.d t.g) 0).size,World.rangeAt_setCells_same (y1.alloc (.cells (aX ⟨#[]⟩ 0 ⟨#[]⟩ 0 0 0 0) 37)) y1.heap.size 0 (iT t.c t.v t.h t.p t.s t.d t.g) uL,World.there_setCells uL y1.heap.size 0 (iT t.c t.v t.h t.p t.s t.d t.g),hB⟩
      go_simp
      have hb0:Below wr.heap.size wr (wr.alloc (.cells (aX ⟨#[]⟩ 0 ⟨#[]⟩ 0 0 0 0) 37)).drew:=au (ae bR _);refine hK.out _ _ (KS.out _ hb0) (fun hH1=>?_);clear hK K hHeld;try simp only[sp]
      refine dJ 9 (by kernel_rfl) rfl fun K hK=>?_
      go_simp
      refine(Ez a1 c1 ws r.c _ ((HK.out.l.a1.sl.gv).keep hb0) HW.out (by omega)).mono ?_;rintro e y1 ⟨t,bb,rfl,ht,b9⟩;have Ht:Hid (t.fits):=ht;clear ht;have hb1:Below wr.heap.size wr y1:=af hb0 b9;have hzu:wr.heap.size<y1.heap.size:=Nat.lt_of_lt_of_le (by simp) b9.size;have uL:y1.there wr.heap.size 0 7:=bd (qD wr 37) (by simp) (af bD b9);go_wp2_with fail
      refine hK.out _ _ (KS.out _ hb1) (fun hH2=>?_);clear hK K hH1 b9;try simp only[sp]
      refine aF 10 ?_;try simp only[sp]
      refine aF 11 ?_;try simp only[sp]
      refine aF 12 ?_;try simp only[sp]
      refine dJ 14 (by kernel_rfl) rfl fun K hK=>?_;refine iD (by rfl) ?_;refine wp_store_mid 37 _ _ (by rfl) wr.heap.size 0 (aX t.c t.v t.h t.p t.s t.d t.g) (by rfl) (by rfl) (by exact uL) lT (by simp[Value.oneCell']) ?_;have hB:Below wr.heap.size wr (y1.setCells wr.heap.size 0 (iT t.c t.v t.h t.p t.s t.d t.g)):=Ex.mono hb1 ((Ex.refl wr.heap.size _).cells (iT t.c t.v t.h t.p t.s t.d t.g) 0) (Nat.le_refl _);refine hK.out _ _ (KS.out _ hB) (fun hL=>?_);clear hK K hH2;try simp only[Act.put]
      refine aF 15 ?_;try simp only[sp]
      refine wpAnyH_done (by kernel_rfl) ?_ _;refine NoPanic.normal ?_;go_wp2_with fail
      go_meet
      exact⟨t,bb,wr.heap.size,rfl,rfl,Ht.out,(Nat.le_refl _),Nat.lt_of_lt_of_le (by first|exact hzu|simp) ((Ex.refl wr.heap.size y1).cells (iT t.c t.v t.h t.p t.s t.d t.g) 0).size,World.rangeAt_setCells_same y1 wr.heap.size 0 (iT t.c t.v t.h t.p t.s t.d t.g) uL,World.there_setCells uL wr.heap.size 0 (iT t.c t.v t.h t.p t.s t.d t.g),hB⟩
     obtain⟨t,b,u,rfl,rfl,ht,hu0,hu1,zj,Cl,hbb⟩:=hcut;have Ht:Hid (t.fits):=ht;have Hm:Hid (Small r):=EA.out r (List.mem_of_getElem? Hr.out);have oO:Hid (Dm w kr w2.heap.size (⟨{data:=#[97]},true,p60,true,p4,ws,rs',[],[]⟩:aj) (ai a1 ws c1) (.slice (some ⟨g,0,none⟩) rs.length c2) (.slice none 0 0) (.slice none 0 0) (q+608+k) wc):=HK.out.below hbb;have Tq:kr<u:=(by have h1:=HK.out.e.size;omega);have RU:Hid (wc.rangeAt u 0 (iT t.c t.v t.h t.p t.s t.d t.g)):=zj;have hgu:g≠u:=(by omega);have Tr:u≠g:=(by omega);clear ht zj Cl hbb HK KS hR hth;cases b
     ·
      go_wp2
      exact⟨⟨k+1,rs',by omega,by go_num,by first|exact mO|(rw[List.length_set];exact mO),EA.out,Dm.up oO.out (by omega)⟩,by simp[intOf];omega⟩
     go_wp2_with fail
     refine(bO kr _ 4 _ oO.out.r (by omega) (by omega) (by omega)).mono ?_;rintro e w8 ⟨p8,rfl,VX,VY,r8,e8⟩;have qx:Hid (Dm w kr w2.heap.size (⟨{data:=#[97]},true,p60,true,p4,ws,rs',[],[]⟩:aj) (ai a1 ws c1) (.slice (some ⟨g,0,none⟩) rs.length c2) (.slice none 0 0) (.slice none 0 0) (q+608+k+1) w8):=oO.out.pick e8 r8;have Ts:u<w8.heap.size:=Nat.lt_of_lt_of_le hu1 e8.size;have cu:∀j v,(iT t.c t.v t.h t.p t.s t.d t.g)[j]?=some v->w8.cell? ⟨u,j,none⟩=some v:=fun j v hj=>(e8.cell (p:=⟨u,j,none⟩) hu1 (by show u≠kr;omega)).trans (by have:=RU.out j v hj;rwa [Nat.zero_add]at this);have N0:=cu 0 _ rfl;have V0:=cu 1 _ rfl;have Tt:=cu 2 _ rfl;have N3:=cu 3 _ rfl;have V2:=cu 4 _ rfl;have V3:=cu 5 _ rfl;have V4:=cu 6 _ rfl;clear r8 e8 oO RU cu;by_cases V5:0<p8
     ·
      obtain⟨g9,c9,sM,-,lU,-,eP⟩:=qx.out.l.a2.blk (i:=k) (by show k<rs'.length;omega);simp only[Value.slice.injEq,Option.some.injEq,Addr.mk.injEq,and_true]at sM;obtain⟨rfl,-,rfl⟩:=sM;have hpart:w8.there g (k*11) 7:=jK eP (by show k*11+7<=rs'.length*11;omega);have uM:=qx.out.b 6;have hbg:w2.heap.size≠g:=(by have:=(qx.out.l.a2.lt g rfl).1;omega);have hgb:g≠w2.heap.size:=fun e=>hbg e.symm;have By:Hid (Dm w kr w2.heap.size (⟨{data:=#[97]},true,p60,true,p4,ws,rs'.set k (⟨t.c,t.h,t.v,t.p,t.s,t.d,t.g,r.a,r.b,r.i,r.u⟩:aw),[],[]⟩:aj) (ai a1 ws c1) (.slice (some ⟨g,0,none⟩) rs.length c2) (.slice none 0 0) (.slice none 0 0) (q+608+k+1) (w8.setCells g (k*11) (iT t.c t.v t.h t.p t.s t.d t.g))):=Dm.want (m:=(⟨{data:=#[97]},true,p60,true,p4,ws,rs',[],[]⟩:aj)) qx.out Hr.out t;obtain⟨WX,J1⟩:∃WX,WX=(w8.setCells g (k*11) (iT t.c t.v t.h t.p t.s t.d t.g)):=⟨_,rfl⟩
      have MJ:Hid (WX=(w8.setCells g (k*11) (iT t.c t.v t.h t.p t.s t.d t.g))):=J1;clear J1;have hxu:∀j,WX.cell? ⟨u,j,none⟩=w8.cell? ⟨u,j,none⟩:=fun j=>by rw[MJ.out];exact((Ex.refl g w8).cells (iT t.c t.v t.h t.p t.s t.d t.g) (k*11)).cell (p:=⟨u,j,none⟩) Ts Tr
      have V6:=(hxu 2).trans Tt;clear eP hxu;rw[<-MJ.out]at By;cases hh:t.h.toList.isEmpty
      ·
       go_wp2_with (refine wpList_store_mid (by rfl) 37 _ _ (by rfl) g (k*11) (aX t.c t.v t.h t.p t.s t.d t.g) (by rfl) (by rfl) (by exact hpart) lT (by simp[Value.oneCell']) ?_;rw[<-MJ.out])
       skip
       have KT:Hid (∀y,Below WX.heap.size WX y->Below WX.heap.size WX y/\(y.cell? ⟨w2.heap.size,6,none⟩=some (.slice (some ⟨g,0,none⟩) rs.length c2)/\y.cell? ⟨w2.heap.size,2,none⟩=some (.int .i64 p60)/\oN y g (k*11) t.c t.v t.h t.p t.s t.d t.g r.a r.b r.i r.u)):=fun y hb=>by have h1:=By.out.below hb;obtain⟨g9,c9,sM,-,-,Cm,-⟩:=h1.l.a2.blk (i:=k) (by show k<(rs'.set k _).length;rw[List.length_set];omega);simp only[Value.slice.injEq,Option.some.injEq,Addr.mk.injEq,and_true]at sM;obtain⟨rfl,-,rfl⟩:=sM;have h2:=Cm.at (kB Hr.out);simp only[Nat.zero_add]at h2;exact⟨hb,h1.b 6,h1.b 2,h2⟩
       go_region_held3 (fun y=>Below WX.heap.size WX y/\(y.cell? ⟨w2.heap.size,6,none⟩=some (.slice (some ⟨g,0,none⟩) rs.length c2)/\y.cell? ⟨w2.heap.size,2,none⟩=some (.int .i64 p60)/\oN y g (k*11) t.c t.v t.h t.p t.s t.d t.g r.a r.b r.i r.u))
        (first|exact KT.out _ bD|exact KT.out _ (af bD vT))
        (first|(go_at_call 87;refine(fC t.c t.h t.v t.p t.s t.d t.g r.a r.b r.i (r.u) p60 _ Ht.out.1 Ht.out.2).mono ?_;rintro e y9 ⟨rfl,vT⟩))
       have BD:Below WX.heap.size WX y9:=af bD vT;obtain⟨y2,rfl⟩:∃y2,y2=y9:=⟨_,rfl⟩
       have D8:Hid (Dm w kr w2.heap.size (⟨{data:=#[97]},true,p60,true,p4,ws,rs'.set k (⟨t.c,t.h,t.v,t.p,t.s,t.d,t.g,r.a,r.b,r.i,r.u⟩:aw),[],[]⟩:aj) (ai a1 ws c1) (.slice (some ⟨g,0,none⟩) rs.length c2) (.slice none 0 0) (.slice none 0 0) (q+608+k+1) y2):=By.out.below BD;have c6:=(KT.out _ BD).2.1;have hgz:g<y2.heap.size:=(D8.out.l.a2.lt g rfl).2;obtain⟨g9,c9,sM,-,-,Cm,eP⟩:=D8.out.l.a2.blk (i:=k) (by show k<(rs'.set k _).length;rw[List.length_set];omega);simp only[Value.slice.injEq,Option.some.injEq,Addr.mk.injEq,and_true]at sM;obtain⟨rfl,-,rfl⟩:=sM;have h7:=eb eP (k*11+7) (by show k*11+7<(rs'.set k _).length*11;rw[List.length_set];omega);have h8:=eb eP (k*11+8) (by show k*11+8<(rs'.set k _).length*11;rw[List.length_set];omega);obtain⟨⟨x7,e7⟩,f7⟩:=h7;obtain⟨⟨x8,e8⟩,f8⟩:=h8;have hbg:w2.heap.size≠g:=(by have:=(D8.out.l.a2.lt g rfl).1;omega);clear eP Cm KT vT BD;cases hB:eL t.c t.h t.v t.p t.s t.d t.g r.a r.b r.i (r.u) p60
       ·
        go_wp2
        have D9:Hid (Dm w kr w2.heap.size (⟨{data:=#[97]},true,p60,true,p4,ws,rs'.set k (⟨t.c,t.h,t.v,t.p,t.s,t.d,t.g,2,0,r.i,r.u⟩:aw),[],[]⟩:aj) (ai a1 ws c1) (.slice (some ⟨g,0,none⟩) rs.length c2) (.slice none 0 0) (.slice none 0 0) (q+608+k+1) ((y2.setCell ⟨g,k*11+7,none⟩ (.int .i64 2)).setCell ⟨g,k*11+8,none⟩ (.int .i64 0))):=(D8.out.nw (m:=(⟨{data:=#[97]},true,p60,true,p4,ws,rs',[],[]⟩:aj)) (r':=(⟨t.c,t.h,t.v,t.p,t.s,t.d,t.g,2,r.b,r.i,r.u⟩:aw)) (j:=7) (v:=.int .i64 2) Hr.out rfl (by omega)).nw (m:=(⟨{data:=#[97]},true,p60,true,p4,ws,rs',[],[]⟩:aj)) (r':=(⟨t.c,t.h,t.v,t.p,t.s,t.d,t.g,2,0,r.i,r.u⟩:aw)) (j:=8) (v:=.int .i64 0) Hr.out rfl (by omega);exact⟨⟨k+1,rs'.set k (⟨t.c,t.h,t.v,t.p,t.s,t.d,t.g,2,0,r.i,r.u⟩:aw),by omega,by go_num,by first|exact mO|(rw[List.length_set];exact mO),jJ EA.out (iF Ht.out.1 Ht.out.2 ⟨by omega,by omega⟩ Hm.out.2.2.2.1 Hm.out.2.2.2.2),Dm.up D9.out (by omega)⟩,by simp[intOf];omega⟩
       go_wp2
       exact⟨⟨k+1,rs'.set k (⟨t.c,t.h,t.v,t.p,t.s,t.d,t.g,r.a,r.b,r.i,r.u⟩:aw),by omega,by go_num,by first|exact mO|(rw[List.length_set];exact mO),jJ EA.out (iF Ht.out.1 Ht.out.2 Hm.out.2.2.1 Hm.out.2.2.2.1 Hm.out.2.2.2.2),Dm.up D8.out (by omega)⟩,by simp[intOf];omega⟩
      have Tv:=By.out.b 6;obtain⟨g9,c9,sM,-,-,-,eP⟩:=By.out.l.a2.blk (i:=k) (by show k<(rs'.set k _).length;rw[List.length_set];omega);simp only[Value.slice.injEq,Option.some.injEq,Addr.mk.injEq,and_true]at sM;obtain⟨rfl,-,rfl⟩:=sM;obtain⟨⟨x10,e10⟩,f10⟩:=eb eP (k*11+10) (by show k*11+10<(rs'.set k _).length*11;rw[List.length_set];omega);clear eP;have uA:Hid (Dm w kr w2.heap.size (⟨{data:=#[97]},true,p60,true,p4,ws,rs'.set k (⟨t.c,t.h,t.v,t.p,t.s,t.d,t.g,r.a,r.b,r.i,0⟩:aw),[],[]⟩:aj) (ai a1 ws c1) (.slice (some ⟨g,0,none⟩) rs.length c2) (.slice none 0 0) (.slice none 0 0) (q+608+k+1) (WX.setCell ⟨g,k*11+10,none⟩ (.int .i64 0))):=By.out.nw (m:=(⟨{data:=#[97]},true,p60,true,p4,ws,rs',[],[]⟩:aj)) (r':=(⟨t.c,t.h,t.v,t.p,t.s,t.d,t.g,r.a,r.b,r.i,0⟩:aw)) (j:=10) (v:=.int .i64 0) Hr.out rfl (by omega);obtain⟨WY,J2⟩:∃WY,WY=WX.setCell ⟨g,k*11+10,none⟩ (.int .i64 0):=⟨_,rfl⟩
      have QJ:Hid (WY=WX.setCell ⟨g,k*11+10,none⟩ (.int .i64 0)):=J2;clear J2;rw[<-QJ.out]at uA;go_wp2_with (refine wpList_store_mid (by rfl) 37 _ _ (by rfl) g (k*11) (aX t.c t.v t.h t.p t.s t.d t.g) (by rfl) (by rfl) (by exact hpart) lT (by simp[Value.oneCell']) ?_;rw[<-MJ.out])
      rw[<-QJ.out];have KT:Hid (∀y,Below WY.heap.size WY y->Below WY.heap.size WY y/\(y.cell? ⟨w2.heap.size,6,none⟩=some (.slice (some ⟨g,0,none⟩) rs.length c2)/\y.cell? ⟨w2.heap.size,2,none⟩=some (.int .i64 p60)/\oN y g (k*11) t.c t.v t.h t.p t.s t.d t.g r.a r.b r.i 0)):=fun y hb=>by have h1:=uA.out.below hb;obtain⟨g9,c9,sM,-,-,Cm,-⟩:=h1.l.a2.blk (i:=k) (by show k<(rs'.set k _).length;rw[List.length_set];omega);simp only[Value.slice.injEq,Option.some.injEq,Addr.mk.injEq,and_true]at sM;obtain⟨rfl,-,rfl⟩:=sM;have h2:=Cm.at (kB Hr.out);simp only[Nat.zero_add]at h2;exact⟨hb,h1.b 6,h1.b 2,h2⟩
      go_region_held3 (fun y=>Below WY.heap.size WY y/\(y.cell? ⟨w2.heap.size,6,none⟩=some (.slice (some ⟨g,0,none⟩) rs.length c2)/\y.cell? ⟨w2.heap.size,2,none⟩=some (.int .i64 p60)/\oN y g (k*11) t.c t.v t.h t.p t.s t.d t.g r.a r.b r.i 0))
       (first|exact KT.out _ bD|exact KT.out _ (af bD vT))
       (first|(go_at_call 87;refine(fC t.c t.h t.v t.p t.s t.d t.g r.a r.b r.i (0) p60 _ Ht.out.1 Ht.out.2).mono ?_;rintro e y9 ⟨rfl,vT⟩))
      have BD:Below WY.heap.size WY y9:=af bD vT;obtain⟨y2,rfl⟩:∃y2,y2=y9:=⟨_,rfl⟩
      have D8:Hid (Dm w kr w2.heap.size (⟨{data:=#[97]},true,p60,true,p4,ws,rs'.set k (⟨t.c,t.h,t.v,t.p,t.s,t.d,t.g,r.a,r.b,r.i,0⟩:aw),[],[]⟩:aj) (ai a1 ws c1) (.slice (some ⟨g,0,none⟩) rs.length c2) (.slice none 0 0) (.slice none 0 0) (q+608+k+1) y2):=uA.out.below BD;have c6:=(KT.out _ BD).2.1;have hgz:g<y2.heap.size:=(D8.out.l.a2.lt g rfl).2;obtain⟨g9,c9,sM,-,-,Cm,eP⟩:=D8.out.l.a2.blk (i:=k) (by show k<(rs'.set k _).length;rw[List.length_set];omega);simp only[Value.slice.injEq,Option.some.injEq,Addr.mk.injEq,and_true]at sM;obtain⟨rfl,-,rfl⟩:=sM;have h7:=eb eP (k*11+7) (by show k*11+7<(rs'.set k _).length*11;rw[List.length_set];omega);have h8:=eb eP (k*11+8) (by show k*11+8<(rs'.set k _).length*11;rw[List.length_set];omega);obtain⟨⟨x7,e7⟩,f7⟩:=h7;obtain⟨⟨x8,e8⟩,f8⟩:=h8;have hbg:w2.heap.size≠g:=(by have:=(D8.out.l.a2.lt g rfl).1;omega);clear eP Cm KT vT BD;cases hB:eL t.c t.h t.v t.p t.s t.d t.g r.a r.b r.i (0) p60
      ·
       go_wp2
       have D9:Hid (Dm w kr w2.heap.size (⟨{data:=#[97]},true,p60,true,p4,ws,rs'.set k (⟨t.c,t.h,t.v,t.p,t.s,t.d,t.g,2,0,r.i,0⟩:aw),[],[]⟩:aj) (ai a1 ws c1) (.slice (some ⟨g,0,none⟩) rs.length c2) (.slice none 0 0) (.slice none 0 0) (q+608+k+1) ((y2.setCell ⟨g,k*11+7,none⟩ (.int .i64 2)).setCell ⟨g,k*11+8,none⟩ (.int .i64 0))):=(D8.out.nw (m:=(⟨{data:=#[97]},true,p60,true,p4,ws,rs',[],[]⟩:aj)) (r':=(⟨t.c,t.h,t.v,t.p,t.s,t.d,t.g,2,r.b,r.i,0⟩:aw)) (j:=7) (v:=.int .i64 2) Hr.out rfl (by omega)).nw (m:=(⟨{data:=#[97]},true,p60,true,p4,ws,rs',[],[]⟩:aj)) (r':=(⟨t.c,t.h,t.v,t.p,t.s,t.d,t.g,2,0,r.i,0⟩:aw)) (j:=8) (v:=.int .i64 0) Hr.out rfl (by omega);exact⟨⟨k+1,rs'.set k (⟨t.c,t.h,t.v,t.p,t.s,t.d,t.g,2,0,r.i,0⟩:aw),by omega,by go_num,by first|exact mO|(rw[List.length_set];exact mO),jJ EA.out (iF Ht.out.1 Ht.out.2 ⟨by omega,by omega⟩ Hm.out.2.2.2.1 ⟨by omega,by omega⟩),Dm.up D9.out (by omega)⟩,by simp[intOf];omega⟩
      go_wp2
      exact⟨⟨k+1,rs'.set k (⟨t.c,t.h,t.v,t.p,t.s,t.d,t.g,r.a,r.b,r.i,0⟩:aw),by omega,by go_num,by first|exact mO|(rw[List.length_set];exact mO),jJ EA.out (iF Ht.out.1 Ht.out.2 Hm.out.2.2.1 Hm.out.2.2.2.1 ⟨by omega,by omega⟩),Dm.up D8.out (by omega)⟩,by simp[intOf];omega⟩
     go_wp2
     exact⟨⟨k+1,rs',by omega,by go_num,by first|exact mO|(rw[List.length_set];exact mO),EA.out,Dm.up qx.out (by omega)⟩,by simp[intOf];omega⟩
    go_wp2_with fail
    go_meet
    exact⟨_,_,_,HK.out.up (by omega),⟨HD.out.n,HD.out.c0,HD.out.c1,hwl,HW.out,(by show rs'.length<=4;omega),EA.out,Nat.zero_le _,(fun x hx=>by cases hx),Nat.zero_le _,(fun x hx=>by cases hx)⟩,rfl,rfl,rfl⟩
   go_wp2_with fail
   go_meet
   exact⟨_,_,_,Dm.up D5.out (by omega),HD.out,rfl,rfl,rfl⟩
  obtain⟨m,s1,s2,Tw,zl,hup,hq0,hg0⟩:=hcut;go_wp2_with fail
  go_loopw [7] (fun i wx=>∃(k:Nat)(qs gs:List A.aC)(s3 s4:Value),k<=3/\i=.int .i64 k/\qs.length<=k/\gs.length<=k/\Hid (∀x∈qs,x.fits)/\Hid (∀x∈gs,x.fits)/\Hid (Dm w kr w2.heap.size {m with qs:=qs,gs:=gs} s1 s2 s3 s4 (q+800+40*k) wx)) (fun i _=>3-(intOf i).toNat)
  case atStart=>exact⟨0,[],[],.slice none 0 0,.slice none 0 0,Nat.zero_le _,rfl,Nat.le_refl _,Nat.le_refl _,(fun x hx=>by cases hx),(fun x hx=>by cases hx),by have h1:=Tw.out;obtain⟨nm,up,ck,kn,se,ws',rs',V7,gs'⟩:=m;simp only at hq0 hg0;subst hq0 hg0;exact h1.up (by omega)⟩
  obtain⟨k,qs,gs,s3,s4,hk,rfl,IQ,hgl,J3,J4,HK⟩:=hrel;by_cases hlt:k<3
  ·
   obtain⟨ia,hia,FL,FM,FN⟩:=info_parts A.cE;have FO:(prog.info? 64).map (·.size)=some 4:=(by kernel_rfl);have Tz:=qB {data:=#[105,112]} {data:=#[118,111,108]} {data:=#[118,111,108,50]};have hck:=zl.out.c0;have TE:=zl.out.c1;have TF:w2.heap.size<wr.heap.size:=HK.out.z;have zm:kr<wr.heap.size:=(by have:=HK.out.e.size;omega);have HL:Hid ((∀j,s1.ownBlock=some j->j<wr.heap.size)/\(∀j,s2.ownBlock=some j->j<wr.heap.size)/\(∀j,s3.ownBlock=some j->j<wr.heap.size)/\(∀j,s4.ownBlock=some j->j<wr.heap.size)):=⟨fun j hj=>(HK.out.l.a1.lt j hj).2,fun j hj=>(HK.out.l.a2.lt j hj).2,fun j hj=>(HK.out.l.a3.lt j hj).2,fun j hj=>(HK.out.l.a4.lt j hj).2⟩
   obtain⟨z,hz,hzs⟩:∃z,(#[.string ⟨#[105,112]⟩,.string ⟨#[118,111,108]⟩,.string ⟨#[118,111,108,50]⟩]:Array Value)[k]?=some (.string z)/\z.size<=maxLen:=by
    obtain rfl|rfl|rfl:k=0\/k=1\/k=2:=by omega
    all_goals exact⟨_,rfl,by unfold maxLen;decide⟩
   have i0:(0:Int)<=(k:Int):=(by omega);have i1:(k:Int)<3:=by omega
   go_upto_region 23 with(fail)
   go_cut [8] (fun v8 wx=>∃(h c:ByteArray)(t:Int)(u:Nat),v8=.pointer (some ⟨u,0,none⟩)/\h.size<=maxLen/\c.size<=maxLen/\(-1000<=t/\t<=1000)/\wr.heap.size<=u/\u<wx.heap.size/\wx.rangeAt u 0 (mD h (c) (0) (t))/\wx.there u 0 4/\Hid (Dm w kr w2.heap.size {m with qs:=qs,gs:=gs} s1 s2 s3 s4 (q+800+40*k+16) wx))
   case first=>
    have Hz:Hid ((#[.string ⟨#[105,112]⟩,.string ⟨#[118,111,108]⟩,.string ⟨#[118,111,108,50]⟩]:Array Value)[k]?=some (.string z)):=hz;clear hz;clear Tz;refine wp_region_any (by kernel_rfl) ?_;refine zn qE 15 8 (qF kr w2.heap.size wr.heap.size k m.ck) (fun p y=>Dm w kr w2.heap.size {m with qs:=qs,gs:=gs} s1 s2 s3 s4 (p) y/\wr.heap.size<=y.heap.size) (fun v8 wx=>∃(h c:ByteArray)(t:Int)(u:Nat),v8=.pointer (some ⟨u,0,none⟩)/\h.size<=maxLen/\c.size<=maxLen/\(-1000<=t/\t<=1000)/\wr.heap.size<=u/\u<wx.heap.size/\wx.rangeAt u 0 (mD h (c) (0) (t))/\wx.there u 0 4/\Hid (Dm w kr w2.heap.size {m with qs:=qs,gs:=gs} s1 s2 s3 s4 (q+800+40*k+16) wx)) (q+800+40*k) (by decide) rfl ⟨HK.out.below bD,Nat.le_refl _⟩ ?uN ?zo
    case uN=>
     intro a y df sz out hE;obtain⟨h,c,t,u,QK,hh,hc,ht,hu0,hu1,hrg,hth,TG⟩:=hE;obtain⟨l,hl,ha⟩:=wP (lo:=102) (n:=14) (se:=8) df sz (lE rfl) (lE rfl) (fun j hj1 hj2=>out j (fun i hi=>by unfold qE;split<;>omega));rw[QK]at ha;have HA:Hid (wr.heap.size<=u/\u<y.heap.size/\y.rangeAt u 0 (mD h (c) (0) (t))/\y.there u 0 4):=⟨hu0,hu1,hrg,hth⟩
     clear QK df sz out hu0 hu1 hrg hth;subst ha;obtain⟨v0,l0,rfl,hl0⟩:=aD hl;obtain⟨v1,l1,rfl,hl1⟩:=aD hl0;obtain⟨v2,l2,rfl,hl2⟩:=aD hl1;obtain⟨v3,l3,rfl,hl3⟩:=aD hl2;obtain⟨v4,l4,rfl,hl4⟩:=aD hl3;obtain⟨v5,l5,rfl,hl5⟩:=aD hl4;obtain⟨v6,l6,rfl,mP⟩:=aD hl5;obtain⟨v7,l7,rfl,uO⟩:=aD mP;obtain⟨v8,l8,rfl,uP⟩:=aD uO;obtain⟨v9,l9,rfl,uQ⟩:=aD uP;obtain⟨v10,l10,rfl,qG⟩:=aD uQ;obtain⟨v11,QL,rfl,zq⟩:=aD qG;obtain⟨v12,QM,rfl,hl12⟩:=aD zq;obtain⟨v13,QN,rfl,zt⟩:=aD hl12;obtain rfl:=fI zt;simp only[List.setIfInBounds_toArray,List.set_cons_succ,List.set_cons_zero,List.take_succ_cons,List.take_zero,List.drop_succ_cons,List.drop_zero,List.cons_append,List.nil_append,Nat.reduceAdd];go_wp2_with fail
     go_meet
     exact⟨h,c,t,u,rfl,hh,hc,ht,HA.out.1,HA.out.2.1,HA.out.2.2.1,HA.out.2.2.2,TG⟩
    intro listed x y i hI hi hlt';have ho:=bQ hi;obtain rfl|rfl|rfl|rfl|rfl|rfl|rfl|rfl|rfl|rfl|rfl|rfl|rfl|rfl|rfl|rfl:i=0\/i=1\/i=2\/i=3\/i=4\/i=5\/i=6\/i=7\/i=8\/i=9\/i=10\/i=11\/i=12\/i=13\/i=14\/i=15:=by omega
    ·
     have hn:listed.getD 15 false=false:=not_true (fun h=>aB ho (hI.tr 2 0 (by rfl) (hI.tr 3 2 (by rfl) (hI.tr 13 3 (by rfl) (hI.tr 15 13 (by rfl) h)))));obtain⟨pc,⟨hD,hsz⟩,hpc⟩:=hI.v.1 hn;have HI:Hid (_∈Region.ready _ _ _):=hi;clear hi;refine aO rfl rfl ?_;refine dK (fun K hK=>?_);have hb:=JV;have HJ:Hid (Ix _ _ _ _ _ _ _ _ _ _ _):=hI;have HO:Hid _:=ho;clear hI ho
     go_simp
     have ho:=HO.out;have hbl:Below y.heap.size y (y.alloc (.cells zi 9)):=ae bR _;have lU:lR mE wr.heap.size w2.heap.size 3 (y.alloc (.cells zi 9)) (.slice (some ⟨y.heap.size,0,none⟩) 3 3):=nz (cs:=[.string ⟨#[105,112]⟩,.string ⟨#[118,111,108]⟩,.string ⟨#[118,111,108,50]⟩]) hsz hD.z (fun v hv=>by simp only[List.mem_cons,List.not_mem_nil,or_false]at hv;rcases hv with rfl|rfl|rfl<;>exact⟨_,rfl,by decide⟩);exact hK.out _ _ (HJ.out.put HI.out (by omega) (lE rfl) (gA (by omega)) (lU) (fun j u _ _ h=>qF.keep (Ex.of_below hbl) zm j u h) (Vx.turn ho hn (by omega) ⟨hD.below hbl,Nat.le_trans hsz hbl.size⟩ (by omega)))
    ·
     have hn:listed.getD 15 false=false:=not_true (fun h=>aB ho (hI.tr 2 1 (by rfl) (hI.tr 3 2 (by rfl) (hI.tr 13 3 (by rfl) (hI.tr 15 13 (by rfl) h)))));obtain⟨pc,⟨hD,hsz⟩,hpc⟩:=hI.v.1 hn;have HI:Hid (_∈Region.ready _ _ _):=hi;clear hi;refine aO rfl rfl ?_;refine dK (fun K hK=>?_);have e5:x.tmps[7]?.getD undef=.int .i64 (k:Int):=ak (hI.out 7 (fun i hi=>by unfold qE;split<;>omega));have HJ:Hid (Ix _ _ _ _ _ _ _ _ _ _ _):=hI;have HO:Hid _:=ho;clear hI ho
     go_simp
     have ho:=HO.out;exact hK.out _ _ (HJ.out.put HI.out (by omega) (lE rfl) (gA (by omega)) (rfl) (fun j u _ _ h=>h) (Vx.turn ho hn (by omega) ⟨hD,hsz⟩ (by omega)))
    ·
     have hn:listed.getD 15 false=false:=not_true (fun h=>aB ho (hI.tr 3 2 (by rfl) (hI.tr 13 3 (by rfl) (hI.tr 15 13 (by rfl) h))));obtain⟨pc,⟨hD,hsz⟩,hpc⟩:=hI.v.1 hn;have d0:=aK hi (j:=0) (by rfl);have d1:=aK hi (j:=1) (by rfl);have HI:Hid (_∈Region.ready _ _ _):=hi;clear hi;refine aO rfl rfl ?_;refine dK (fun K hK=>?_);obtain⟨g,hg,g0,g1,g2,gc⟩:=hI.good 0 (by omega) d0 hn;have e1:x.tmps[102]?.getD undef=_:=ak hg;have e2:x.tmps[103]?.getD undef=.int .i64 (k:Int):=ak (hI.good 1 (by omega) d1 hn);obtain⟨u,hu,hP⟩:=gc k (by omega);clear gc hg;have HJ:Hid (Ix _ _ _ _ _ _ _ _ _ _ _):=hI;have HO:Hid _:=ho;clear hI ho
     go_simp
     have ho:=HO.out;exact hK.out _ _ (HJ.out.put HI.out (by omega) (lE rfl) (gA (by omega)) (⟨g,k,u,rfl,g0,g1,g2,hu,hP⟩) (fun j u _ _ h=>h) (Vx.turn ho hn (by omega) ⟨hD,hsz⟩ (by omega)))
    ·
     have hn:listed.getD 15 false=false:=not_true (fun h=>aB ho (hI.tr 13 3 (by rfl) (hI.tr 15 13 (by rfl) h)));obtain⟨pc,⟨hD,hsz⟩,hpc⟩:=hI.v.1 hn;have d2:=aK hi (j:=2) (by rfl);have HI:Hid (_∈Region.ready _ _ _):=hi;clear hi;refine aO rfl rfl ?_;refine dK (fun K hK=>?_);obtain⟨g,j,u,hv,g0,g1,g2,hu,hP⟩:=hI.good 2 (by omega) d2 hn;have e1:x.tmps[104]?.getD undef=_:=ak hv;obtain⟨s,rfl,hs⟩:=hP;clear hv;have HJ:Hid (Ix _ _ _ _ _ _ _ _ _ _ _):=hI;have HO:Hid _:=ho;clear hI ho
     go_simp
     have ho:=HO.out;exact hK.out _ _ (HJ.out.put HI.out (by omega) (lE rfl) (gA (by omega)) (⟨s,rfl,hs⟩) (fun j u _ _ h=>h) (Vx.turn ho hn (by omega) ⟨hD,hsz⟩ (by omega)))
    ·
     have hn:listed.getD 15 false=false:=not_true (fun h=>aB ho (hI.tr 5 4 (by rfl) (hI.tr 6 5 (by rfl) (hI.tr 7 6 (by rfl) (hI.tr 13 7 (by rfl) (hI.tr 15 13 (by rfl) h))))));obtain⟨pc,⟨hD,hsz⟩,hpc⟩:=hI.v.1 hn;have HI:Hid (_∈Region.ready _ _ _):=hi;clear hi;refine aO rfl rfl ?_;refine dK (fun K hK=>?_);have e5:x.tmps[0]?.getD undef=.pointer (some ⟨kr,0,none⟩):=ak (hI.out 0 (fun i hi=>by unfold qE;split<;>omega));have HJ:Hid (Ix _ _ _ _ _ _ _ _ _ _ _):=hI;have HO:Hid _:=ho;clear hI ho
     go_simp
     have ho:=HO.out;exact hK.out _ _ (HJ.out.put HI.out (by omega) (lE rfl) (gA (by omega)) (rfl) (fun j u _ _ h=>h) (Vx.turn ho hn (by omega) ⟨hD,hsz⟩ (by omega)))
    ·
     have hn:listed.getD 15 false=false:=not_true (fun h=>aB ho (hI.tr 6 5 (by rfl) (hI.tr 7 6 (by rfl) (hI.tr 13 7 (by rfl) (hI.tr 15 13 (by rfl) h)))));obtain⟨pc,⟨hD,hsz⟩,hpc⟩:=hI.v.1 hn;have d4:=aK hi (j:=4) (by rfl);have HI:Hid (_∈Region.ready _ _ _):=hi;clear hi;refine aO rfl rfl ?_;refine dK (fun K hK=>?_);have e1:x.tmps[106]?.getD undef=.pointer (some ⟨kr,0,none⟩):=ak (hI.good 4 (by omega) d4 hn);have HJ:Hid (Ix _ _ _ _ _ _ _ _ _ _ _):=hI;have HO:Hid _:=ho;clear hI ho
     go_simp
     have ho:=HO.out;refine(bO kr pc 4 y hD.r (by omega) (by omega) (by omega)).mono ?_;rintro e y' ⟨z,rfl,z0,z1,r9,e9⟩;exact hK.out _ _ (HJ.out.put HI.out (by omega) (lE rfl) (gA (by omega)) (⟨z,rfl,z0,by omega⟩) (fun j u _ _ h=>qF.keep e9 zm j u h) (Vx.turn ho hn (by omega) ⟨hD.pick e9 r9,Nat.le_trans hsz e9.size⟩ (by omega)))
    ·
     have hn:listed.getD 15 false=false:=not_true (fun h=>aB ho (hI.tr 7 6 (by rfl) (hI.tr 13 7 (by rfl) (hI.tr 15 13 (by rfl) h))));obtain⟨pc,⟨hD,hsz⟩,hpc⟩:=hI.v.1 hn;have d5:=aK hi (j:=5) (by rfl);have HI:Hid (_∈Region.ready _ _ _):=hi;clear hi;refine aO rfl rfl ?_;refine dK (fun K hK=>?_);obtain⟨z,hz,z0,z1⟩:=hI.good 5 (by omega) d5 hn;have e1:x.tmps[107]?.getD undef=_:=ak hz;clear hz;have HJ:Hid (Ix _ _ _ _ _ _ _ _ _ _ _):=hI;have HO:Hid _:=ho;clear hI ho
     go_simp
     have ho:=HO.out;refine(jI z z0 (by omega) y).mono ?_;rintro e y' ⟨s,rfl,hs,b9⟩;exact hK.out _ _ (HJ.out.put HI.out (by omega) (lE rfl) (gA (by omega)) (⟨s,rfl,hs⟩) (fun j u _ _ h=>qF.keep (Ex.of_below b9) zm j u h) (Vx.turn ho hn (by omega) ⟨hD.below b9,Nat.le_trans hsz b9.size⟩ (by omega)))
    ·
     have hn:listed.getD 15 false=false:=not_true (fun h=>aB ho (hI.tr 13 7 (by rfl) (hI.tr 15 13 (by rfl) h)));obtain⟨pc,⟨hD,hsz⟩,hpc⟩:=hI.v.1 hn;have d6:=aK hi (j:=6) (by rfl);have HI:Hid (_∈Region.ready _ _ _):=hi;clear hi;refine aO rfl rfl ?_;refine dK (fun K hK=>?_);obtain⟨s,hs,hs1⟩:=hI.good 6 (by omega) d6 hn;have e1:x.tmps[108]?.getD undef=_:=ak hs;clear hs;have HJ:Hid (Ix _ _ _ _ _ _ _ _ _ _ _):=hI;have HO:Hid _:=ho;clear hI ho
     go_simp
     have ho:=HO.out;exact hK.out _ _ (HJ.out.put HI.out (by omega) (lE rfl) (gA (by omega)) (⟨_,rfl,by rw[i7,hs1];omega⟩) (fun j u _ _ h=>h) (Vx.turn ho hn (by omega) ⟨hD,hsz⟩ (by omega)))
    ·
     have hn:listed.getD 15 false=false:=not_true (fun h=>aB ho (hI.tr 9 8 (by rfl) (hI.tr 12 9 (by rfl) (hI.tr 13 12 (by rfl) (hI.tr 15 13 (by rfl) h)))));obtain⟨pc,⟨hD,hsz⟩,hpc⟩:=hI.v.1 hn;have HI:Hid (_∈Region.ready _ _ _):=hi;clear hi;refine aO rfl rfl ?_;refine dK (fun K hK=>?_);have e5:x.tmps[3]?.getD undef=.pointer (some ⟨w2.heap.size,0,none⟩):=ak (hI.out 3 (fun i hi=>by unfold qE;split<;>omega));have HJ:Hid (Ix _ _ _ _ _ _ _ _ _ _ _):=hI;have HO:Hid _:=ho;clear hI ho
     go_simp
     have ho:=HO.out;exact hK.out _ _ (HJ.out.put HI.out (by omega) (lE rfl) (gA (by omega)) (rfl) (fun j u _ _ h=>h) (Vx.turn ho hn (by omega) ⟨hD,hsz⟩ (by omega)))
    ·
     have hn:listed.getD 15 false=false:=not_true (fun h=>aB ho (hI.tr 12 9 (by rfl) (hI.tr 13 12 (by rfl) (hI.tr 15 13 (by rfl) h))));obtain⟨pc,⟨hD,hsz⟩,hpc⟩:=hI.v.1 hn;have d8:=aK hi (j:=8) (by rfl);have HI:Hid (_∈Region.ready _ _ _):=hi;clear hi;refine aO rfl rfl ?_;refine dK (fun K hK=>?_);have e1:x.tmps[110]?.getD undef=.pointer (some ⟨w2.heap.size,2,none⟩):=ak (hI.good 8 (by omega) d8 hn);have k1:y.cell? ⟨w2.heap.size,2,none⟩=some (.int .i64 m.ck):=hD.b 2;have HJ:Hid (Ix _ _ _ _ _ _ _ _ _ _ _):=hI;have HO:Hid _:=ho;clear hI ho
     go_simp
     have ho:=HO.out;exact hK.out _ _ (HJ.out.put HI.out (by omega) (lE rfl) (gA (by omega)) (rfl) (fun j u _ _ h=>h) (Vx.turn ho hn (by omega) ⟨hD,hsz⟩ (by omega)))
    ·
     have hn:listed.getD 15 false=false:=not_true (fun h=>aB ho (hI.tr 11 10 (by rfl) (hI.tr 12 11 (by rfl) (hI.tr 13 12 (by rfl) (hI.tr 15 13 (by rfl) h)))));obtain⟨pc,⟨hD,hsz⟩,hpc⟩:=hI.v.1 hn;have HI:Hid (_∈Region.ready _ _ _):=hi;clear hi;refine aO rfl rfl ?_;refine dK (fun K hK=>?_);have e5:x.tmps[0]?.getD undef=.pointer (some ⟨kr,0,none⟩):=ak (hI.out 0 (fun i hi=>by unfold qE;split<;>omega));have HJ:Hid (Ix _ _ _ _ _ _ _ _ _ _ _):=hI;have HO:Hid _:=ho;clear hI ho
     go_simp
     have ho:=HO.out;exact hK.out _ _ (HJ.out.put HI.out (by omega) (lE rfl) (gA (by omega)) (rfl) (fun j u _ _ h=>h) (Vx.turn ho hn (by omega) ⟨hD,hsz⟩ (by omega)))
    ·
     have hn:listed.getD 15 false=false:=not_true (fun h=>aB ho (hI.tr 12 11 (by rfl) (hI.tr 13 12 (by rfl) (hI.tr 15 13 (by rfl) h))));obtain⟨pc,⟨hD,hsz⟩,hpc⟩:=hI.v.1 hn;have kQ:=aK hi (j:=10) (by rfl);have HI:Hid (_∈Region.ready _ _ _):=hi;clear hi;refine aO rfl rfl ?_;refine dK (fun K hK=>?_);have e1:x.tmps[112]?.getD undef=.pointer (some ⟨kr,0,none⟩):=ak (hI.good 10 (by omega) kQ hn);have HJ:Hid (Ix _ _ _ _ _ _ _ _ _ _ _):=hI;have HO:Hid _:=ho;clear hI ho
     go_simp
     have ho:=HO.out;refine(bO kr pc 12 y hD.r (by omega) (by omega) (by omega)).mono ?_;rintro e y' ⟨z,rfl,z0,z1,r9,e9⟩;exact hK.out _ _ (HJ.out.put HI.out (by omega) (lE rfl) (gA (by omega)) (⟨z,rfl,z0,by omega⟩) (fun j u _ _ h=>qF.keep e9 zm j u h) (Vx.turn ho hn (by omega) ⟨hD.pick e9 r9,Nat.le_trans hsz e9.size⟩ (by omega)))
    ·
     have hn:listed.getD 15 false=false:=not_true (fun h=>aB ho (hI.tr 13 12 (by rfl) (hI.tr 15 13 (by rfl) h)));obtain⟨pc,⟨hD,hsz⟩,hpc⟩:=hI.v.1 hn;have d9:=aK hi (j:=9) (by rfl);have J5:=aK hi (j:=11) (by rfl);have HI:Hid (_∈Region.ready _ _ _):=hi;clear hi;refine aO rfl rfl ?_;refine dK (fun K hK=>?_);obtain⟨z,hz,z0,z1⟩:=hI.good 11 (by omega) J5 hn;have e1:x.tmps[113]?.getD undef=_:=ak hz;have e2:x.tmps[111]?.getD undef=.int .i64 m.ck:=ak (hI.good 9 (by omega) d9 hn);have iw:IntKind.i64.wrap (m.ck-z)=m.ck-z:=(by rw[IntKind.wrap_i64];omega);clear hz;have HJ:Hid (Ix _ _ _ _ _ _ _ _ _ _ _):=hI;have HO:Hid _:=ho;clear hI ho
     go_simp
     have ho:=HO.out;exact hK.out _ _ (HJ.out.put HI.out (by omega) (lE rfl) (gA (by omega)) (⟨m.ck-z,rfl,by omega,by omega⟩) (fun j u _ _ h=>h) (Vx.turn ho hn (by omega) ⟨hD,hsz⟩ (by omega)))
    ·
     have hn:listed.getD 15 false=false:=not_true (fun h=>aB ho (hI.tr 15 13 (by rfl) h));obtain⟨pc,⟨hD,hsz⟩,hpc⟩:=hI.v.1 hn;have d3:=aK hi (j:=3) (by rfl);have d7:=aK hi (j:=7) (by rfl);have gR:=aK hi (j:=12) (by rfl);have HI:Hid (_∈Region.ready _ _ _):=hi;clear hi;refine aO rfl rfl ?_;refine dK (fun K hK=>?_);obtain⟨h,h1,hh⟩:=hI.good 3 (by omega) d3 hn;obtain⟨c,h2,hc⟩:=hI.good 7 (by omega) d7 hn;obtain⟨t,h3,t0,t1⟩:=hI.good 12 (by omega) gR hn;have e1:x.tmps[105]?.getD undef=_:=ak h1;have e2:x.tmps[109]?.getD undef=_:=ak h2;have e3:x.tmps[114]?.getD undef=_:=ak h3;clear h1 h2 h3;have HJ:Hid (Ix _ _ _ _ _ _ _ _ _ _ _):=hI;have HO:Hid _:=ho;clear hI ho
     go_simp
     have ho:=HO.out;exact hK.out _ _ (HJ.out.put HI.out (by omega) (lE rfl) (gA (by omega)) (⟨h,c,t,rfl,hh,hc,t0,t1⟩) (fun j u _ _ h=>h) (Vx.turn ho hn (by omega) ⟨hD,hsz⟩ (by omega)))
    ·
     have hn:listed.getD 15 false=false:=not_true (fun h=>aB ho (hI.tr 15 14 (by rfl) h));obtain⟨pc,⟨hD,hsz⟩,hpc⟩:=hI.v.1 hn;have HI:Hid (_∈Region.ready _ _ _):=hi;clear hi;refine aO rfl rfl ?_;refine dK (fun K hK=>?_);have HJ:Hid (Ix _ _ _ _ _ _ _ _ _ _ _):=hI;have HO:Hid _:=ho;clear hI ho
     go_simp
     have ho:=HO.out;have hbl:Below y.heap.size y (y.alloc (.cells (cZ ⟨#[]⟩ ⟨#[]⟩ 0 0) 64)):=ae bR _;have lU:wN wr.heap.size (y.alloc (.cells (cZ ⟨#[]⟩ ⟨#[]⟩ 0 0) 64)) (.pointer (some ⟨y.heap.size,0,none⟩)):=⟨y.heap.size,rfl,hsz,by simp,Cn y _⟩
     exact hK.out _ _ (HJ.out.put HI.out (by omega) (lE rfl) (gA (by omega)) (lU) (fun j u _ _ h=>qF.keep (Ex.of_below hbl) zm j u h) (Vx.turn ho hn (by omega) ⟨hD.below hbl,Nat.le_trans hsz hbl.size⟩ (by omega)))
    have hn:listed.getD 15 false=false:=not_true (fun h=>aB ho h);obtain⟨pc,⟨hD,hsz⟩,hpc⟩:=hI.v.1 hn;have iq:=aK hi (j:=14) (by rfl);have im:=aK hi (j:=13) (by rfl);have HI:Hid (_∈Region.ready _ _ _):=hi;clear hi;refine aO rfl rfl ?_;refine dK (fun K hK=>?_);obtain⟨h,c,t,hv,hh,hc,ht0,ht1⟩:=hI.good 13 (by omega) im hn;obtain⟨u,hp,hu0,hu1,hth⟩:=hI.good 14 (by omega) iq hn;have hv:x.tmps.getD 115 undef=.agg (cZ h c 0 t):=hv;have hp:x.tmps.getD 8 undef=.pointer (some ⟨u,0,none⟩):=hp;refine wp_store_mid 64 _ _ rfl u 0 (cZ h c 0 t) hp hv hth FO (by simp[Value.oneCell']) ?_;have he:Ex u y (y.setCells u 0 (mD h c 0 t)):=(Ex.refl _ _).cells _ _;have TH:Dm w kr w2.heap.size {m with qs:=qs,gs:=gs} s1 s2 s3 s4 (pc) (y.setCells u 0 (mD h c 0 t)):=hD.grown (A.av he) (fun a ha=>by cases ha;omega) (fun a ha=>by cases ha;exact⟨mF HL.out.1 hu0,mF HL.out.2.1 hu0,mF HL.out.2.2.1 hu0,mF HL.out.2.2.2 hu0⟩);exact hK.out _ _ (hI.last (u:=undef) HI.out (Vx.fin (dp (by rw[hI.lz];omega)) ⟨h,c,t,u,hp,(by unfold maxLen;omega),(by unfold maxLen;omega),⟨ht0,ht1⟩,hu0,Nat.lt_of_lt_of_le hu1 he.size,World.rangeAt_setCells_same _ _ _ _ hth,World.there_setCells hth u 0 _,TH.up (by omega)⟩))
   obtain⟨h,c,t,u,rfl,np,hcs,⟨ht0,ht1⟩,hu0,hu1,zj,Cl,HD5⟩:=hcut;obtain⟨a8,c8,EB⟩:=HD5.out.l.a2.shape;have EB:s2=.slice a8 m.rs.length c8:=EB;subst EB;have RU:Hid (wc.rangeAt u 0 (mD h (c) (0) (t))):=zj;have TU:Hid (wc.there u 0 4):=Cl;have hml:m.rs.length<=4:=zl.out.r1;have Tq:kr≠u:=(by omega);have uR:u≠kr:=(by omega);have hbu:w2.heap.size<u:=(by omega);have HN:Hid (s1.ownBlock≠some u/\(Value.slice a8 m.rs.length c8).ownBlock≠some u/\s3.ownBlock≠some u/\s4.ownBlock≠some u):=⟨mF HL.out.1 hu0,mF HL.out.2.1 hu0,mF HL.out.2.2.1 hu0,mF HL.out.2.2.2 hu0⟩
   have HG:Hid (∀g,(Value.slice a8 m.rs.length c8).ownBlock=some g->g≠u):=fun g hg e=>HN.out.2.1 (by rw[hg,e]);clear zj Cl HK;go_wp2_with fail
   go_loopw [9] (fun i wx=>∃(j:Nat)(c:ByteArray),j<=m.rs.length/\i=.int .i64 j/\c.size<=maxLen/\Hid (wx.rangeAt u 0 (mD h (c) (0) (t)))/\Hid (wx.there u 0 4)/\u<wx.heap.size/\Hid (Dm w kr w2.heap.size {m with qs:=qs,gs:=gs} s1 (ai a8 m.rs c8) s3 s4 (q+800+40*k+16+j) wx)) (fun i _=>m.rs.length-(intOf i).toNat)
   case atStart=>exact⟨0,c,Nat.zero_le _,rfl,hcs,RU.out,TU.out,hu1,Dm.up HD5.out (by omega)⟩
   obtain⟨j,c,hj,rfl,hcs,RU,TU,hu1,HJ⟩:=hrel;have uM:=HJ.out.b 6;by_cases hjl:j<m.rs.length
   ·
    obtain⟨g,cc,hv,hg1,hg2,hR,-⟩:=HJ.out.l.a2.blk (i:=j) hjl;have hv:Value.slice a8 m.rs.length c8=.slice (some ⟨g,0,none⟩) m.rs.length cc:=hv;simp only[Value.slice.injEq]at hv;obtain⟨rfl,-,rfl⟩:=hv;obtain⟨r,hr⟩:∃r,m.rs[j]?=some r:=⟨m.rs[j],List.getElem?_eq_getElem hjl⟩
    have Hm:Hid (Small r):=zl.out.r2 r (List.mem_of_getElem? hr);have hR:=hR.at hr;simp only[Nat.zero_add]at hR;obtain⟨J0,-,MK,-⟩:=hR;have N0:wr.cell? ⟨u,0,none⟩=some (.string h):=by have h1:=RU.out 0 _ rfl;rwa [Nat.zero_add]at h1
    have j0:(0:Int)<=(j:Int):=(by omega);have j1:(j:Int)<(m.rs.length:Int):=(by omega);have J6:g≠kr:=(by have h1:=HJ.out.zw;have h2:=HJ.out.zk;omega);have hgu:g≠u:=HG.out g rfl;clear hr;cases hq:(r.h.toList==h.toList)
    ·
     go_upto_region 27 with(fail)
     go_quiet (fail)
     go_wp2
     have hd:Below wr.heap.size wr (wr.drewN nq):=FP bR;exact⟨⟨j+1,c,by omega,by go_num,hcs,(fun a v hv=>(hd.cell (p:=⟨u,0+a,none⟩) hu1).trans (RU.out a v hv)),bd TU.out hu1 hd,Nat.lt_of_lt_of_le hu1 hd.size,Dm.up (HJ.out.below hd) (by omega)⟩,by simp[intOf];omega⟩
    go_upto_region 27 with(fail)
    have KJ:Hid (∀y,Ex kr wr y->(y.cell? ⟨w2.heap.size,6,none⟩=some (.slice (some ⟨g,0,none⟩) m.rs.length c8)/\y.cell? ⟨g,j*11+2,none⟩=some (.string r.h)/\y.cell? ⟨u,0,none⟩=some (.string h))):=fun y he=>⟨(he.cell (p:=⟨w2.heap.size,6,none⟩) HJ.out.z (by show w2.heap.size≠kr;have h1:=HJ.out.zw;have h2:=HJ.out.zk;omega)).trans uM,(he.cell (p:=⟨g,j*11+2,none⟩) hg2 J6).trans MK,(he.cell (p:=⟨u,0,none⟩) hu1 uR).trans N0⟩
    have hd0:Ex kr wr wr.drew:=Ex.of_below bD;have DJ:Hid (Dm w kr w2.heap.size {m with qs:=qs,gs:=gs} s1 (.slice (some ⟨g,0,none⟩) m.rs.length c8) s3 s4 (q+800+40*k+16+j) wr.drew):=HJ.out.below bD
    go_region_held3 (fun y=>(y.cell? ⟨w2.heap.size,6,none⟩=some (.slice (some ⟨g,0,none⟩) m.rs.length c8)/\y.cell? ⟨g,j*11+2,none⟩=some (.string r.h)/\y.cell? ⟨u,0,none⟩=some (.string h)))
     (first|exact KJ.out _ hd0|exact KJ.out _ (hd0.trans e9))
     (first|(go_at_call 18;refine(bO kr _ 4 _ DJ.out.r (by omega) (by omega) (by omega)).mono ?_;rintro e y9 ⟨p9,rfl,QO,QP,r9,e9⟩))
    have IX:Ex kr wr y9:=hd0.trans e9;have DK:Hid (Dm w kr w2.heap.size {m with qs:=qs,gs:=gs} s1 (.slice (some ⟨g,0,none⟩) m.rs.length c8) s3 s4 (q+800+40*k+16+j+1) y9):=DJ.out.pick e9 r9;have R9:Hid (y9.rangeAt u 0 (mD h (c) (0) (t))):=fun a v hv=>(IX.cell (p:=⟨u,0+a,none⟩) hu1 uR).trans (RU.out a v hv);have T9:Hid (y9.there u 0 4):=bh TU.out hu1 IX uR;have QQ:u<y9.heap.size:=Nat.lt_of_lt_of_le hu1 IX.size;have lU:g<y9.heap.size:=Nat.lt_of_lt_of_le hg2 IX.size;have N4:=DK.out.b 6;have ML:y9.cell? ⟨g,j*11,none⟩=some (.string r.c):=(IX.cell (p:=⟨g,j*11,none⟩) hg2 J6).trans J0;obtain⟨⟨x1,k1⟩,f1⟩:=eb T9.out 1 (by omega);clear e9 r9 DJ KJ HJ hd0 IX J0 MK N0 uM;obtain⟨y2,rfl⟩:∃y2,y2=y9:=⟨_,rfl⟩
    by_cases V9:0<p9
    ·
     go_wp2
     have hE:Ex u y2 (y2.setCell ⟨u,1,none⟩ (.string r.c)):=(Ex.refl _ _).set 1 _;exact⟨⟨j+1,r.c,by omega,by go_num,Hm.out.1,zu R9.out T9.out,World.there_setCells T9.out u 1 [.string r.c],Nat.lt_of_lt_of_le QQ hE.size,Dm.up (DK.out.grown (A.av hE) (fun a ha=>by cases ha;exact hbu) (fun a ha=>by cases ha;exact HN.out)) (by omega)⟩,by simp[intOf];omega⟩
    go_wp2
    exact⟨⟨j+1,c,by omega,by go_num,hcs,R9.out,T9.out,QQ,Dm.up DK.out (by omega)⟩,by simp[intOf];omega⟩
   have hjm:j=m.rs.length:=(by omega);subst hjm;have N3:=RU.out 3 _ rfl;rw[Nat.zero_add]at N3;obtain⟨⟨z3,k3⟩,f3⟩:=eb TU.out 3 (by omega);clear k3
   go_upto_if 148 with(fail)
   go_cut [] (fun wx=>∃t':Int,0<=t'/\t'<=1000/\Hid (wx.rangeAt u 0 (mD h (c) (0) (t')))/\Hid (wx.there u 0 4)/\u<wx.heap.size/\Hid (Dm w kr w2.heap.size {m with qs:=qs,gs:=gs} s1 (ai a8 m.rs c8) s3 s4 (q+800+40*k+16+4) wx))
   case first=>
    by_cases htn:t<0
    ·
     go_wp2_with fail
     go_meet
     have hE:Ex u wr (wr.setCell ⟨u,3,none⟩ (.int .i64 0)):=(Ex.refl _ _).set 3 _;exact⟨0,Int.le_refl _,by omega,qH RU.out TU.out rfl (by omega),World.there_setCells TU.out u 3 [.int .i64 0],Nat.lt_of_lt_of_le hu1 hE.size,Dm.up (HJ.out.grown (A.av hE) (fun a ha=>by cases ha;exact hbu) (fun a ha=>by cases ha;exact HN.out)) (by omega)⟩
    go_wp2_with fail
    go_meet
    exact⟨t,by omega,ht1,RU.out,TU.out,hu1,Dm.up HJ.out (by omega)⟩
   obtain⟨t',ht0',ht1',RA,TA,huA,DA⟩:=hcut;clear N3 f3 RU TU HJ uM;have N5:=RA.out 3 _ rfl;rw[Nat.zero_add]at N5;have KA:Hid (∀y,Ex kr wc y->y.cell? ⟨u,3,none⟩=some (.int .i64 t')):=fun y he=>(he.cell (p:=⟨u,3,none⟩) huA uR).trans N5;have hd0:Ex kr wc wc.drew:=Ex.of_below bD;clear N5
   go_upto_region 31 with(fail)
   go_cut [] (fun wx=>∃f:Int,-1000<=f/\f<=1000/\Hid (wx.rangeAt u 0 (mD h (c) (f) (t')))/\Hid (wx.there u 0 4)/\u<wx.heap.size/\Hid (Dm w kr w2.heap.size {m with qs:=qs,gs:=gs} s1 (ai a8 m.rs c8) s3 s4 (q+800+40*k+16+4+1) wx))
   case first=>
    refine wp_region_noPanic ?_;refine wp_region_held_drew (S:=(fun y=>y.cell? ⟨u,3,none⟩=some (.int .i64 t'))) (by kernel_rfl) (KA.out _ hd0) (fun hHeld=>?_);refine aF 0 ?_;try simp only[sp]
    refine aF 1 ?_;try simp only[sp]
    refine aF 2 ?_;try simp only[sp]
    refine dJ 3 (by kernel_rfl) rfl fun K hK=>?_
    go_simp
    refine(bO kr _ 6 _ (DA.out.below bD).r (by omega) (by omega) (by omega)).mono ?_;rintro e y5 ⟨p5,rfl,p50,p51,r5,e5⟩;have MN:Ex kr wc y5:=hd0.trans e5;have DB:Hid (Dm w kr w2.heap.size {m with qs:=qs,gs:=gs} s1 (ai a8 m.rs c8) s3 s4 (q+800+40*k+16+4+1) y5):=(DA.out.below bD).pick e5 r5;clear r5 e5;go_wp2_with fail
    refine hK.out _ _ (KA.out _ MN) (fun cq=>?_);clear hK K hHeld;try simp only[sp]
    refine aF 4 ?_;try simp only[sp]
    refine aF 5 ?_;try simp only[sp]
    have RB:Hid (y5.rangeAt u 0 (mD h (c) (0) (t'))):=fun a v hv=>(MN.cell (p:=⟨u,0+a,none⟩) huA uR).trans (RA.out a v hv);have TB:Hid (y5.there u 0 4):=bh TA.out huA MN uR;have huB:u<y5.heap.size:=Nat.lt_of_lt_of_le huA MN.size;obtain⟨⟨z2,k2⟩,f2⟩:=eb TB.out 2 (by omega);refine dJ 6 (by kernel_rfl) rfl fun K hK=>?_
    go_simp
    have J7:Ex u y5 (y5.setCell ⟨u,2,none⟩ (.int .i64 (IntKind.i64.wrap (t'-p5)))):=(Ex.refl _ _).set 2 _;have RC:Hid ((y5.setCell ⟨u,2,none⟩ (.int .i64 (IntKind.i64.wrap (t'-p5)))).rangeAt u 0 (mD h (c) (IntKind.i64.wrap (t'-p5)) (t'))):=qH RB.out TB.out rfl (by omega);refine hK.out _ _ (by have h1:=RC.out 3 _ rfl;rwa [Nat.zero_add]at h1) (fun hL=>?_);clear hK K cq hL k2;try simp only[Act.put]
    refine wpAnyH_done (by kernel_rfl) ?_ _;refine NoPanic.normal ?_;have TC:Hid ((y5.setCell ⟨u,2,none⟩ (.int .i64 (IntKind.i64.wrap (t'-p5)))).there u 0 4):=World.there_setCells TB.out u 2 [.int .i64 (IntKind.i64.wrap (t'-p5))];have J8:u<(y5.setCell ⟨u,2,none⟩ (.int .i64 (IntKind.i64.wrap (t'-p5)))).heap.size:=Nat.lt_of_lt_of_le huB J7.size;have DC:Hid (Dm w kr w2.heap.size {m with qs:=qs,gs:=gs} s1 (ai a8 m.rs c8) s3 s4 (q+800+40*k+16+4+1) (y5.setCell ⟨u,2,none⟩ (.int .i64 (IntKind.i64.wrap (t'-p5))))):=DB.out.grown (A.av J7) (fun a ha=>by cases ha;exact hbu) (fun a ha=>by cases ha;exact HN.out);go_wp2_with fail
    go_meet
    exact⟨_,(by rw[IntKind.wrap_i64];omega),(by rw[IntKind.wrap_i64];omega),RC.out,TC.out,J8,DC.out⟩
   obtain⟨f,hf0,hf1,RC,TC,J8,DC⟩:=hcut;clear RA TA DA KA hd0;have QR:=RC.out 2 _ rfl;rw[Nat.zero_add]at QR;obtain⟨-,TI⟩:=eb TC.out 2 (by omega)
   go_upto_if 158 with(fail)
   go_cut [] (fun wx=>∃f':Int,Hid (wx.rangeAt u 0 (mD h (c) (f') (t')))/\Hid (wx.there u 0 4)/\u<wx.heap.size/\Hid (Dm w kr w2.heap.size {m with qs:=qs,gs:=gs} s1 (ai a8 m.rs c8) s3 s4 (q+800+40*k+16+4+1) wx))
   case first=>
    by_cases hfn:f<0
    ·
     go_wp2_with fail
     go_meet
     have J9:Ex u wc (wc.setCell ⟨u,2,none⟩ (.int .i64 0)):=(Ex.refl _ _).set 2 _;exact⟨0,qH RC.out TC.out rfl (by omega),World.there_setCells TC.out u 2 [.int .i64 0],Nat.lt_of_lt_of_le J8 J9.size,DC.out.grown (A.av J9) (fun a ha=>by cases ha;exact hbu) (fun a ha=>by cases ha;exact HN.out)⟩
    go_wp2_with fail
    go_meet
    exact⟨_,RC.out,TC.out,J8,DC.out⟩
   obtain⟨f',RD,TD,QS,DD⟩:=hcut;clear QR TI RC TC DC J8;go_wp2_with fail
   refine(bO kr _ 4 _ DD.out.r (by omega) (by omega) (by omega)).mono ?_;rintro e y7 ⟨p7,rfl,p70,p71,r7,e7⟩;have D7:Hid (Dm w kr w2.heap.size {m with qs:=qs,gs:=gs} s1 (ai a8 m.rs c8) s3 s4 (q+800+40*k+16+4+1+1) y7):=DD.out.pick e7 r7;have R7:Hid (y7.rangeAt u 0 (mD h (c) (f') (t'))):=fun a v hv=>(e7.cell (p:=⟨u,0+a,none⟩) QS uR).trans (RD.out a v hv);have Wa:u<y7.heap.size:=Nat.lt_of_lt_of_le QS e7.size;have TJ:=R7.out 0 _ rfl;have TK:=R7.out 1 _ rfl;have TL:=R7.out 2 _ rfl;have TM:=R7.out 3 _ rfl;rw[Nat.zero_add]at TJ TK TL TM;have N6:=D7.out.b 7;have Oa:=D7.out.b 8;have Wb:=D7.out.z;clear r7 e7 RD TD DD R7;rcases(by omega:p7=0\/p7=1\/p7=2\/p7=3)with FQ|FQ|FQ|FQ
   ·
    subst FQ;go_wp2_with (at_builtin;refine wpList_append_own_at _ rfl _ _ 25 rfl (w2.heap.size+1) 64 ia _ 4 48 underlying25 hia FL FM FN rfl (by decide) s3 qs.length _ rfl (by exact aN D7.out.l.a3 (ae bR _)) ⟨_,0,none⟩ 1 1 (⟨h,c,f',t'⟩:A.aC).cells rfl rfl (A.bG _ _ (by simp) _ _ _ rfl) (A.aU _) (by unfold maxLen;omega) (by omega) (by have h1:=D7.out.z;simp;omega) ?_;intro v9 y9 ho hg hn hat;have DY:Hid (Dm w kr w2.heap.size {m with qs:=qs,gs:=gs} s1 (ai a8 m.rs c8) s3 s4 (q+800+40*k+16+4+1+1) (y7.alloc (.cells (cZ h c f' t') 64))):=D7.out.below (ae bR _);have K9:=kX DY.out hg (fun a ha=>(DY.out.l.a3.lt a ha).1);have Ob:=K9.1;have IY:=K9.2.1;clear K9;obtain⟨a9,p9,jq⟩:=eE ho;subst jq)
    have HO:A.Ow y9 (.slice a9 (qs.length+1) p9) (qs++[(⟨h,c,f',t'⟩:A.aC)]) (w2.heap.size+1):=(by show World.ownsRow _ _ _ _ _ (qs++[(⟨h,c,f',t'⟩:A.aC)]).length _;rw[List.length_append];simpa[A.aA]using ho);exact⟨⟨k+1,qs++[(⟨h,c,f',t'⟩:A.aC)],gs,(.slice a9 (qs.length+1) p9),s4,by omega,by go_num,(by simp;omega),by omega,gB J3.out ⟨np,hcs⟩,J4.out,Dm.up (Dm.Ck DY.out hg HO (by simpa using hat)) (by omega)⟩,by simp[intOf];omega⟩
   ·
    subst FQ;go_wp2_with (at_builtin;refine wpList_append_own_at _ rfl _ _ 25 rfl (w2.heap.size+1) 64 ia _ 4 48 underlying25 hia FL FM FN rfl (by decide) s3 qs.length _ rfl (by exact aN D7.out.l.a3 (ae bR _)) ⟨_,0,none⟩ 1 1 (⟨h,c,f',t'⟩:A.aC).cells rfl rfl (A.bG _ _ (by simp) _ _ _ rfl) (A.aU _) (by unfold maxLen;omega) (by omega) (by have h1:=D7.out.z;simp;omega) ?_;intro v9 y9 ho hg hn hat;have DY:Hid (Dm w kr w2.heap.size {m with qs:=qs,gs:=gs} s1 (ai a8 m.rs c8) s3 s4 (q+800+40*k+16+4+1+1) (y7.alloc (.cells (cZ h c f' t') 64))):=D7.out.below (ae bR _);have K9:=kX DY.out hg (fun a ha=>(DY.out.l.a3.lt a ha).1);have Ob:=K9.1;have IY:=K9.2.1;clear K9;obtain⟨a9,p9,jq⟩:=eE ho;subst jq)
    have HO:A.Ow y9 (.slice a9 (qs.length+1) p9) (qs++[(⟨h,c,f',t'⟩:A.aC)]) (w2.heap.size+1):=(by show World.ownsRow _ _ _ _ _ (qs++[(⟨h,c,f',t'⟩:A.aC)]).length _;rw[List.length_append];simpa[A.aA]using ho);exact⟨⟨k+1,qs++[(⟨h,c,f',t'⟩:A.aC)],gs,(.slice a9 (qs.length+1) p9),s4,by omega,by go_num,(by simp;omega),by omega,gB J3.out ⟨np,hcs⟩,J4.out,Dm.up (Dm.Ck DY.out hg HO (by simpa using hat)) (by omega)⟩,by simp[intOf];omega⟩
   ·
    subst FQ;go_wp2_with (at_builtin;refine wpList_append_own_at _ rfl _ _ 25 rfl (w2.heap.size+1) 64 ia _ 4 48 underlying25 hia FL FM FN rfl (by decide) s4 gs.length _ rfl (by exact aN D7.out.l.a4 (ae bR _)) ⟨_,0,none⟩ 1 1 (⟨h,c,f',t'⟩:A.aC).cells rfl rfl (A.bG _ _ (by simp) _ _ _ rfl) (A.aU _) (by unfold maxLen;omega) (by omega) (by have h1:=D7.out.z;simp;omega) ?_;intro v9 y9 ho hg hn hat;have DY:Hid (Dm w kr w2.heap.size {m with qs:=qs,gs:=gs} s1 (ai a8 m.rs c8) s3 s4 (q+800+40*k+16+4+1+1) (y7.alloc (.cells (cZ h c f' t') 64))):=D7.out.below (ae bR _);have K9:=kX DY.out hg (fun a ha=>(DY.out.l.a4.lt a ha).1);have Ob:=K9.1;have IY:=K9.2.1;clear K9;obtain⟨a9,p9,jq⟩:=eE ho;subst jq)
    have HO:A.Ow y9 (.slice a9 (gs.length+1) p9) (gs++[(⟨h,c,f',t'⟩:A.aC)]) (w2.heap.size+1):=(by show World.ownsRow _ _ _ _ _ (gs++[(⟨h,c,f',t'⟩:A.aC)]).length _;rw[List.length_append];simpa[A.aA]using ho);exact⟨⟨k+1,qs,gs++[(⟨h,c,f',t'⟩:A.aC)],s3,(.slice a9 (gs.length+1) p9),by omega,by go_num,by omega,(by simp;omega),J3.out,gB J4.out ⟨np,hcs⟩,Dm.up (Dm.FJ DY.out hg HO (by simpa using hat)) (by omega)⟩,by simp[intOf];omega⟩
   subst FQ;go_wp2
   exact⟨⟨k+1,qs,gs,s3,s4,by omega,by go_num,by omega,by omega,J3.out,J4.out,Dm.up D7.out (by omega)⟩,by simp[intOf];omega⟩
  have hk3:k=3:=by omega
  obtain⟨e1,o1,hs1⟩:=HK.out.l.a1.shape;obtain⟨e2,o2,hs2⟩:=HK.out.l.a2.shape;obtain⟨e3,o3,hs3⟩:=HK.out.l.a3.shape;obtain⟨e4,o4,hs4⟩:=HK.out.l.a4.shape;have hs1:s1=.slice e1 m.ws.length o1:=hs1;have hs2:s2=.slice e2 m.rs.length o2:=hs2;have hs3:s3=.slice e3 qs.length o3:=hs3;have hs4:s4=.slice e4 gs.length o4:=hs4;subst hs1 hs2 hs3 hs4;have ho:=ones {m with qs:=qs,gs:=gs} HK.out.l.a1.sl HK.out.l.a2.sl HK.out.l.a3.sl HK.out.l.a4.sl;have kb:=HK.out.b;have kw:=HK.out.zw;have kz:=HK.out.z;have kk:=HK.out.zk;have hE:Ex w.heap.size wr (wr.setCells w.heap.size 0 (dP m.nm m.up m.ck m.kn m.se (ai e1 m.ws o1) (ai e2 m.rs o2) (ai e3 qs o3) (ai e4 gs o4))):=(Ex.refl _ _).cells _ _;have hg:wr.grownBy (wr.setCells w.heap.size 0 (dP m.nm m.up m.ck m.kn m.se (ai e1 m.ws o1) (ai e2 m.rs o2) (ai e3 qs o3) (ai e4 gs o4))) (some w.heap.size):=A.av hE;have Hg:Hid (wr.grownBy (wr.setCells w.heap.size 0 (dP m.nm m.up m.ck m.kn m.se (ai e1 m.ws o1) (ai e2 m.rs o2) (ai e3 qs o3) (ai e4 gs o4))) (some w.heap.size)):=hg;have HE:Hid (Ex w.heap.size wr (wr.setCells w.heap.size 0 (dP m.nm m.up m.ck m.kn m.se (ai e1 m.ws o1) (ai e2 m.rs o2) (ai e3 qs o3) (ai e4 gs o4)))):=hE;have Ho:Hid (∀u∈((dP m.nm m.up m.ck m.kn m.se (ai e1 m.ws o1) (ai e2 m.rs o2) (ai e3 qs o3) (ai e4 gs o4)):List Value),u.oneCell'=true):=ho;have hcw:m.ws.length<=o1:=qA HK.out.l.a1;clear hE hg ho hup hq0 hg0;go_wp2_with (refine wpList_store_mid (by rfl) 27 _ _ (by rfl) w.heap.size 0 (bY m.nm m.up m.ck m.kn m.se (ai e1 m.ws o1) (ai e2 m.rs o2) (ai e3 qs o3) (ai e4 gs o4)) (by rfl) (by rfl) (by exact HK.out.d) hinfo (by exact all_oneCell_toArray Ho.out) ?_)
  have hrg:=World.rangeAt_setCells_same wr w.heap.size 0 (dP m.nm m.up m.ck m.kn m.se (ai e1 m.ws o1) (ai e2 m.rs o2) (ai e3 qs o3) (ai e4 gs o4)) HK.out.d;obtain⟨d0,d1,d2,d3,d4,d5,d6,d7,d8⟩:=d9 hrg;have L:=HK.out.l.ex HE.out (by omega);exact bodyPost_ret (v:=.agg (bY m.nm m.up m.ck m.kn m.se (ai e1 m.ws o1) (ai e2 m.rs o2) (ai e3 qs o3) (ai e4 gs o4))) (by simp[results,results60,go_sem,d0,d1,d2,d3,d4,d5,d6,d7,d8]) rfl ⟨{m with qs:=qs,gs:=gs},_,_,_,_,rfl,L.sl.low (by omega),(fun _=>L.a2.low (by omega)),⟨_,_,rfl,hcw⟩,⟨zl.out.n,zl.out.c0,zl.out.c1,zl.out.w1,zl.out.w2,zl.out.r1,zl.out.r2,Nat.le_trans IQ hk,J3.out,Nat.le_trans hgl hk,J4.out⟩,(HK.out.r.grown Hg.out (fun a ha=>by cases ha;omega)).up (by omega),HK.out.e.grown Hg.out (fun a ha=>by cases ha;exact Nat.le_refl _)⟩
end Go.Proofs.YtlfnpjcjapljpaaGreatDoor
