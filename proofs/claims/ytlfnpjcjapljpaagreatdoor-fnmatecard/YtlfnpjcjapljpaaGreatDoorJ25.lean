import Derived.Test.YtlfnpjcjapljpaaGreatDoorJ20
namespace Go.Proofs.YtlfnpjcjapljpaaGreatDoor
open Go.Proofs.Tryz Go.RowKit
set_option maxRecDepth 4000
set_option maxHeartbeats 8000000
set_option linter.unusedVariables false
set_option linter.unusedSimpArgs false
def xo(bf:Nat)(b h c:ByteArray)(se t:Int)(ws:List W.ay)(A:Option Addr)(cp:Nat)(w:World):Nat->Value->Prop
 |0,v=>v=.pointer (some ⟨bf,1,none⟩)
 |1,v=>v=.string ⟨#[97,115,107,101,100]⟩
 |2,v=>v=.pointer (some ⟨bf,3,none⟩)
 |3,v=>v=.func (.func 137) #[] #[]
 |4,v=>v=.agg (cw 2 b se (.slice A 0 cp) h c t)
 |5,v=>gD [b,h,c,dz t] w v
 |6,v=>v=.string (gC {data:=#[97,115,107,101,100]} [b,h,c,dz t])
 |7,v=>v=.string (gC {data:=#[97,115,107,101,100]} [b,h,c,dz t])
 |_,_=>True
theorem xo.keep{bf:Nat}{b h c:ByteArray}{se t:Int}{ws:List W.ay}{A:Option Addr}{cp:Nat}{w w':World}(hb:Below w.heap.size w w'):∀i v,xo bf b h c se t ws A cp w i v->xo bf b h c se t ws A cp w' i v
 |0,_,h=>h
 |1,_,h=>h
 |2,_,h=>h
 |3,_,h=>h
 |4,_,h=>h
 |5,_,h=>gD.keep h hb
 |6,_,h=>h
 |7,_,h=>h
 |_+8,_,h=>h
theorem CS(b:ByteArray)(se:Int)(h c:ByteArray)(t:Int)(A:Option Addr)(cp:Nat)(w:World)(hP:zV ⟨2,b,se,[],h,c,t⟩)(ht:Tab w)(hf:(jc b h c t&&fb se 0)=true):
  Calls prog 12 #[.agg (cw 2 b se (.slice A 0 cp) h c t)] w fun e w'=>e=.returned (.string (gC {data:=#[97,115,107,101,100]} [b,h,c,dz t]))/\Below w.heap.size w w':=by
 obtain⟨W1,hW1⟩:∃W1,W1=(w.alloc (.cells (cw 2 b se (.slice A 0 cp) h c t) 43)):=⟨_,rfl⟩
 have HB:Hid (Below w.heap.size w W1):=by rw[hW1];exact ae bR _
 have HL:Hid (w.heap.size<W1.heap.size):=by rw[hW1];show _<_;simp
 have qM:Hid (∀y,Below W1.heap.size W1 y->Tab y):=fun y hb=>(ht.keep HB.out).keep hb;have ZB:Hid (b.size<=maxLen):=Nat.le_trans hP.b (by unfold maxLen;decide);have ZH:Hid (h.size<=maxLen):=Nat.le_trans hP.h (by unfold maxLen;decide);have ZC:Hid (c.size<=maxLen):=Nat.le_trans hP.c (by unfold maxLen;decide);have SB:Hid (b.size<=1048576):=hP.b;have SH:Hid (h.size<=1048576):=hP.h;have SC:Hid (c.size<=1048576):=hP.c;have KX:Hid (∀y,Below W1.heap.size W1 y->∀k',y.cell? ⟨w.heap.size,k',none⟩=((cw 2 b se (.slice A 0 cp) h c t):Array Value)[k']?):=by intro y hb k';rw[hW1]at hb;rw[aJ hb k'];simp[go_sem]
 have HW1:Hid (W1=(w.alloc (.cells (cw 2 b se (.slice A 0 cp) h c t) 43))):=hW1;clear hW1 ht hP;have FACT:(0<=se/\se<=1000000)/\(0<=t/\t<=1000000):=by have hh:=hf;unfold jc fb cA at hh;simp only[Bool.and_eq_true,beq_iff_eq,decide_eq_true_eq]at hh;omega
 have HS:Hid (0<=se/\se<=1000000):=FACT.1;have HT:Hid (0<=t/\t<=1000000):=FACT.2;clear FACT;have HZ:Hid (∀x∈[b,h,c,dz t],x.size<=1000000000):=by have z1:=SB.out;have z2:=SH.out;have z3:=SC.out;have z4:=jM se HS.out.1 (by have:=HS.out.2;omega);have z5:=jM t HT.out.1 (by have:=HT.out.2;omega);intro x hx;simp only[List.mem_cons,List.not_mem_nil,or_false]at hx;rcases hx with rfl|rfl|rfl|rfl;all_goals omega
 go_enter func12,ntmps12
 go_wp2_with (first|(go_at_call 51;rw[<-HW1.out];refine(KH w.heap.size W1 (KX.out W1 bR 0) HL.out).mono ?_;rintro e w2 ⟨rfl,b2⟩;have Y:Hid (Below W1.heap.size W1 (w2.alloc (.cells #[.int .i64 2,.string ⟨#[97,115,107,101,100]⟩,.func (.func 136) #[] #[],.func (.func 137) #[] #[],.func (.func 138) #[] #[]] 82))):=ae b2 _;have Y2:Hid (Below W1.heap.size W1 w2):=b2;clear b2;have xq:=KX.out _ Y.out 0;have zP:=KX.out _ Y.out 1;have u9:=KX.out _ Y.out 2;have K7:=KX.out _ Y.out 3;have K8:=KX.out _ Y.out 4;have La:=KX.out _ Y.out 5;have uM:=KX.out _ Y.out 6)|(go_at_call 136;refine(lh 2 b se _ 0 cp h c t _ ZB.out ZH.out ZC.out).mono ?_;rintro e w4 ⟨rfl,b4⟩;rw[hf];obtain⟨KF,Y4⟩:=lZ Y.out b4;clear b4 xq zP u9 K7 K8 La uM;have Rf:=KX.out _ Y4.out 0;have Rh:=KX.out _ Y4.out 1;have MR:=KX.out _ Y4.out 2;have Ri:=KX.out _ Y4.out 3;have Rj:=KX.out _ Y4.out 4;have Rl:=KX.out _ Y4.out 5;have N4:=KX.out _ Y4.out 6))
 refine wp_region_any (by kernel_rfl) ?_;refine jy xn 8 (xo w2.heap.size b h c se t [] A cp) (fun y=>Below w4.heap.size w4 y) (by decide) rfl bD ?Gs ?Gt
 case Gs=>
  intro a y hI;have r5:a.tmps.getD 5 undef=.string (gC {data:=#[97,115,107,101,100]} [b,h,c,dz t]):=hI.all 7 (by omega);obtain⟨l,hl,ha⟩:=kF (lo:=22) (n:=7) (se:=5) hI.df hI.sz (lE rfl) (lE rfl) (fun j hj1 hj2=>hI.out j (fun i hi=>qN j hj1 hj2 i hi));rw[r5]at ha;have HY:Hid (Below w4.heap.size w4 y):=hI.d;clear r5 hI;subst ha;obtain⟨q0,l0,rfl,hl0⟩:=bW hl;obtain⟨q1,l1,rfl,hl1⟩:=bW hl0;obtain⟨q2,l2,rfl,hl2⟩:=bW hl1;obtain⟨q3,l3,rfl,hl3⟩:=bW hl2;obtain⟨q4,l4,rfl,hl4⟩:=bW hl3;obtain⟨q5,l5,rfl,hl5⟩:=bW hl4;obtain⟨q6,l6,rfl,mP⟩:=bW hl5;obtain rfl:=mc mP;simp only[List.setIfInBounds_toArray,List.set_cons_succ,List.set_cons_zero,List.take_succ_cons,List.take_zero,List.drop_succ_cons,List.drop_zero,List.cons_append,List.nil_append,Nat.reduceAdd];have NI:=KX.out y (af Y4.out HY.out) 3;go_wp2_with fail
  refine wp_loop_rounds 1 ?_;rw[rounds_succ];go_wp2_with fail
  go_ret
  exact⟨rfl,af HB.out (af Y4.out HY.out)⟩
 case Gt=>
  intro listed x y i hI hi hlt;have HJ:=ah hI;obtain rfl|rfl|rfl|rfl|rfl|rfl|rfl|rfl:i=0\/i=1\/i=2\/i=3\/i=4\/i=5\/i=6\/i=7:=by omega
  ·
   clear hi;refine il fun K hK=>?_;have i3:x.tmps[3]?.getD undef=_:=ak (hI.out 3 (fV 3 (by decide)));clear hI
   go_simp
   exact HJ.out.sm hK (by omega) (lE rfl) (cD (by omega)) rfl
  ·
   have vY:=hI.good 0 (by omega) (aY hi (j:=0) (by rfl));clear hi;refine il fun K hK=>?_;have MS:x.tmps[22]?.getD undef=_:=ak vY;have k9:y.cell? ⟨w2.heap.size,1,none⟩=some (.string ⟨#[97,115,107,101,100]⟩):=KF.out y hI.d 1;clear hI vY
   go_simp
   exact HJ.out.sm hK (by omega) (lE rfl) (cD (by omega)) rfl
  ·
   clear hi;refine il fun K hK=>?_;have i3:x.tmps[3]?.getD undef=_:=ak (hI.out 3 (fV 3 (by decide)));clear hI
   go_simp
   exact HJ.out.sm hK (by omega) (lE rfl) (cD (by omega)) rfl
  ·
   have vZ:=hI.good 2 (by omega) (aY hi (j:=2) (by rfl));clear hi;refine il fun K hK=>?_;have MU:x.tmps[24]?.getD undef=_:=ak vZ;have k9:y.cell? ⟨w2.heap.size,3,none⟩=some (.func (.func 137) #[] #[]):=KF.out y hI.d 3;clear hI vZ
   go_simp
   exact HJ.out.sm hK (by omega) (lE rfl) (cD (by omega)) rfl
  ·
   clear hi;refine il fun K hK=>?_;have i1:x.tmps[1]?.getD undef=_:=ak (hI.out 1 (fV 1 (by decide)));have x0:=KX.out y (af Y4.out hI.d) 0;have x1:=KX.out y (af Y4.out hI.d) 1;have x2:=KX.out y (af Y4.out hI.d) 2;have x3:=KX.out y (af Y4.out hI.d) 3;have x4:=KX.out y (af Y4.out hI.d) 4;have x5:=KX.out y (af Y4.out hI.d) 5;have x6:=KX.out y (af Y4.out hI.d) 6;clear hI
   go_simp
   exact HJ.out.sm hK (by omega) (lE rfl) (cD (by omega)) rfl
  ·
   have wa:=hI.good 3 (by omega) (aY hi (j:=3) (by rfl));have wh:=hI.good 4 (by omega) (aY hi (j:=4) (by rfl));clear hi;refine il fun K hK=>?_;have MV:x.tmps[25]?.getD undef=_:=ak wa;have MX:x.tmps[26]?.getD undef=_:=ak wh;clear hI wa wh
   go_simp
   refine(pP 2 b se _ h c t y rfl HS.out HT.out (qM.out y (af Y4.out HJ.out.d))).mono ?_;rintro e y' ⟨⟨v7,rfl,hrow⟩,hb⟩;exact hK.out _ _ (HJ.out.put (by omega) (lE rfl) (cD (by omega)) (hrow) (fun j u _ h=>xo.keep hb j u h) (af HJ.out.d hb))
  ·
   have wb:=hI.good 1 (by omega) (aY hi (j:=1) (by rfl));have BH:=hI.good 5 (by omega) (aY hi (j:=5) (by rfl));clear hi;refine il fun K hK=>?_;have MW:x.tmps[23]?.getD undef=_:=ak wb;obtain⟨g3,g4,g5,g6⟩:=BH;have MY:x.tmps[27]?.getD undef=_:=ak g4;clear g4;have G6:Hid (∀(j:Nat) x,([b,h,c,dz t]:List ByteArray)[j]?=some x->y.cell? ⟨g3,j,none⟩=some (.string x)):=g6;clear g6;clear hI wb
   go_simp
   refine(nF {data:=#[97,115,107,101,100]} g3 4 [b,h,c,dz t] y G6.out g5 (lE rfl) (lE rfl) HZ.out (by decide)).mono ?_;rintro e y' ⟨rfl,hb⟩;exact hK.out _ _ (HJ.out.put (by omega) (lE rfl) (cD (by omega)) (rfl) (fun j u _ h=>xo.keep hb j u h) (af HJ.out.d hb))
  have zW:=hI.good 6 (by omega) (aY hi (j:=6) (by rfl));clear hi;refine il fun K hK=>?_;have OH:x.tmps[28]?.getD undef=_:=ak zW;clear hI zW
  go_simp
  exact HJ.out.sm hK (by omega) (lE rfl) (cD (by omega)) rfl
end Go.Proofs.YtlfnpjcjapljpaaGreatDoor
