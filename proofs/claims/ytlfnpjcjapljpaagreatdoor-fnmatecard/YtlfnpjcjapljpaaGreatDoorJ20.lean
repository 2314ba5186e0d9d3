import Derived.Test.YtlfnpjcjapljpaaGreatDoorJ12
namespace Go.Proofs.YtlfnpjcjapljpaaGreatDoor
open Go.Proofs.Tryz Go.RowKit
set_option maxRecDepth 4000
set_option maxHeartbeats 2000000
set_option linter.unusedVariables false
def kZ(h c:ByteArray)(t:Int):Bool:=h.toList.isEmpty&&(c.toList.isEmpty&&(t==0))
def fb(se:Int)(n:Nat):Bool:=(se==0)&&((n:Int)==0)
def jc(b h c:ByteArray)(t:Int):Bool:=cF b&&(cF c&&(holdB h&&cA t 0 1000000))
theorem vb(k:Int)(b:ByteArray)(se:Int)(v3:Option Addr)(n cap:Nat)(h c:ByteArray)(t:Int)(w:World):
  Calls prog 164 #[.agg (cw k b se (.slice v3 n cap) h c t)] w fun e w'=>e=.returned (.bool (kZ h c t))/\Below w.heap.size w w':=by
 go_enter func164,ntmps164
 go_wp2_with fail
 all_goals (go_ret;refine⟨bu ?_,?_⟩)
 all_goals first|exact ae bR _|simp[kZ, *]
theorem sY(k:Int)(b:ByteArray)(se:Int)(v3:Option Addr)(n cap:Nat)(h c:ByteArray)(t:Int)(w:World):
  Calls prog 167 #[.agg (cw k b se (.slice v3 n cap) h c t)] w fun e w'=>e=.returned (.bool (fb se n))/\Below w.heap.size w w':=by
 go_enter func167,ntmps167
 go_wp2_with fail
 all_goals (go_ret;refine⟨bu ?_,?_⟩)
 all_goals first|exact ae bR _|simp[fb, *]
theorem wZ(k:Int)(b:ByteArray)(se:Int)(v3:Option Addr)(n cap:Nat)(h c:ByteArray)(t:Int)(w:World)(zb:b.size<=maxLen)(zh:h.size<=maxLen)(zc:c.size<=maxLen):
  Calls prog 166 #[.agg (cw k b se (.slice v3 n cap) h c t)] w fun e w'=>e=.returned (.bool (jc b h c t))/\Below w.heap.size w w':=by
 go_enter func166,ntmps166
 go_wp2_with (first|(go_at_call 89;refine mr (bX _ _ (by assumption)) ?_)|(go_at_call 163;refine mr (dS _ _ (by assumption)) ?_)|(go_at_call 19;refine mr (aP _ _ _ _) ?_))
 all_goals (go_ret;refine⟨bu ?_,?_⟩)
 all_goals first|exact ae bR _|simp[jc, *]
theorem lh(k:Int)(b:ByteArray)(se:Int)(v3:Option Addr)(n cap:Nat)(h c:ByteArray)(t:Int)(w:World)(zb:b.size<=maxLen)(zh:h.size<=maxLen)(zc:c.size<=maxLen):
  Calls prog 136 #[.agg (cw k b se (.slice v3 n cap) h c t)] w fun e w'=>e=.returned (.bool (jc b h c t&&fb se n))/\Below w.heap.size w w':=by
 go_enter func136,ntmps136
 go_wp2_with (first|(go_at_call 166;refine(wZ k b se v3 n cap h c t _ zb zh zc).mono ?_;rintro e w1 ⟨rfl,b1⟩;have zP:=aJ b1;have HB1:Hid (Below w.heap.size w w1):=af (ae bR _) b1;clear b1)|(go_at_call 167;refine(sY k b se v3 n cap h c t _).mono ?_;rintro e w2 ⟨rfl,b2⟩;have HB2:Hid (Below w.heap.size w w2):=af HB1.out b2;clear b2))
 all_goals (go_ret;refine⟨bu ?_,?_⟩)
 all_goals first|exact HB2.out|exact HB1.out|simp[*]
def pN(b h c:ByteArray)(se t:Int)(n:Nat):Bool:=cF b&&(cA se 0 1000000&&(((n:Int)==0)&&kZ h c t))
theorem qK(k:Int)(b:ByteArray)(se:Int)(v3:Option Addr)(n cap:Nat)(h c:ByteArray)(t:Int)(w:World)(zb:b.size<=maxLen)(zh:h.size<=maxLen)(zc:c.size<=maxLen):
  Calls prog 142 #[.agg (cw k b se (.slice v3 n cap) h c t)] w fun e w'=>e=.returned (.bool (pN b h c se t n))/\Below w.heap.size w w':=by
 go_enter func142,ntmps142
 go_wp2_with (first|(go_at_call 89;refine mr (bX _ _ (by assumption)) ?_)|(go_at_call 19;refine mr (aP _ _ _ _) ?_)|(go_at_call 164;refine(vb k b se v3 _ cap h c t _).mono ?_;rintro e w2 ⟨rfl,b2⟩;have HB2:Hid (Below w.heap.size w w2):=af (ae bR _) b2;clear b2))
 all_goals (go_ret;refine⟨bu ?_,?_⟩)
 all_goals first|exact HB2.out|exact ae bR _|simp[pN, *]
set_option maxHeartbeats 4000000
theorem dX(j k:Int)(v1 v2 v3 v4:Value)(o1:v1.oneCell'=true)(o2:v2.oneCell'=true)(o3:v3.oneCell'=true)(o4:v4.oneCell'=true)(b:Nat)(w:World)(hk:w.cell? ⟨b,0,none⟩=some (.int .i64 k))(hb:b<w.heap.size):
  Calls prog 52 #[.agg #[.int .i64 j,v1,v2,v3,v4],.pointer (some ⟨b,0,none⟩)] w fun e w'=>e=.returned (.bool (j==k))/\Below w.heap.size w w':=by
 have hk2:(w.alloc (.cells #[.int .i64 j,v1,v2,v3,v4] 82)).cell? ⟨b,0,none⟩=some (.int .i64 k):=by rw[(ae (Below.refl w.heap.size w) _).cell (p:=⟨b,0,none⟩) hb];exact hk
 go_enter func52,ntmps52
 go_wp2_with fail
 all_goals (go_ret;refine⟨bu ?_,?_⟩)
 all_goals first|exact ae bR _|simp[*]
def xa(k:Int):Int:=if 1<=k/\k<=6 then k-1 else -1
theorem qL(k:Int)(b g:Nat)(w:World)(hg:g<w.heap.size)(hF:∀j,w.cell? ⟨g,j,none⟩=kE[j]?)(hk:w.cell? ⟨b,0,none⟩=some (.int .i64 k))(hb:b<w.heap.size):
  Calls prog 99 #[.slice (some ⟨g,0,none⟩) 6 6,.func (.func 52) #[] #[.pointer (some ⟨b,0,none⟩)]] w fun e w'=>e=.returned (.int .i64 (xa k))/\Below w.heap.size w w':=by
 have HF:Hid (∀y,Below w.heap.size w y->∀j,y.cell? ⟨g,j,none⟩=kE[j]?):=fun y hy j=>(hy.cell (p:=⟨g,j,none⟩) hg).trans (hF j);have HK:Hid (∀y,Below w.heap.size w y->y.cell? ⟨b,0,none⟩=some (.int .i64 k)):=fun y hy=>(hy.cell (p:=⟨b,0,none⟩) hb).trans hk;have HL:=ah hb;clear hF hk hb;go_enter func99,ntmps99
 go_wp2
 go_loopw [8] (fun i wx=>∃(n:Nat),n<=6/\i=.int .i64 n/\Hid (∀j:Nat,j<n->k≠j+1)/\Hid (Below w.heap.size w wx)) (fun i _=>6-(intOf i).toNat)
 case atStart=>exact⟨0,Nat.zero_le _,rfl,fun j h=>by omega,Below.refl _ _⟩
 case round=>
  obtain⟨n,hn,rfl,Ha,hB⟩:=hrel;by_cases hlt:n<6
  ·
   obtain rfl|rfl|rfl|rfl|rfl|rfl:n=0\/n=1\/n=2\/n=3\/n=4\/n=5:=by omega
   ·
    have k0:wr.cell? ⟨g,0,none⟩=some (.int .i64 1):=HF.out wr hB.out 0;have k1:wr.cell? ⟨g,1,none⟩=some (.string ⟨#[116,111,108,100]⟩):=HF.out wr hB.out 1;have k2:wr.cell? ⟨g,2,none⟩=some (.func (.func 133) #[] #[]):=HF.out wr hB.out 2;have k3:wr.cell? ⟨g,3,none⟩=some (.func (.func 134) #[] #[]):=HF.out wr hB.out 3;have k4:wr.cell? ⟨g,4,none⟩=some (.func (.func 135) #[] #[]):=HF.out wr hB.out 4;by_cases hh:k=1
    ·
     have hq:((1:Int)==k)=true:=(by rw[hh];rfl);go_wp2_with (go_at_call 52;refine(dX 1 k _ _ _ _ rfl rfl rfl rfl b _ (HK.out wr hB.out) (Nat.lt_of_lt_of_le HL.out hB.out.size)).mono ?_;rintro e w1 ⟨rfl,hb⟩;rw[hq];have B1:Hid (Below wr.heap.size wr w1):=hb;clear hb)
     go_ret
     exact⟨by rw[hh];rfl,af hB.out B1.out⟩
    have hq:((1:Int)==k)=false:=(by simpa using fun h=>hh h.symm);go_wp2_with (go_at_call 52;refine(dX 1 k _ _ _ _ rfl rfl rfl rfl b _ (HK.out wr hB.out) (Nat.lt_of_lt_of_le HL.out hB.out.size)).mono ?_;rintro e w1 ⟨rfl,hb⟩;rw[hq];have B1:Hid (Below wr.heap.size wr w1):=hb;clear hb)
    exact⟨⟨1,by omega,by go_num,(fun j hj=>by
     by_cases e:j=0;·subst e;exact hh
     exact Ha.out j (by omega)),af hB.out B1.out⟩,by simp[intOf]⟩
   ·
    have k0:wr.cell? ⟨g,5,none⟩=some (.int .i64 2):=HF.out wr hB.out 5;have k1:wr.cell? ⟨g,6,none⟩=some (.string ⟨#[97,115,107,101,100]⟩):=HF.out wr hB.out 6;have k2:wr.cell? ⟨g,7,none⟩=some (.func (.func 136) #[] #[]):=HF.out wr hB.out 7;have k3:wr.cell? ⟨g,8,none⟩=some (.func (.func 137) #[] #[]):=HF.out wr hB.out 8;have k4:wr.cell? ⟨g,9,none⟩=some (.func (.func 138) #[] #[]):=HF.out wr hB.out 9;by_cases hh:k=2
    ·
     have hq:((2:Int)==k)=true:=(by rw[hh];rfl);go_wp2_with (go_at_call 52;refine(dX 2 k _ _ _ _ rfl rfl rfl rfl b _ (HK.out wr hB.out) (Nat.lt_of_lt_of_le HL.out hB.out.size)).mono ?_;rintro e w1 ⟨rfl,hb⟩;rw[hq];have B1:Hid (Below wr.heap.size wr w1):=hb;clear hb)
     go_ret
     exact⟨by rw[hh];rfl,af hB.out B1.out⟩
    have hq:((2:Int)==k)=false:=(by simpa using fun h=>hh h.symm);go_wp2_with (go_at_call 52;refine(dX 2 k _ _ _ _ rfl rfl rfl rfl b _ (HK.out wr hB.out) (Nat.lt_of_lt_of_le HL.out hB.out.size)).mono ?_;rintro e w1 ⟨rfl,hb⟩;rw[hq];have B1:Hid (Below wr.heap.size wr w1):=hb;clear hb)
    exact⟨⟨2,by omega,by go_num,(fun j hj=>by
     by_cases e:j=1;·subst e;exact hh
     exact Ha.out j (by omega)),af hB.out B1.out⟩,by simp[intOf]⟩
   ·
    have k0:wr.cell? ⟨g,10,none⟩=some (.int .i64 3):=HF.out wr hB.out 10;have k1:wr.cell? ⟨g,11,none⟩=some (.string ⟨#[103,105,118,101,110]⟩):=HF.out wr hB.out 11;have k2:wr.cell? ⟨g,12,none⟩=some (.func (.func 136) #[] #[]):=HF.out wr hB.out 12;have k3:wr.cell? ⟨g,13,none⟩=some (.func (.func 137) #[] #[]):=HF.out wr hB.out 13;have k4:wr.cell? ⟨g,14,none⟩=some (.func (.func 138) #[] #[]):=HF.out wr hB.out 14;by_cases hh:k=3
    ·
     have hq:((3:Int)==k)=true:=(by rw[hh];rfl);go_wp2_with (go_at_call 52;refine(dX 3 k _ _ _ _ rfl rfl rfl rfl b _ (HK.out wr hB.out) (Nat.lt_of_lt_of_le HL.out hB.out.size)).mono ?_;rintro e w1 ⟨rfl,hb⟩;rw[hq];have B1:Hid (Below wr.heap.size wr w1):=hb;clear hb)
     go_ret
     exact⟨by rw[hh];rfl,af hB.out B1.out⟩
    have hq:((3:Int)==k)=false:=(by simpa using fun h=>hh h.symm);go_wp2_with (go_at_call 52;refine(dX 3 k _ _ _ _ rfl rfl rfl rfl b _ (HK.out wr hB.out) (Nat.lt_of_lt_of_le HL.out hB.out.size)).mono ?_;rintro e w1 ⟨rfl,hb⟩;rw[hq];have B1:Hid (Below wr.heap.size wr w1):=hb;clear hb)
    exact⟨⟨3,by omega,by go_num,(fun j hj=>by
     by_cases e:j=2;·subst e;exact hh
     exact Ha.out j (by omega)),af hB.out B1.out⟩,by simp[intOf]⟩
   ·
    have k0:wr.cell? ⟨g,15,none⟩=some (.int .i64 4):=HF.out wr hB.out 15;have k1:wr.cell? ⟨g,16,none⟩=some (.string ⟨#[98,97,99,107]⟩):=HF.out wr hB.out 16;have k2:wr.cell? ⟨g,17,none⟩=some (.func (.func 136) #[] #[]):=HF.out wr hB.out 17;have k3:wr.cell? ⟨g,18,none⟩=some (.func (.func 137) #[] #[]):=HF.out wr hB.out 18;have k4:wr.cell? ⟨g,19,none⟩=some (.func (.func 138) #[] #[]):=HF.out wr hB.out 19;by_cases hh:k=4
    ·
     have hq:((4:Int)==k)=true:=(by rw[hh];rfl);go_wp2_with (go_at_call 52;refine(dX 4 k _ _ _ _ rfl rfl rfl rfl b _ (HK.out wr hB.out) (Nat.lt_of_lt_of_le HL.out hB.out.size)).mono ?_;rintro e w1 ⟨rfl,hb⟩;rw[hq];have B1:Hid (Below wr.heap.size wr w1):=hb;clear hb)
     go_ret
     exact⟨by rw[hh];rfl,af hB.out B1.out⟩
    have hq:((4:Int)==k)=false:=(by simpa using fun h=>hh h.symm);go_wp2_with (go_at_call 52;refine(dX 4 k _ _ _ _ rfl rfl rfl rfl b _ (HK.out wr hB.out) (Nat.lt_of_lt_of_le HL.out hB.out.size)).mono ?_;rintro e w1 ⟨rfl,hb⟩;rw[hq];have B1:Hid (Below wr.heap.size wr w1):=hb;clear hb)
    exact⟨⟨4,by omega,by go_num,(fun j hj=>by
     by_cases e:j=3;·subst e;exact hh
     exact Ha.out j (by omega)),af hB.out B1.out⟩,by simp[intOf]⟩
   ·
    have k0:wr.cell? ⟨g,20,none⟩=some (.int .i64 5):=HF.out wr hB.out 20;have k1:wr.cell? ⟨g,21,none⟩=some (.string ⟨#[103,111,116,98,97,99,107]⟩):=HF.out wr hB.out 21;have k2:wr.cell? ⟨g,22,none⟩=some (.func (.func 139) #[] #[]):=HF.out wr hB.out 22;have k3:wr.cell? ⟨g,23,none⟩=some (.func (.func 140) #[] #[]):=HF.out wr hB.out 23;have k4:wr.cell? ⟨g,24,none⟩=some (.func (.func 141) #[] #[]):=HF.out wr hB.out 24;by_cases hh:k=5
    ·
     have hq:((5:Int)==k)=true:=(by rw[hh];rfl);go_wp2_with (go_at_call 52;refine(dX 5 k _ _ _ _ rfl rfl rfl rfl b _ (HK.out wr hB.out) (Nat.lt_of_lt_of_le HL.out hB.out.size)).mono ?_;rintro e w1 ⟨rfl,hb⟩;rw[hq];have B1:Hid (Below wr.heap.size wr w1):=hb;clear hb)
     go_ret
     exact⟨by rw[hh];rfl,af hB.out B1.out⟩
    have hq:((5:Int)==k)=false:=(by simpa using fun h=>hh h.symm);go_wp2_with (go_at_call 52;refine(dX 5 k _ _ _ _ rfl rfl rfl rfl b _ (HK.out wr hB.out) (Nat.lt_of_lt_of_le HL.out hB.out.size)).mono ?_;rintro e w1 ⟨rfl,hb⟩;rw[hq];have B1:Hid (Below wr.heap.size wr w1):=hb;clear hb)
    exact⟨⟨5,by omega,by go_num,(fun j hj=>by
     by_cases e:j=4;·subst e;exact hh
     exact Ha.out j (by omega)),af hB.out B1.out⟩,by simp[intOf]⟩
   have k0:wr.cell? ⟨g,25,none⟩=some (.int .i64 6):=HF.out wr hB.out 25;have k1:wr.cell? ⟨g,26,none⟩=some (.string ⟨#[104,101,114,101]⟩):=HF.out wr hB.out 26;have k2:wr.cell? ⟨g,27,none⟩=some (.func (.func 142) #[] #[]):=HF.out wr hB.out 27;have k3:wr.cell? ⟨g,28,none⟩=some (.func (.func 134) #[] #[]):=HF.out wr hB.out 28;have k4:wr.cell? ⟨g,29,none⟩=some (.func (.func 135) #[] #[]):=HF.out wr hB.out 29;by_cases hh:k=6
   ·
    have hq:((6:Int)==k)=true:=(by rw[hh];rfl);go_wp2_with (go_at_call 52;refine(dX 6 k _ _ _ _ rfl rfl rfl rfl b _ (HK.out wr hB.out) (Nat.lt_of_lt_of_le HL.out hB.out.size)).mono ?_;rintro e w1 ⟨rfl,hb⟩;rw[hq];have B1:Hid (Below wr.heap.size wr w1):=hb;clear hb)
    go_ret
    exact⟨by rw[hh];rfl,af hB.out B1.out⟩
   have hq:((6:Int)==k)=false:=(by simpa using fun h=>hh h.symm);go_wp2_with (go_at_call 52;refine(dX 6 k _ _ _ _ rfl rfl rfl rfl b _ (HK.out wr hB.out) (Nat.lt_of_lt_of_le HL.out hB.out.size)).mono ?_;rintro e w1 ⟨rfl,hb⟩;rw[hq];have B1:Hid (Below wr.heap.size wr w1):=hb;clear hb)
   exact⟨⟨6,by omega,by go_num,(fun j hj=>by
    by_cases e:j=5;·subst e;exact hh
    exact Ha.out j (by omega)),af hB.out B1.out⟩,by simp[intOf]⟩
  obtain rfl:n=6:=by omega
  go_wp2_with fail
  go_ret
  refine⟨?_,hB.out⟩;have hx:xa k=-1:=by unfold xa;rw[if_neg];rintro⟨h1,h2⟩;have:=Ha.out (k-1).toNat (by omega);omega
  rw[hx];rfl
theorem nE{w w1:World}(h:w1=(w.alloc (.cells #[.int .i64 0,.string ⟨#[]⟩,.nilFunc,.nilFunc,.nilFunc] 82)).alloc (.cells kE 82)):
  Hid (∀j,w1.cell? ⟨w.heap.size+1,j,none⟩=kE[j]?)/\Hid (w.heap.size+1<w1.heap.size)/\Hid (Below w.heap.size w w1)/\Hid (w1.heap[w.heap.size]?=some (.cells #[.int .i64 0,.string ⟨#[]⟩,.nilFunc,.nilFunc,.nilFunc] 82 (0,0))):=by
 subst h;refine⟨fun j=>?_,?_,ae (ae bR _) _,?_⟩
 ·
  have:=World.cell?_alloc_new (w.alloc (.cells #[.int .i64 0,.string ⟨#[]⟩,.nilFunc,.nilFunc,.nilFunc] 82)) kE 82 j;simp at this ⊢
 ·show _<_;simp
 ·
  show _=_;rw[(ae (Below.refl (w.alloc (.cells #[.int .i64 0,.string ⟨#[]⟩,.nilFunc,.nilFunc,.nilFunc] 82)).heap.size _) (.cells kE 82)).block _ (by simp)];exact heap_alloc_new w _
theorem ve{w y:World}{cs old:Array Value}{t:TypeId}(h:y.heap[w.heap.size]?=some (.cells old t (0,0)))(hb:Below w.heap.size w y):
  Hid (∀j,(y.setRow w.heap.size cs).cell? ⟨w.heap.size,j,none⟩=cs[j]?)/\Hid (Below w.heap.size w (y.setRow w.heap.size cs)):=by
 have h1:=setRow_heap y w.heap.size old cs t _ h;refine⟨fun j=>?_,?_⟩
 ·
  show _=_;rw[cell_of_row _ _ j cs t (0,0) h1]
 ·
  show Below _ _ _;exact Below.grown (row:=some w.heap.size) hb ⟨rfl,rfl,rfl,by simp,fun k _ hk=>setRow_other y w.heap.size k _ (fun e=>hk (by simp[e]))⟩ hb.size (fun k hk=>by cases hk;exact Nat.le_refl _)
theorem KH(b:Nat)(w:World)(hk:w.cell? ⟨b,0,none⟩=some (.int .i64 2))(hb:b<w.heap.size):
  Calls prog 51 #[.func (.func 52) #[] #[.pointer (some ⟨b,0,none⟩)]] w fun e w'=>e=.returned (.tuple #[.agg #[.int .i64 2,.string ⟨#[97,115,107,101,100]⟩,.func (.func 136) #[] #[],.func (.func 137) #[] #[],.func (.func 138) #[] #[]],.bool true])/\Below w.heap.size w w':=by
 have HX:Hid (xa 2=1):=rfl;have H1:Hid (∀y,Below w.heap.size w y->y.cell? ⟨b,0,none⟩=some (.int .i64 2)):=fun y hy=>(hy.cell (p:=⟨b,0,none⟩) hb).trans hk;have HL:=ah hb;clear hk hb;go_enter func51,ntmps51
 go_wp2_with (first|(go_at_call 98;refine(ig _).mono ?_;rintro e w1 ⟨rfl,e1⟩;obtain⟨C1,L1,B1,R1⟩:=nE e1;clear e1)|(go_at_call 99;refine(qL 2 b (w.heap.size+1) w1 L1.out C1.out (H1.out _ B1.out) (Nat.lt_of_lt_of_le HL.out B1.out.size)).mono ?_;rintro e w2 ⟨rfl,b2⟩;rw[HX.out];have B2:Hid (Below w1.heap.size w1 w2):=b2;clear b2;have k0:w2.cell? ⟨w.heap.size+1,5,none⟩=some (.int .i64 2):=(B2.out.cell (p:=⟨w.heap.size+1,5,none⟩) L1.out).trans (C1.out 5);have k1:w2.cell? ⟨w.heap.size+1,6,none⟩=some (.string ⟨#[97,115,107,101,100]⟩):=(B2.out.cell (p:=⟨w.heap.size+1,6,none⟩) L1.out).trans (C1.out 6);have k2:w2.cell? ⟨w.heap.size+1,7,none⟩=some (.func (.func 136) #[] #[]):=(B2.out.cell (p:=⟨w.heap.size+1,7,none⟩) L1.out).trans (C1.out 7);have k3:w2.cell? ⟨w.heap.size+1,8,none⟩=some (.func (.func 137) #[] #[]):=(B2.out.cell (p:=⟨w.heap.size+1,8,none⟩) L1.out).trans (C1.out 8);have k4:w2.cell? ⟨w.heap.size+1,9,none⟩=some (.func (.func 138) #[] #[]):=(B2.out.cell (p:=⟨w.heap.size+1,9,none⟩) L1.out).trans (C1.out 9);have R2:Hid (w2.heap[w.heap.size]?=some (.cells #[.int .i64 0,.string ⟨#[]⟩,.nilFunc,.nilFunc,.nilFunc] 82 (0,0))):=(B2.out.block _ (Nat.lt_trans (Nat.lt_succ_self _) L1.out)).trans R1.out;have R3:w.heap.size<w2.heap.size:=Nat.lt_of_lt_of_le (Nat.lt_trans (Nat.lt_succ_self _) L1.out) B2.out.size)|(refine wpList_store_row (by rfl) 82 _ _ (by rfl) w.heap.size #[.int .i64 2,.string ⟨#[97,115,107,101,100]⟩,.func (.func 136) #[] #[],.func (.func 137) #[] #[],.func (.func 138) #[] #[]] (by rfl) (by rfl) 82 #[.int .i64 0,.string ⟨#[]⟩,.nilFunc,.nilFunc,.nilFunc] R2.out (by kernel_rfl) rfl (by kernel_rfl) ?_;obtain⟨S1,S2⟩:=ve (w:=w) (cs:=#[.int .i64 2,.string ⟨#[97,115,107,101,100]⟩,.func (.func 136) #[] #[],.func (.func 137) #[] #[],.func (.func 138) #[] #[]]) R2.out (af B1.out B2.out);have s0:=S1.out 0;have s1:=S1.out 1;have s2:=S1.out 2;have s3:=S1.out 3;have s4:=S1.out 4;generalize w2.setRow w.heap.size #[.int .i64 2,.string ⟨#[97,115,107,101,100]⟩,.func (.func 136) #[] #[],.func (.func 137) #[] #[],.func (.func 138) #[] #[]]=w3 at *))
 exact bodyPost_ret (by simp[results,results51,go_sem,s0,s1,s2,s3,s4]) rfl ⟨rfl,S2.out⟩
theorem KI(b:Nat)(w:World)(hk:w.cell? ⟨b,0,none⟩=some (.int .i64 4))(hb:b<w.heap.size):
  Calls prog 51 #[.func (.func 52) #[] #[.pointer (some ⟨b,0,none⟩)]] w fun e w'=>e=.returned (.tuple #[.agg #[.int .i64 4,.string ⟨#[98,97,99,107]⟩,.func (.func 136) #[] #[],.func (.func 137) #[] #[],.func (.func 138) #[] #[]],.bool true])/\Below w.heap.size w w':=by
 have HX:Hid (xa 4=3):=rfl;have H1:Hid (∀y,Below w.heap.size w y->y.cell? ⟨b,0,none⟩=some (.int .i64 4)):=fun y hy=>(hy.cell (p:=⟨b,0,none⟩) hb).trans hk;have HL:=ah hb;clear hk hb;go_enter func51,ntmps51
 go_wp2_with (first|(go_at_call 98;refine(ig _).mono ?_;rintro e w1 ⟨rfl,e1⟩;obtain⟨C1,L1,B1,R1⟩:=nE e1;clear e1)|(go_at_call 99;refine(qL 4 b (w.heap.size+1) w1 L1.out C1.out (H1.out _ B1.out) (Nat.lt_of_lt_of_le HL.out B1.out.size)).mono ?_;rintro e w2 ⟨rfl,b2⟩;rw[HX.out];have B2:Hid (Below w1.heap.size w1 w2):=b2;clear b2;have k0:w2.cell? ⟨w.heap.size+1,15,none⟩=some (.int .i64 4):=(B2.out.cell (p:=⟨w.heap.size+1,15,none⟩) L1.out).trans (C1.out 15);have k1:w2.cell? ⟨w.heap.size+1,16,none⟩=some (.string ⟨#[98,97,99,107]⟩):=(B2.out.cell (p:=⟨w.heap.size+1,16,none⟩) L1.out).trans (C1.out 16);have k2:w2.cell? ⟨w.heap.size+1,17,none⟩=some (.func (.func 136) #[] #[]):=(B2.out.cell (p:=⟨w.heap.size+1,17,none⟩) L1.out).trans (C1.out 17);have k3:w2.cell? ⟨w.heap.size+1,18,none⟩=some (.func (.func 137) #[] #[]):=(B2.out.cell (p:=⟨w.heap.size+1,18,none⟩) L1.out).trans (C1.out 18);have k4:w2.cell? ⟨w.heap.size+1,19,none⟩=some (.func (.func 138) #[] #[]):=(B2.out.cell (p:=⟨w.heap.size+1,19,none⟩) L1.out).trans (C1.out 19);have R2:Hid (w2.heap[w.heap.size]?=some (.cells #[.int .i64 0,.string ⟨#[]⟩,.nilFunc,.nilFunc,.nilFunc] 82 (0,0))):=(B2.out.block _ (Nat.lt_trans (Nat.lt_succ_self _) L1.out)).trans R1.out;have R3:w.heap.size<w2.heap.size:=Nat.lt_of_lt_of_le (Nat.lt_trans (Nat.lt_succ_self _) L1.out) B2.out.size)|(refine wpList_store_row (by rfl) 82 _ _ (by rfl) w.heap.size #[.int .i64 4,.string ⟨#[98,97,99,107]⟩,.func (.func 136) #[] #[],.func (.func 137) #[] #[],.func (.func 138) #[] #[]] (by rfl) (by rfl) 82 #[.int .i64 0,.string ⟨#[]⟩,.nilFunc,.nilFunc,.nilFunc] R2.out (by kernel_rfl) rfl (by kernel_rfl) ?_;obtain⟨S1,S2⟩:=ve (w:=w) (cs:=#[.int .i64 4,.string ⟨#[98,97,99,107]⟩,.func (.func 136) #[] #[],.func (.func 137) #[] #[],.func (.func 138) #[] #[]]) R2.out (af B1.out B2.out);have s0:=S1.out 0;have s1:=S1.out 1;have s2:=S1.out 2;have s3:=S1.out 3;have s4:=S1.out 4;generalize w2.setRow w.heap.size #[.int .i64 4,.string ⟨#[98,97,99,107]⟩,.func (.func 136) #[] #[],.func (.func 137) #[] #[],.func (.func 138) #[] #[]]=w3 at *))
 exact bodyPost_ret (by simp[results,results51,go_sem,s0,s1,s2,s3,s4]) rfl ⟨rfl,S2.out⟩
theorem KL(b:Nat)(w:World)(hk:w.cell? ⟨b,0,none⟩=some (.int .i64 6))(hb:b<w.heap.size):
  Calls prog 51 #[.func (.func 52) #[] #[.pointer (some ⟨b,0,none⟩)]] w fun e w'=>e=.returned (.tuple #[.agg #[.int .i64 6,.string ⟨#[104,101,114,101]⟩,.func (.func 142) #[] #[],.func (.func 134) #[] #[],.func (.func 135) #[] #[]],.bool true])/\Below w.heap.size w w':=by
 have HX:Hid (xa 6=5):=rfl;have H1:Hid (∀y,Below w.heap.size w y->y.cell? ⟨b,0,none⟩=some (.int .i64 6)):=fun y hy=>(hy.cell (p:=⟨b,0,none⟩) hb).trans hk;have HL:=ah hb;clear hk hb;go_enter func51,ntmps51
 go_wp2_with (first|(go_at_call 98;refine(ig _).mono ?_;rintro e w1 ⟨rfl,e1⟩;obtain⟨C1,L1,B1,R1⟩:=nE e1;clear e1)|(go_at_call 99;refine(qL 6 b (w.heap.size+1) w1 L1.out C1.out (H1.out _ B1.out) (Nat.lt_of_lt_of_le HL.out B1.out.size)).mono ?_;rintro e w2 ⟨rfl,b2⟩;rw[HX.out];have B2:Hid (Below w1.heap.size w1 w2):=b2;clear b2;have k0:w2.cell? ⟨w.heap.size+1,25,none⟩=some (.int .i64 6):=(B2.out.cell (p:=⟨w.heap.size+1,25,none⟩) L1.out).trans (C1.out 25);have k1:w2.cell? ⟨w.heap.size+1,26,none⟩=some (.string ⟨#[104,101,114,101]⟩):=(B2.out.cell (p:=⟨w.heap.size+1,26,none⟩) L1.out).trans (C1.out 26);have k2:w2.cell? ⟨w.heap.size+1,27,none⟩=some (.func (.func 142) #[] #[]):=(B2.out.cell (p:=⟨w.heap.size+1,27,none⟩) L1.out).trans (C1.out 27);have k3:w2.cell? ⟨w.heap.size+1,28,none⟩=some (.func (.func 134) #[] #[]):=(B2.out.cell (p:=⟨w.heap.size+1,28,none⟩) L1.out).trans (C1.out 28);have k4:w2.cell? ⟨w.heap.size+1,29,none⟩=some (.func (.func 135) #[] #[]):=(B2.out.cell (p:=⟨w.heap.size+1,29,none⟩) L1.out).trans (C1.out 29);have R2:Hid (w2.heap[w.heap.size]?=some (.cells #[.int .i64 0,.string ⟨#[]⟩,.nilFunc,.nilFunc,.nilFunc] 82 (0,0))):=(B2.out.block _ (Nat.lt_trans (Nat.lt_succ_self _) L1.out)).trans R1.out;have R3:w.heap.size<w2.heap.size:=Nat.lt_of_lt_of_le (Nat.lt_trans (Nat.lt_succ_self _) L1.out) B2.out.size)|(refine wpList_store_row (by rfl) 82 _ _ (by rfl) w.heap.size #[.int .i64 6,.string ⟨#[104,101,114,101]⟩,.func (.func 142) #[] #[],.func (.func 134) #[] #[],.func (.func 135) #[] #[]] (by rfl) (by rfl) 82 #[.int .i64 0,.string ⟨#[]⟩,.nilFunc,.nilFunc,.nilFunc] R2.out (by kernel_rfl) rfl (by kernel_rfl) ?_;obtain⟨S1,S2⟩:=ve (w:=w) (cs:=#[.int .i64 6,.string ⟨#[104,101,114,101]⟩,.func (.func 142) #[] #[],.func (.func 134) #[] #[],.func (.func 135) #[] #[]]) R2.out (af B1.out B2.out);have s0:=S1.out 0;have s1:=S1.out 1;have s2:=S1.out 2;have s3:=S1.out 3;have s4:=S1.out 4;generalize w2.setRow w.heap.size #[.int .i64 6,.string ⟨#[104,101,114,101]⟩,.func (.func 142) #[] #[],.func (.func 134) #[] #[],.func (.func 135) #[] #[]]=w3 at *))
 exact bodyPost_ret (by simp[results,results51,go_sem,s0,s1,s2,s3,s4]) rfl ⟨rfl,S2.out⟩
theorem lZ{W1 w2 w4:World}{fc:Array Value}{t:TypeId}(hY:Below W1.heap.size W1 (w2.alloc (.cells fc t)))(hb:Below (w2.alloc (.cells fc t)).heap.size (w2.alloc (.cells fc t)) w4):
  Hid (∀y,Below w4.heap.size w4 y->∀j,y.cell? ⟨w2.heap.size,j,none⟩=fc[j]?)/\Hid (Below W1.heap.size W1 w4):=by
 refine⟨fun y hy j=>?_,af hY hb⟩;rw[(af hb hy).cell (p:=⟨w2.heap.size,j,none⟩) (by simp),World.cell?_alloc_new]
def xn:Nat->Nat
 |0=>22
 |1=>23
 |2=>24
 |3=>25
 |4=>26
 |5=>27
 |6=>28
 |7=>5
 |_=>0
theorem cD{i:Nat}(hi:i<8):∀j,j<8->xn j=xn i->j=i:=by
 have h:∀a:_root_.Fin 8,∀b:_root_.Fin 8,xn b.val=xn a.val->b.val=a.val:=by decide
 intro j hj e;exact h ⟨i,hi⟩ ⟨j,hj⟩ e
theorem fV(k:Nat)(h:(List.range 8).all (fun i=>xn i != k)=true):∀i,i<8->xn i≠k:=fun i hi e=>by have h1:=List.all_eq_true.1 h i (List.mem_range.2 hi);rw[e]at h1;simp at h1
theorem qN(j:Nat)(h1:j≠5)(h2:j<22\/22+7<=j):∀i,i<8->xn i≠j:=by
 have h:∀a:_root_.Fin 8,xn a.val=5\/(22<=xn a.val/\xn a.val<22+7):=by decide
 intro i hi e;have h3:=h ⟨i,hi⟩;simp only[e]at h3;omega
end Go.Proofs.YtlfnpjcjapljpaaGreatDoor
