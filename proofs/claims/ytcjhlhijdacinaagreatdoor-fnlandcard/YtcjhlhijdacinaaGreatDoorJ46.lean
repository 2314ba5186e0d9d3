import Derived.Test.YtcjhlhijdacinaaGreatDoorJ13
import Derived.Test.YtcjhlhijdacinaaGreatDoorJ33
import Derived.Test.YtcjhlhijdacinaaGreatDoorJ34
import Derived.Test.YtcjhlhijdacinaaGreatDoorJ38
import Derived.Test.YtcjhlhijdacinaaGreatDoorJ39
import Derived.Test.YtcjhlhijdacinaaGreatDoorJ41
import Derived.Test.YtcjhlhijdacinaaGreatDoorJ45
import Derived.Test.YtcjhlhijdacinaaGreatDoorJ24
import Derived.Test.YtcjhlhijdacinaaGreatDoorRows
import Derived.Shelf.Vars
import Derived.LaidMore
import Derived.LaidOnce
import Derived.Stop.LaidErr
import Derived.Stop.LaidTwo
import Derived.Stop.Joined
import Derived.HandedShaped
import Derived.ChangeMaps5
import Derived.ChangeOld
import Derived.ProofKit
import Derived.OpenShut
import Derived.Test.YtcjhlhijdacinaaGreatDoorIter
import Derived.Test.YtcjhlhijdacinaaGreatDoorJ02
import Derived.Test.YtcjhlhijdacinaaGreatDoorJ03
namespace Go.Proofs.YtcjhlhijdacinaaGreatDoor
open Go.RowKit
set_option linter.unusedVariables false
set_option maxRecDepth 4000 in
set_option maxHeartbeats 8000000 in
theorem lawFnLand (hK1:G.KeysSay) (hS1:G.SortedSay) (hK2:Pr.KeysSay) (hS2:Pr.SortedSay) (a:Option Addr) (n cap:Nat) (zs:List Int) (w:World) (hc:CodeIn w a n zs) (hcap:n≤cap) (hE6:Er6 w) (v0 v1:Value) (hEs:Errs w v0 v1) (r0 r1 r2:Addr) (hE3:Er3 w r0 r1 r2) :
  Calls Tryz.prog 3 #[.slice a n cap] w fun e w'=>e=.returned (.bool true)∧Below w.heap.size w w':=by
 by_cases hn:1048576 < n
 ·
  have hni:(1048576:Int) < (n:Int):=by omega
  clear hc
  go_enter Tryz.func3,Tryz.ntmps3
  go_wp2_with fail
  go_ret
  exact ⟨rfl,Below.refl _ _⟩
 have hni:¬ ((1048576:Int) < (n:Int)):=by omega
 have HCO:=hidP hc
 have H6:Hid (∀ y,Below w.heap.size w y→Er6 y∧Errs y v0 v1∧Er3 y r0 r1 r2):=fun y hy=>⟨hE6.keep hy,hEs.keep hy,hE3.keep hy⟩
 clear hc hE6 hEs hE3
 go_enter Tryz.func3,Tryz.ntmps3
 go_wp2_with fail
 refine (drawTake a n cap zs w HCO.out (by omega) hcap).mono ?_
 rintro e w1 ⟨t,gs,ps,a1,a2,c1,c2,p,rfl,hz1,hF1,hp1,hb1⟩
 have HP:=hidP hp1
 have HF:=hidP hF1
 obtain ⟨W1,hW1⟩:∃ W1,W1=(w1.alloc (.cells #[.int .i64 t,.slice a1 gs.length c1,.slice a2 ps.length c2] 26)).alloc (.cells #[.int .i64 p.k,.string p.b,.int .i64 0,.slice none 0 0,.string p.h,.string p.c,.int .i64 p.t] 29):=⟨_,rfl⟩
 have B1:Below w1.heap.size w1 W1:=by rw [hW1]; exact bl_alloc (bl_alloc bR _) _
 obtain ⟨b3,hb3⟩:∃ b3,b3=w1.heap.size:=⟨_,rfl⟩
 have N1:Boz W1 b3 #[.int .i64 t,.slice a1 gs.length c1,.slice a2 ps.length c2]∧Boz W1 (b3+1) #[.int .i64 p.k,.string p.b,.int .i64 0,.slice none 0 0,.string p.h,.string p.c,.int .i64 p.t]:=by
  rw [hW1,hb3]
  exact ⟨(Boz.new _ _ _).keep (bl_alloc bR _),by have:=Boz.new (w1.alloc (.cells #[.int .i64 t,.slice a1 gs.length c1,.slice a2 ps.length c2] 26)) #[.int .i64 p.k,.string p.b,.int .i64 0,.slice none 0 0,.string p.h,.string p.c,.int .i64 p.t] 29; rwa [World.size_alloc] at this⟩
 have S1:Hid (∀ y,Below W1.heap.size W1 y→P.LandZ y gs ps a1 a2 c1∧(Boz y b3 #[.int .i64 t,.slice a1 gs.length c1,.slice a2 ps.length c2]∧Boz y (b3+1) #[.int .i64 p.k,.string p.b,.int .i64 0,.slice none 0 0,.string p.h,.string p.c,.int .i64 p.t])∧Below w.heap.size w y):=fun y hy=>⟨(hz1.keep B1).keep hy,⟨N1.1.keep hy,N1.2.keep hy⟩,bl_trans (bl_trans hb1 B1) hy⟩
 have HW1:Hid (W1=_∧b3=w1.heap.size):=⟨hW1,hb3⟩
 clear hz1 hF1 hp1 B1 N1 hb1 hW1 hb3
 go_wp2_with fail
 rw [← HW1.out.1,← HW1.out.2]
 obtain ⟨m1,-,m3⟩:=S1.out W1 bR
 refine (implLandTake_z hK1 hS1 hK2 hS2 t gs ps a1 a2 c1 c2 p 0 none 0 0 W1 m1 HF.out HP.out (H6.out W1 m3).1).mono ?_
 rintro e w2 ⟨⟨t1,g1,q1,d1,s1,s2,s3,rfl,hT1,hO1⟩,hb2⟩
 obtain ⟨e1,k1,rfl⟩:=G.Sl.shape hO1.l.g
 obtain ⟨e2,k2,hs2⟩:=Pr.Sl.shape hO1.l.p.o
 obtain ⟨e3,k3,hs3⟩:=Pc.Sl.shape hO1.c.o
 rw [List.length_map] at hs2 hs3
 subst hs2 hs3
 have HT1:=hidP hT1
 obtain ⟨W2,hW2⟩:∃ W2,W2=w2.alloc (.cells #[.int .i64 t1,.slice e1 g1.length k1,.slice e2 q1.length k2] 26):=⟨_,rfl⟩
 obtain ⟨b5,hb5⟩:∃ b5,b5=w2.heap.size:=⟨_,rfl⟩
 have B2:Below w2.heap.size w2 W2:=by rw [hW2]; exact bl_alloc bR _
 have N2:Boz W2 b5 #[.int .i64 t1,.slice e1 g1.length k1,.slice e2 q1.length k2]:=by rw [hW2,hb5]; exact Boz.new _ _ _
 have S2:Hid (∀ y,Below W2.heap.size W2 y→_∧TkO y W1.heap.size g1 q1 d1 (.slice e1 g1.length k1) (.slice e2 q1.length k2) (.slice e3 d1.length k3)∧Boz y b5 #[.int .i64 t1,.slice e1 g1.length k1,.slice e2 q1.length k2]):=fun y hy=>⟨S1.out y (bl_trans (bl_trans hb2 B2) hy),(hO1.keep B2).keep hy,N2.keep hy⟩
 have HW2:Hid (W2=_∧b5=w2.heap.size):=⟨hW2,hb5⟩
 clear hT1 hO1 B2 N2 hW2 hb5 m1 m3 HW1
 have hcs:=S1.out w2 hb2
 have la:=hcs.2.1.1.l
 have ka:=hcs.2.1.1.c
 have lb:=hcs.2.1.2.l
 have kb:=hcs.2.1.2.c
 clear hcs
 clear hb2
 go_wp2_with fail
 rw [← HW2.out.1,← HW2.out.2]
 refine (specTakeL_z t gs ps a1 a2 c1 c2 p 0 none 0 0 W2 (S2.out W2 bR).1.1 HF.out HP.out).mono ?_
 rintro e w3 ⟨⟨t2,g2,q2,d2,s1,s2,s3,rfl,hT2,hO2⟩,hb3⟩
 obtain ⟨rfl,rfl,hlq,hld⟩:=takeL_one rfl HT1.out hT2
 obtain ⟨f1,m1,rfl⟩:=G.Sl.shape hO2.l.g
 obtain ⟨f2,m2,hs2⟩:=Pr.Sl.shape hO2.l.p.o
 obtain ⟨f3,m3,hs3⟩:=Pc.Sl.shape hO2.c.o
 rw [List.length_map] at hs2 hs3
 rw [← hlq.len] at hs2
 rw [← hld.len] at hs3
 subst hs2 hs3
 have HQ:Hid (P.Like q2 q1∧Pc.Like d2 d1):=⟨hlq.symm,Eq.symm hld⟩
 obtain ⟨W3,hW3⟩:∃ W3,W3=w3.alloc (.cells #[.int .i64 t1,.slice f1 g1.length m1,.slice f2 q1.length m2] 26):=⟨_,rfl⟩
 obtain ⟨b7,hb7⟩:∃ b7,b7=w3.heap.size:=⟨_,rfl⟩
 have B3:Below w3.heap.size w3 W3:=by rw [hW3]; exact bl_alloc bR _
 have N3:Boz W3 b7 #[.int .i64 t1,.slice f1 g1.length m1,.slice f2 q1.length m2]:=by rw [hW3,hb7]; exact Boz.new _ _ _
 have S3:Hid (∀ y,Below W3.heap.size W3 y→_∧TkO y W2.heap.size g1 q2 d2 (.slice f1 g1.length m1) (.slice f2 q1.length m2) (.slice f3 d1.length m3)∧Boz y b7 #[.int .i64 t1,.slice f1 g1.length m1,.slice f2 q1.length m2]):=fun y hy=>⟨S2.out y (bl_trans (bl_trans hb3 B3) hy),(hO2.keep B3).keep hy,N3.keep hy⟩
 have HW3:Hid (W3=_∧b7=w3.heap.size):=⟨hW3,hb7⟩
 clear hT2 hlq hld hO2 B3 N3 hW3 hb7 HW2 la ka lb kb
 have hcs:=S2.out w3 hb3
 have lc:=hcs.2.2.l
 have kc:=hcs.2.2.c
 clear hcs
 clear hb3
 go_wp2_with fail
 rw [← HW3.out.1,← HW3.out.2]
 refine (wLand_same t1 g1 q1 q2 e1 e2 f1 f2 k1 k2 m1 m2 W1.heap.size W2.heap.size W3 (S3.out W3 bR).1.2.1.l (S3.out W3 bR).2.1.l HQ.out.1 (takeL_fit HT1.out).gl (takeL_fit HT1.out).pl (takeL_fit HT1.out).ln).mono ?_
 rintro e w4 ⟨rfl,hb4⟩
 have S4:Hid (∀ y,Below w4.heap.size w4 y→_):=fun y hy=>S3.out y (bl_trans hb4 hy)
 clear lc kc
 clear hb4 HW3
 go_wp2_with fail
 refine (wParcels_same d1 d2 e3 f3 k3 m3 W1.heap.size W2.heap.size w4 (S4.out w4 bR).1.2.1.c (S4.out w4 bR).2.1.c HQ.out.2 (takeL_few HT1.out).1 (takeL_few HT1.out).2).mono ?_
 rintro e w5 ⟨rfl,hb5⟩
 have S5:Hid (∀ y,Below w5.heap.size w5 y→_):=fun y hy=>S4.out y (bl_trans hb5 hy)
 have hcs:=S4.out w5 hb5
 have lb:=hcs.1.1.2.1.2.l
 have kb:=hcs.1.1.2.1.2.c
 have lc:=hcs.1.2.2.l
 have kc:=hcs.1.2.2.c
 clear hcs
 clear hb5
 go_wp2_with fail
 refine (implLandTake_z hK1 hS1 hK2 hS2 t1 g1 q1 e1 e2 k1 k2 p 0 none 0 0 w5 (S5.out w5 bR).1.2.1.l.z (takeL_fit HT1.out) HP.out (H6.out w5 (S5.out w5 bR).1.1.2.2).1).mono ?_
 rintro e w6 ⟨⟨t3,g3,q3,d3,s1,s2,s3,rfl,hT3,hO3⟩,hb6⟩
 obtain ⟨j1,n1,rfl⟩:=G.Sl.shape hO3.l.g
 obtain ⟨j2,n2,hs2⟩:=Pr.Sl.shape hO3.l.p.o
 obtain ⟨j3,n3,hs3⟩:=Pc.Sl.shape hO3.c.o
 rw [List.length_map] at hs2 hs3
 subst hs2 hs3
 have HT3:=hidP hT3
 obtain ⟨W6,hW6⟩:∃ W6,W6=w6.alloc (.cells #[.int .i64 t3,.slice j1 g3.length n1,.slice j2 q3.length n2] 26):=⟨_,rfl⟩
 obtain ⟨b9,hb9⟩:∃ b9,b9=w6.heap.size:=⟨_,rfl⟩
 have B6:Below w6.heap.size w6 W6:=by rw [hW6]; exact bl_alloc bR _
 have N6:Boz W6 b9 #[.int .i64 t3,.slice j1 g3.length n1,.slice j2 q3.length n2]:=by rw [hW6,hb9]; exact Boz.new _ _ _
 have S6:Hid (∀ y,Below W6.heap.size W6 y→_∧TkO y w5.heap.size g3 q3 d3 (.slice j1 g3.length n1) (.slice j2 q3.length n2) (.slice j3 d3.length n3)∧Boz y b9 #[.int .i64 t3,.slice j1 g3.length n1,.slice j2 q3.length n2]):=fun y hy=>⟨S5.out y (bl_trans (bl_trans hb6 B6) hy),(hO3.keep B6).keep hy,N6.keep hy⟩
 have HW6:Hid (W6=_∧b9=w6.heap.size):=⟨hW6,hb9⟩
 clear hT3 hO3 B6 N6 hW6 hb9 lb kb lc kc
 have hcs:=S5.out w6 hb6
 have la:=hcs.1.1.2.1.1.l
 have ka:=hcs.1.1.2.1.1.c
 clear hcs
 clear hb6
 go_wp2_with fail
 rw [← HW6.out.1,← HW6.out.2]
 refine (implTick_z hK1 hS1 hK2 hS2 t gs ps a1 a2 c1 c2 W6 (S6.out W6 bR).1.1.1.1 HF.out v0 v1 (H6.out W6 (S6.out W6 bR).1.1.1.2.2).2.1).mono ?_
 rintro e w7 ⟨⟨t4,g4,q4,d4,s1,s2,s3,rfl,hT4,hO4⟩,hb7⟩
 obtain ⟨j4,n4,rfl⟩:=G.Sl.shape hO4.l.g
 obtain ⟨j5,n5,hs2⟩:=Pr.Sl.shape hO4.l.p.o
 obtain ⟨j6,n6,hs3⟩:=Pc.Sl.shape hO4.c.o
 rw [List.length_map] at hs2 hs3
 subst hs2 hs3
 have HT4:=hidP hT4
 obtain ⟨W7,hW7⟩:∃ W7,W7=w7.alloc (.cells #[.int .i64 t4,.slice j4 g4.length n4,.slice j5 q4.length n5] 26):=⟨_,rfl⟩
 obtain ⟨b11,hb11⟩:∃ b11,b11=w7.heap.size:=⟨_,rfl⟩
 have B7:Below w7.heap.size w7 W7:=by rw [hW7]; exact bl_alloc bR _
 have N7:Boz W7 b11 #[.int .i64 t4,.slice j4 g4.length n4,.slice j5 q4.length n5]:=by rw [hW7,hb11]; exact Boz.new _ _ _
 have S7:Hid (∀ y,Below W7.heap.size W7 y→_∧TkO y W6.heap.size g4 q4 d4 (.slice j4 g4.length n4) (.slice j5 q4.length n5) (.slice j6 d4.length n6)∧Boz y b11 #[.int .i64 t4,.slice j4 g4.length n4,.slice j5 q4.length n5]):=fun y hy=>⟨S6.out y (bl_trans (bl_trans hb7 B7) hy),(hO4.keep B7).keep hy,N7.keep hy⟩
 have HW7:Hid (W7=_∧b11=w7.heap.size):=⟨hW7,hb11⟩
 clear hT4 hO4 B7 N7 hW7 hb11 HW6 la ka
 have hcs:=S6.out w7 hb7
 have la:=hcs.1.1.1.2.1.1.l
 have ka:=hcs.1.1.1.2.1.1.c
 clear hcs
 clear hb7
 go_wp2_with fail
 rw [← HW7.out.1,← HW7.out.2]
 refine (specTick_z t gs ps a1 a2 c1 c2 W7 (S7.out W7 bR).1.1.1.1.1 HF.out).mono ?_
 rintro e w8 ⟨⟨t5,g5,q5,d5,s1,s2,s3,rfl,hT5,hO5⟩,hb8⟩
 obtain ⟨rfl,rfl,hlq,hld⟩:=tick_one rfl HT4.out hT5
 obtain ⟨u4,x4,rfl⟩:=G.Sl.shape hO5.l.g
 obtain ⟨u5,x5,hs2⟩:=Pr.Sl.shape hO5.l.p.o
 obtain ⟨u6,x6,hs3⟩:=Pc.Sl.shape hO5.c.o
 rw [List.length_map] at hs2 hs3
 rw [← hlq.len] at hs2
 rw [← hld.len] at hs3
 subst hs2 hs3
 have HQ4:Hid (P.Like q5 q4∧Pc.Like d5 d4):=⟨hlq.symm,Eq.symm hld⟩
 obtain ⟨W8,hW8⟩:∃ W8,W8=w8.alloc (.cells #[.int .i64 t4,.slice u4 g4.length x4,.slice u5 q4.length x5] 26):=⟨_,rfl⟩
 obtain ⟨b13,hb13⟩:∃ b13,b13=w8.heap.size:=⟨_,rfl⟩
 have B8:Below w8.heap.size w8 W8:=by rw [hW8]; exact bl_alloc bR _
 have N8:Boz W8 b13 #[.int .i64 t4,.slice u4 g4.length x4,.slice u5 q4.length x5]:=by rw [hW8,hb13]; exact Boz.new _ _ _
 have S8:Hid (∀ y,Below W8.heap.size W8 y→_∧TkO y W7.heap.size g4 q5 d5 (.slice u4 g4.length x4) (.slice u5 q4.length x5) (.slice u6 d4.length x6)∧Boz y b13 #[.int .i64 t4,.slice u4 g4.length x4,.slice u5 q4.length x5]):=fun y hy=>⟨S7.out y (bl_trans (bl_trans hb8 B8) hy),(hO5.keep B8).keep hy,N8.keep hy⟩
 have HW8:Hid (W8=_∧b13=w8.heap.size):=⟨hW8,hb13⟩
 clear hT5 hlq hld hO5 B8 N8 hW8 hb13 HW7 la ka
 have hcs:=S7.out w8 hb8
 have ld:=hcs.2.2.l
 have kd:=hcs.2.2.c
 clear hcs
 clear hb8
 go_wp2_with fail
 rw [← HW8.out.1,← HW8.out.2]
 refine (wLand_same t4 g4 q4 q5 j4 j5 u4 u5 n4 n5 x4 x5 W6.heap.size W7.heap.size W8 (S8.out W8 bR).1.2.1.l (S8.out W8 bR).2.1.l HQ4.out.1 (tick_fit HT4.out).gl (tick_fit HT4.out).pl (tick_fit HT4.out).ln).mono ?_
 rintro e w9 ⟨rfl,hb9⟩
 have S9:Hid (∀ y,Below w9.heap.size w9 y→_):=fun y hy=>S8.out y (bl_trans hb9 hy)
 clear ld kd
 clear hb9 HW8
 go_wp2_with fail
 refine (wParcels_same d4 d5 j6 u6 n6 x6 W6.heap.size W7.heap.size w9 (S9.out w9 bR).1.2.1.c (S9.out w9 bR).2.1.c HQ4.out.2 (tick_few HT4.out).1 (tick_few HT4.out).2).mono ?_
 rintro e w10 ⟨rfl,hb10⟩
 have S10:Hid (∀ y,Below w10.heap.size w10 y→_):=fun y hy=>S9.out y (bl_trans hb10 hy)
 have hcs:=S9.out w10 hb10
 have la:=hcs.1.1.1.1.1.2.1.1.l
 have ka:=hcs.1.1.1.1.1.2.1.1.c
 clear hcs
 clear hb10
 go_wp2_with fail
 refine (P.specLandOk_z t gs ps a1 a2 c1 c2 w10 (S10.out w10 bR).1.1.1.1.1.1 HF.out).mono ?_
 rintro e w11 ⟨⟨ok,rfl,hok⟩,hb11⟩
 have S11:Hid (∀ y,Below w11.heap.size w11 y→_):=fun y hy=>S10.out y (bl_trans hb11 hy)
 have HOK:=hidP hok
 clear hok la ka
 have hcs:=S10.out w11 hb11
 have la:=hcs.1.1.1.1.1.2.1.1.l
 have ka:=hcs.1.1.1.1.1.2.1.1.c
 have lc:=hcs.1.1.1.1.2.2.l
 have kc:=hcs.1.1.1.1.2.2.c
 have lf:=hcs.1.1.2.2.l
 have kf:=hcs.1.1.2.2.c
 clear hcs
 clear hb11
 cases ok
 ·
  have hno:¬ P.LandSay t gs ps:=fun h=>by have:=HOK.out.2 h; cases this
  have hd0:d1.length=0:=by rw [takeL_none hno HT1.out]; rfl
  clear kc lc kf lf
  go_wp2_with fail
  refine (P.implLandOk_z t gs ps a1 a2 c1 c2 w11 (S11.out w11 bR).1.1.1.1.1.1 HF.out).mono ?_
  rintro e w12 ⟨⟨ok,rfl,hok⟩,hb12⟩
  obtain rfl:ok=false:=by
   cases ok
   · rfl
   exact absurd (hok.1 rfl) hno
  have hbe:=bl_trans (S11.out w11 bR).1.1.1.1.1.2.2 hb12
  go_wp2_with fail
  go_ret
  exact ⟨rfl,hbe⟩
 ·
  have HY:=hidP (HOK.out.1 rfl)
  obtain ⟨et,eg,hlq,hld⟩:=takeL_again HY.out HT1.out rfl HT3.out
  subst et eg
  have hq3:=hlq.len
  have hd3:=hld.len
  clear la ka
  go_wp2_with fail
  have H:=wLand_same t3 g3 q3 q1 j1 j2 e1 e2 n1 n2 k1 k2 w5.heap.size W1.heap.size w11 (S11.out w11 bR).1.1.2.1.l (by rw [hq3]; exact (S11.out w11 bR).1.1.1.1.2.1.l) hlq.symm (takeL_fit HT3.out).gl (takeL_fit HT3.out).pl (takeL_fit HT3.out).ln
  rw [hq3] at H
  refine H.mono ?_
  rintro e w12 ⟨rfl,hb12⟩
  have S12:Hid (∀ y,Below w12.heap.size w12 y→_):=fun y hy=>S11.out y (bl_trans hb12 hy)
  clear H hb12 lc kc lf kf
  go_wp2_with fail
  have H:=wParcels_same d3 d1 j3 e3 n3 k3 w5.heap.size W1.heap.size w12 (S12.out w12 bR).1.1.2.1.c (by rw [hd3]; exact (S12.out w12 bR).1.1.1.1.2.1.c) (Eq.symm hld) (takeL_few HT3.out).1 (takeL_few HT3.out).2
  rw [hd3] at H
  refine H.mono ?_
  rintro e w13 ⟨rfl,hb13⟩
  have S13:Hid (∀ y,Below w13.heap.size w13 y→_):=fun y hy=>S12.out y (bl_trans hb13 hy)
  have kc:=(S12.out w13 hb13).1.1.1.1.2.2.c
  clear H hb13 hlq hld
  go_wp2_with fail
  refine (P.implLandOk_z t3 g3 q1 e1 e2 k1 k2 w13 (S13.out w13 bR).1.1.1.1.2.1.l.z (takeL_fit HT1.out)).mono ?_
  rintro e w14 ⟨⟨ok,rfl,hok⟩,hb14⟩
  obtain rfl:ok=true:=hok.2 (takeL_ok HY.out HT1.out)
  have S14:Hid (∀ y,Below w14.heap.size w14 y→_):=fun y hy=>S13.out y (bl_trans hb14 hy)
  have kd:=(S13.out w14 hb14).1.2.2.c
  clear kc hb14 hok
  go_wp2_with fail
  refine (P.implLandOk_z t4 g4 q4 j4 j5 n4 n5 w14 (S14.out w14 bR).1.2.1.l.z (tick_fit HT4.out)).mono ?_
  rintro e w15 ⟨⟨ok,rfl,hok⟩,hb15⟩
  obtain rfl:ok=true:=hok.2 (tick_ok HY.out HT4.out)
  have S15:Hid (∀ y,Below w15.heap.size w15 y→_):=fun y hy=>S14.out y (bl_trans hb15 hy)
  clear kd hb15 hok S10 S11 S12 S13 S14 S9 S8 S7 S6 S5 S4 S3 S2 S1 HOK
  go_wp2_with fail
  go_loopw [15] (fun i wx=>∃ (k:Nat),k≤gs.length∧i=.int .i64 (k:Int)∧Hid (Below w15.heap.size w15 wx)) (fun i _=>gs.length - (intOf i).toNat)
  case atStart=>exact ⟨0,by omega,rfl,Below.refl _ _⟩
  obtain ⟨k,hk,rfl,HX⟩:=hrel
  have la:=(S15.out wr HX.out).1.1.1.1.1.2.1.1.l
  have ka:=(S15.out wr HX.out).1.1.1.1.1.2.1.1.c
  have hgl:=HF.out.gl
  have hxl:=(takeL_fit HT1.out).gl
  by_cases hlt:k < gs.length
  ·
   have hki:(k:Int) < (gs.length:Int):=by omega
   obtain ⟨r,hr⟩:∃ r,gs[k]?=some r:=⟨gs[k],List.getElem?_eq_getElem hlt⟩
   obtain ⟨bg,rfl,hrow⟩:∃ b,a1=some ⟨b,0,none⟩∧G.RowsAt wr b 0 gs:=by
    rcases (S15.out wr HX.out).1.1.1.1.1.1.g with ⟨-,-,h⟩ | ⟨b,h1,-,h3⟩
    · rw [h] at hlt; simp at hlt
    exact ⟨b,h1,h3⟩
   obtain ⟨p0,p1,p2,p3,p4⟩:=hrow.at hr
   simp only [Nat.zero_add] at p0 p1 p2 p3 p4
   have HR:=hidP (List.mem_of_getElem? hr)
   obtain ⟨Y,hY⟩:∃ Y,Y=wr.alloc (.cells #[.string r.h,.string r.b,.string r.c,.int .i64 r.t,.int .i64 r.u] 40):=⟨_,rfl⟩
   obtain ⟨b6,hb6⟩:∃ b,b=wr.heap.size:=⟨_,rfl⟩
   have BY:Hid (Below wr.heap.size wr Y):=by rw [hY]; exact bl_alloc bR _
   have NY:Hid (Boz Y b6 #[.string r.h,.string r.b,.string r.c,.int .i64 r.t,.int .i64 r.u]):=by rw [hY,hb6]; exact Boz.new _ _ _
   have HYY:Hid (Y=_∧b6=wr.heap.size):=⟨hY,hb6⟩
   clear hr hrow hY hb6
   go_wp2_with fail
   rw [← HYY.out.1,← HYY.out.2]
   clear ka la p0 p1 p2 p3 p4
   go_loopw [17] (fun i wx=>∃ (j:Nat),j≤g3.length∧i=.int .i64 (j:Int)∧Hid (Below Y.heap.size Y wx)) (fun i _=>g3.length - (intOf i).toNat)
   case atStart=>exact ⟨0,by omega,rfl,Below.refl _ _⟩
   obtain ⟨j,hj,rfl,HZ⟩:=hrel
   have hbz:=bl_trans HX.out (bl_trans BY.out HZ.out)
   have la:=(S15.out wr hbz).1.1.1.1.1.2.1.1.l
   have ka:=(S15.out wr hbz).1.1.1.1.1.2.1.1.c
   have lc:=(S15.out wr hbz).1.1.1.1.2.2.l
   have kc:=(S15.out wr hbz).1.1.1.1.2.2.c
   have ly:=(NY.out.keep HZ.out).l
   have ky:=(NY.out.keep HZ.out).c
   by_cases hlj:j < g3.length
   ·
    have hji:(j:Int) < (g3.length:Int):=by omega
    obtain ⟨x,hx⟩:∃ x,g3[j]?=some x:=⟨g3[j],List.getElem?_eq_getElem hlj⟩
    obtain ⟨xg,rfl,x0,x1,x2,x3,x4⟩:=(S15.out wr hbz).1.1.1.1.2.1.l.g.atW hx
    have HSY:Hid (x.h=r.h→t < r.u→x.b=r.b∧x.c=r.c):=fun e hu=>takeL_stay HY.out HT1.out HR.out (List.mem_of_getElem? hx) e hu
    have hne:Below wr.heap.size wr (wr.alloc (.cells #[.string x.h,.string x.b,.string x.c,.int .i64 x.t,.int .i64 x.u] 40)):=bl_alloc bR _
    have HNE:=hidP (bl_trans HZ.out hne)
    clear hx hne hbz
    cases eh:(x.h.toList == r.h.toList)
    ·
     go_wp2_with fail
     exact ⟨⟨j+1,by omega,by go_num,HNE.out⟩,by simp [intOf]; omega⟩
    by_cases hu:t < r.u
    ·
     obtain ⟨eb,ec⟩:=HSY.out (eqT_iff.1 eh) hu
     go_wp2_with fail
     exact ⟨⟨j+1,by omega,by go_num,bl_trans HZ.out (bl_alloc bR _)⟩,by simp [intOf]; omega⟩
    have hu':¬ (t < r.u):=hu
    cases eb:(x.b.toList == r.b.toList) <;> cases ec:(x.c.toList == r.c.toList)
    all_goals
     go_wp2_with fail
     exact ⟨⟨j+1,by omega,by go_num,HNE.out⟩,by simp [intOf]; omega⟩
   have hji:¬ ((j:Int) < (g3.length:Int)):=by omega
   go_wp2_with fail
   exact ⟨⟨k+1,by omega,by go_num,bl_trans HX.out (bl_trans BY.out HZ.out)⟩,by simp [intOf]; omega⟩
  have hki:¬ ((k:Int) < (gs.length:Int)):=by omega
  have hbw:=(S15.out wr HX.out).1.1.1.1.1.2.2
  have HCW:=hidP (HCO.out.bel hbw)
  have HBW:=hidP hbw
  clear hbw HX S15 HCO
  go_wp2_with fail
  refine (drawPut a n cap zs wr HCW.out (by omega) hcap).mono ?_
  rintro e w20 ⟨t9,gs9,ps9,y1,y2,z1,z2,bb,aw,cw,ws,rfl,hz9,hF9,hw9,hb9,hcw,hwf,hwl,hb20⟩
  obtain ⟨W20,hW20⟩:∃ W20,W20=w20.alloc (.cells #[.int .i64 t9,.slice y1 gs9.length z1,.slice y2 ps9.length z2] 26):=⟨_,rfl⟩
  obtain ⟨b19,hb19⟩:∃ b,b=w20.heap.size:=⟨_,rfl⟩
  have B20:Below w20.heap.size w20 W20:=by rw [hW20]; exact bl_alloc bR _
  have N20:Boz W20 b19 #[.int .i64 t9,.slice y1 gs9.length z1,.slice y2 ps9.length z2]:=by rw [hW20,hb19]; exact Boz.new _ _ _
  have S20:Hid (∀ y,Below W20.heap.size W20 y→(P.LandZ y gs9 ps9 y1 y2 z1∧W.Src y aw cw ws)∧Boz y b19 #[.int .i64 t9,.slice y1 gs9.length z1,.slice y2 ps9.length z2]∧Below w.heap.size w y):=fun y hy=>⟨⟨(hz9.keep B20).keep hy,(hw9.keep B20).keep hy⟩,N20.keep hy,bl_trans (bl_trans (bl_trans HBW.out hb20) B20) hy⟩
  have HF9:Hid (P.Fit gs9 ps9∧ByteArray.size bb≤maxLen∧ws.length≤cw∧(∀ r∈ws,r.fits)∧ws.length≤1048576):=⟨hF9,hb9,hcw,hwf,hwl⟩
  have HW20:Hid (W20=_∧b19=w20.heap.size):=⟨hW20,hb19⟩
  clear hz9 hF9 hw9 hb9 hcw hwf hwl hb20 hW20 hb19 B20 N20 HBW HCW ka la
  go_wp2_with fail
  rw [← HW20.out.1,← HW20.out.2]
  refine (implPut_z hK1 hS1 hK2 hS2 t9 gs9 ps9 y1 y2 z1 z2 bb aw cw ws W20 (S20.out W20 bR).1.1 HF9.out.1 (S20.out W20 bR).1.2 HF9.out.2.1 HF9.out.2.2.1 HF9.out.2.2.2.1 HF9.out.2.2.2.2 r0 r1 r2 (H6.out W20 (S20.out W20 bR).2.2).2.2).mono ?_
  rintro e w21 ⟨⟨t6,g6,q6,s1,s2,cd,rfl,hT6,hO6⟩,hb21⟩
  obtain ⟨j7,n7,rfl⟩:=G.Sl.shape hO6.g
  obtain ⟨j8,n8,hs2⟩:=Pr.Sl.shape hO6.p.o
  rw [List.length_map] at hs2
  subst hs2
  have HT6:=hidP hT6
  obtain ⟨W21,hW21⟩:∃ W21,W21=w21.alloc (.cells #[.int .i64 t6,.slice j7 g6.length n7,.slice j8 q6.length n8] 26):=⟨_,rfl⟩
  obtain ⟨b22,hb22⟩:∃ b,b=w21.heap.size:=⟨_,rfl⟩
  have B21:Below w21.heap.size w21 W21:=by rw [hW21]; exact bl_alloc bR _
  have N21:Boz W21 b22 #[.int .i64 t6,.slice j7 g6.length n7,.slice j8 q6.length n8]:=by rw [hW21,hb22]; exact Boz.new _ _ _
  have S21:Hid (∀ y,Below W21.heap.size W21 y→_∧LdO y W20.heap.size g6 q6 (.slice j7 g6.length n7) (.slice j8 q6.length n8)∧Boz y b22 #[.int .i64 t6,.slice j7 g6.length n7,.slice j8 q6.length n8]):=fun y hy=>⟨S20.out y (bl_trans (bl_trans hb21 B21) hy),(hO6.keep B21).keep hy,N21.keep hy⟩
  have HW21:Hid (W21=_∧b22=w21.heap.size):=⟨hW21,hb22⟩
  have la:=(S20.out w21 hb21).2.1.l
  have ka:=(S20.out w21 hb21).2.1.c
  clear hT6 hO6 hb21 hW21 hb22 B21 N21 HW20
  go_wp2_with fail
  rw [← HW21.out.1,← HW21.out.2]
  refine (specPut_z t9 gs9 ps9 y1 y2 z1 z2 bb aw cw ws W21 (S21.out W21 bR).1.1.1 HF9.out.1 (S21.out W21 bR).1.1.2 HF9.out.2.1 HF9.out.2.2.2.1 HF9.out.2.2.2.2).mono ?_
  rintro e w22 ⟨⟨t7,g7,q7,s1,s2,cd7,rfl,hT7,hO7,-⟩,hb22'⟩
  obtain ⟨rfl,rfl,hlq,rfl⟩:=put_one rfl HT6.out hT7
  obtain ⟨u7,x7,rfl⟩:=G.Sl.shape hO7.g
  obtain ⟨u8,x8,hs2⟩:=Pr.Sl.shape hO7.p.o
  rw [List.length_map,← hlq.len] at hs2
  subst hs2
  have HQ6:=hidP hlq.symm
  obtain ⟨W22,hW22⟩:∃ W22,W22=w22.alloc (.cells #[.int .i64 t6,.slice u7 g6.length x7,.slice u8 q6.length x8] 26):=⟨_,rfl⟩
  obtain ⟨b24,hb24⟩:∃ b,b=w22.heap.size:=⟨_,rfl⟩
  have B22:Below w22.heap.size w22 W22:=by rw [hW22]; exact bl_alloc bR _
  have S22:Hid (∀ y,Below W22.heap.size W22 y→_∧LdO y W21.heap.size g6 q7 (.slice u7 g6.length x7) (.slice u8 q6.length x8)):=fun y hy=>⟨S21.out y (bl_trans (bl_trans hb22' B22) hy),(hO7.keep B22).keep hy⟩
  have HW22:Hid (W22=_∧b24=w22.heap.size):=⟨hW22,hb24⟩
  have lc:=(S21.out w22 hb22').2.2.l
  have kc:=(S21.out w22 hb22').2.2.c
  clear hT7 hO7 hb22' hW22 hb24 B22 HW21 la ka hlq
  go_wp2_with fail
  rw [← HW22.out.1,← HW22.out.2]
  refine (wLand_same t6 g6 q6 q7 j7 j8 u7 u8 n7 n8 x7 x8 W20.heap.size W21.heap.size W22 (S22.out W22 bR).1.2.1 (S22.out W22 bR).2 HQ6.out (putS_fit HT6.out).gl (putS_fit HT6.out).pl (putS_fit HT6.out).ln).mono ?_
  rintro e w23 ⟨rfl,hb23⟩
  have S23:Hid (∀ y,Below w23.heap.size w23 y→_):=fun y hy=>S22.out y (bl_trans hb23 hy)
  clear lc kc
  have kc:=(S22.out w23 hb23).1.2.2.c
  clear hb23
  by_cases hcd:cd=1
  ·
   subst hcd
   go_wp2_with fail
   go_ret
   exact ⟨rfl,(S23.out w23 bR).1.1.2.2⟩
  have hcd':¬ (cd=1):=hcd
  go_wp2_with fail
  refine (P.implLandOk_z t6 g6 q6 j7 j8 n7 n8 w23 (S23.out w23 bR).1.2.1.z (putS_fit HT6.out)).mono ?_
  rintro e w24 ⟨⟨ok,rfl,hok⟩,hb24⟩
  obtain rfl:ok=true:=hok.2 ((put_ok HT6.out).resolve_left hcd)
  have hbe:=bl_trans (S23.out w23 bR).1.1.2.2 hb24
  go_wp2_with fail
  go_ret
  exact ⟨rfl,hbe⟩
end Go.Proofs.YtcjhlhijdacinaaGreatDoor
namespace Go.Proofs.YtcjhlhijdacinaaGreatDoor
open Go.ChangeShapes Go.WideShapes Go.ChangeAt Go.RowKit Go.ChangeMaps
set_option linter.unusedVariables false
theorem starp : "*" ++ "errors.errorString" = "*errors.errorString" := by decide
theorem rowEp (u : TypeId) (h : Tryz.prog.typeName? 3 u = some "*errors.errorString") : u = 173 :=
 typeName_ptr_named (nm := "errors.errorString") (by rw [starp]; kernel_rfl) (by kernel_rfl) (by decide) u (by rw [starp]; exact h)
theorem er3_of {W:World} (h:laidMetH Tryz.prog Rows.fnLandRow.laid W):∃ a0 a1 a2,Er3 W a0 a1 a2:=by
 rw [MakeChecks.laidMetH_plain _ _ _ (by kernel_rfl)] at h
 have h':=laidMet.tail h
 obtain ⟨a0,a1,s0,s1,c0,c1,t0,t1,v0,v1,k0,e0,-,k1,e1,-,n01,b0,b1⟩:=laid_sentinels2 h (g0:=0) (g1:=4) (by kernel_rfl) (by kernel_rfl) (by kernel_rfl) (by kernel_rfl) Tryz.underlying59 rowEp Tryz.underlying173 Tryz.underlying198 rfl rfl Tryz.underlying9 (by kernel_rfl) (by kernel_rfl)
 obtain ⟨a1',a2,s1',s2,c1',c2,t1',t2,v1',v2,k1',e1',-,k2,e2,-,n12,b1',b2⟩:=laid_sentinels2 h' (g0:=4) (g1:=5) (by kernel_rfl) (by kernel_rfl) (by kernel_rfl) (by kernel_rfl) Tryz.underlying59 rowEp Tryz.underlying173 Tryz.underlying198 rfl rfl Tryz.underlying9 (by kernel_rfl) (by kernel_rfl)
 have ea:a1'=a1:=by
  rw [v1] at v1'
  injection v1' with v1'
  injection v1' with v1'
  injection v1' with v1' _
  injection v1' with _ v1'
  injection v1' with v1'
  exact (Option.some.inj v1').symm
 subst ea
 have w0 := World.var?_cell (show Tryz.prog.globalNamed "loop.example/wharfmate/impl.errNotOk" = some 0 by kernel_rfl) v0 0
 have w1 := World.var?_cell (show Tryz.prog.globalNamed "loop.example/wharfmate/impl.errNoPlace" = some 4 by kernel_rfl) v1 0
 have w2 := World.var?_cell (show Tryz.prog.globalNamed "loop.example/wharfmate/impl.errTooMuch" = some 5 by kernel_rfl) v2 0
 have n02:a0≠a2:=by
  intro e
  rw [e,k2] at k0
  have e3:s2=s0:=by injection k0 with k0; injection k0
  rw [← e3,e2] at e0
  exact absurd e0 (by decide)
 exact ⟨a0,a1',a2,w0,World.block_lt_of_cell? W _ w0,⟨c0,t0,b0⟩,w1,World.block_lt_of_cell? W _ w1,⟨c1,t1,b1⟩,w2,World.block_lt_of_cell? W _ w2,⟨c2,t2,b2⟩,n01,n02,n12⟩
theorem er9_of {W:World} (h:laidMetH Tryz.prog Rows.fnLandRow.laid W):Er6 W∧∃ v0 v1,Errs W v0 v1:=by
 rw [MakeChecks.laidMetH_plain _ _ _ (by kernel_rfl)] at h
 have h0:=h
 have h1:=laidMet.tail h0
 have h2:=laidMet.tail h1
 have h3:=laidMet.tail h2
 have h4:=laidMet.tail h3
 have h5:=laidMet.tail h4
 have h6:=laidMet.tail h5
 have h7:=laidMet.tail h6
 have h8:=laidMet.tail h7
 obtain ⟨a0,s0,v0,-,-,-⟩:=laid_sentinel h0 (g:=0) (by kernel_rfl) (by kernel_rfl) Tryz.underlying59 rowEp Tryz.underlying173 Tryz.underlying198 rfl rfl Tryz.underlying9 (by kernel_rfl) (by kernel_rfl)
 have w0 := World.var?_cell (show Tryz.prog.globalNamed "loop.example/wharfmate/impl.errNotOk" = some 0 by kernel_rfl) v0 0
 obtain ⟨a3,s3,v3,-,-,-⟩:=laid_sentinel h3 (g:=3) (by kernel_rfl) (by kernel_rfl) Tryz.underlying59 rowEp Tryz.underlying173 Tryz.underlying198 rfl rfl Tryz.underlying9 (by kernel_rfl) (by kernel_rfl)
 have w3 := World.var?_cell (show Tryz.prog.globalNamed "loop.example/wharfmate/impl.errTimeOver" = some 3 by kernel_rfl) v3 0
 obtain ⟨a4,s4,v4,-,-,-⟩:=laid_sentinel h4 (g:=1) (by kernel_rfl) (by kernel_rfl) Tryz.underlying59 rowEp Tryz.underlying173 Tryz.underlying198 rfl rfl Tryz.underlying9 (by kernel_rfl) (by kernel_rfl)
 have w4 := World.var?_cell (show Tryz.prog.globalNamed "loop.example/wharfmate/impl.errNoParcel" = some 1 by kernel_rfl) v4 0
 obtain ⟨a5,s5,v5,-,-,-⟩:=laid_sentinel h5 (g:=2) (by kernel_rfl) (by kernel_rfl) Tryz.underlying59 rowEp Tryz.underlying173 Tryz.underlying198 rfl rfl Tryz.underlying9 (by kernel_rfl) (by kernel_rfl)
 have w5 := World.var?_cell (show Tryz.prog.globalNamed "loop.example/wharfmate/impl.errNotToLand" = some 2 by kernel_rfl) v5 0
 obtain ⟨a6,s6,v6,-,-,-⟩:=laid_sentinel h6 (g:=6) (by kernel_rfl) (by kernel_rfl) Tryz.underlying59 rowEp Tryz.underlying173 Tryz.underlying198 rfl rfl Tryz.underlying9 (by kernel_rfl) (by kernel_rfl)
 have w6 := World.var?_cell (show Tryz.prog.globalNamed "loop.example/wharfmate/impl.errNotWanted" = some 6 by kernel_rfl) v6 0
 obtain ⟨a7,s7,v7,-,-,-⟩:=laid_sentinel h7 (g:=7) (by kernel_rfl) (by kernel_rfl) Tryz.underlying59 rowEp Tryz.underlying173 Tryz.underlying198 rfl rfl Tryz.underlying9 (by kernel_rfl) (by kernel_rfl)
 have w7 := World.var?_cell (show Tryz.prog.globalNamed "loop.example/wharfmate/impl.errTaken" = some 7 by kernel_rfl) v7 0
 obtain ⟨a8,s8,v8,-,-,-⟩:=laid_sentinel h8 (g:=8) (by kernel_rfl) (by kernel_rfl) Tryz.underlying59 rowEp Tryz.underlying173 Tryz.underlying198 rfl rfl Tryz.underlying9 (by kernel_rfl) (by kernel_rfl)
 have w8 := World.var?_cell (show Tryz.prog.globalNamed "loop.example/wharfmate/impl.errFull" = some 8 by kernel_rfl) v8 0
 exact ⟨⟨⟨⟨_,_,w0⟩,World.block_lt_of_cell? W _ w0⟩,⟨⟨_,_,w4⟩,World.block_lt_of_cell? W _ w4⟩,⟨⟨_,_,w5⟩,World.block_lt_of_cell? W _ w5⟩,⟨⟨_,_,w6⟩,World.block_lt_of_cell? W _ w6⟩,⟨⟨_,_,w7⟩,World.block_lt_of_cell? W _ w7⟩,⟨⟨_,_,w8⟩,World.block_lt_of_cell? W _ w8⟩⟩,_,_,w0,w3,World.block_lt_of_cell? W _ w0,World.block_lt_of_cell? W _ w3,⟨_,_,rfl⟩,⟨_,_,rfl⟩⟩
end Go.Proofs.YtcjhlhijdacinaaGreatDoor
namespace Go.Proofs.YtcjhlhijdacinaaGreatDoor.G
open Go.RowKit Go.Maps Go.WideMaps
theorem keysSay:KeysSay:=fun mb Wo=>callsIn_wide.1 (Go.Proofs.Tryz.maps_Keys_87 mb Wo)
theorem sortedSay:SortedSay:=fun b nn rs w h hl=>(callsIn_wide.1 (Go.Proofs.Tryz.slices_Sorted_keys_79_87 b nn (dec rs) RV w h (by rw [show size (dec rs)=rs.length from Ord.dec_size keyV rs]; unfold maxLen; omega) (by rw [show size (dec rs)=rs.length from Ord.dec_size keyV rs]; omega))).mono (by
 rintro e w' ⟨v,ss,h1,h2,h3,-,h4⟩
 exact ⟨v,ss,h1,h2,h3,h4⟩)
end Go.Proofs.YtcjhlhijdacinaaGreatDoor.G
namespace Go.Proofs.YtcjhlhijdacinaaGreatDoor.Pr
open Go.RowKit Go.Maps Go.WideMaps
theorem keysSay:KeysSay:=fun mb Wo=>callsIn_wide.1 (Go.Proofs.Tryz.maps_Keys_80 mb Wo)
theorem sortedSay:SortedSay:=fun b nn rs w h hl=>(callsIn_wide.1 (Go.Proofs.Tryz.slices_Sorted_keys_79_80 b nn (dec rs) RV w h (by rw [show size (dec rs)=rs.length from Ord.dec_size keyV rs]; unfold maxLen; omega) (by rw [show size (dec rs)=rs.length from Ord.dec_size keyV rs]; omega))).mono (by
 rintro e w' ⟨v,ss,h1,h2,h3,-,h4⟩
 exact ⟨v,ss,h1,h2,h3,h4⟩)
end Go.Proofs.YtcjhlhijdacinaaGreatDoor.Pr
