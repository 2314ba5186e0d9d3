import Derived.Test.YtcjhlhijdacinaaGreatDoorJ32
import Derived.Test.YtcjhlhijdacinaaGreatDoorJ11
namespace Go.Proofs.YtcjhlhijdacinaaGreatDoor
open Go.RowKit
set_option linter.unusedVariables false
theorem owx {y y':World} {v:Value} {l:List W.WantD} {B X:Nat} (h:W.Ow y v l B) (he:Ex X y y') (hX:X < B):W.Ow y' v l B:=by
 refine W.Ow.grown h (W.ex_grown he) ?_
 cases hv:v.ownBlock with
 | none=>exact Or.inl rfl
 | some g=>exact Or.inr (fun e=>by have h1:=(W.Ow.lt h g hv).1; have h2:=Option.some.inj e; omega)
structure Du (kr b2 lb:Nat) (w w1:World) (t:Int) (gs:List G.GrantD) (qs:List P.PlaceD) (s1 s2 u:Value) (ws:List W.WantD) (y:World):Prop where
 c:y.rangeAt lb 0 [.int .i64 t,s1,s2]
 l:LdB y w1.heap.size gs qs s1 s2
 b:y.there b2 0 3
 o:W.Ow y u ws (lb+1)
 e:Below w.heap.size w y
 z:w.heap.size≤b2∧b2 < kr∧kr < w1.heap.size∧w1.heap.size≤lb∧lb < y.heap.size
section
variable {kr b2 lb:Nat} {w w1:World} {t:Int} {gs:List G.GrantD} {qs:List P.PlaceD} {s1 s2 u:Value} {ws:List W.WantD} {y y':World}
theorem Du.ex (h:Du kr b2 lb w w1 t gs qs s1 s2 u ws y) (he:Ex kr y y'):Du kr b2 lb w w1 t gs qs s1 s2 u ws y':=by
 obtain ⟨z1,z2,z3,z4,z5⟩:=h.z
 have ho:=off_of_ex he
 exact ⟨range_off h.c ho z5 (by omega),h.l.ex he z3,there_off h.b ho (by omega) (by omega),owx h.o he (by omega),bl_ex9 h.e he (by omega),⟨z1,z2,z3,z4,Nat.lt_of_lt_of_le z5 he.size⟩⟩
theorem Du.ans {vs:List Value} (h:Du kr b2 lb w w1 t gs qs s1 s2 u ws y):Du kr b2 lb w w1 t gs qs s1 s2 u ws (y.setCells b2 0 vs):=by
 obtain ⟨z1,z2,z3,z4,z5⟩:=h.z
 have he:Ex b2 y (y.setCells b2 0 vs):=(Ex.refl _ _).cells _ _
 have ho:=off_of_ex he
 exact ⟨range_off h.c ho z5 (by omega),h.l.ex he (by omega),World.there_setCells h.b _ _ _,owx h.o he (by omega),bl_cells9 h.e z1,⟨z1,z2,z3,z4,Nat.lt_of_lt_of_le z5 he.size⟩⟩
end
def F6u (kr b2 i:Nat) (y y':World):Prop:=if i=7 then Ex b2 y y' else Ex kr y y'
theorem F6u.fa {kr b2 Z i:Nat} {y y':World} (h:F6u kr b2 i y y') (hk:kr < Z) (hb:b2 < Z):Fa Z y y':=by
 unfold F6u at h
 split at h
 · exact Fa.ex h hb
 exact Fa.ex h hk
structure D6u (kr b2 lb:Nat) (w w1:World) (t:Int) (gs:List G.GrantD) (qs:List P.PlaceD) (s1 s2 u:Value) (ws:List W.WantD) (Z:Nat) (q:Int) (cn:Nat) (S:Nat→Bool) (y:World):Prop extends Du kr b2 lb w w1 t gs qs s1 s2 u ws y where
 r:S 7=false→Rq y kr (q+200 * cn)
 s:Z≤y.heap.size
section
variable {kr b2 lb:Nat} {w w1:World} {t:Int} {gs:List G.GrantD} {qs:List P.PlaceD} {s1 s2 u:Value} {ws:List W.WantD} {Z:Nat} {q:Int} {c i:Nat} {S:Nat→Bool} {y:World}
theorem D6u.ans {vs:List Value} (h:D6u kr b2 lb w w1 t gs qs s1 s2 u ws Z q c S y):D6u kr b2 lb w w1 t gs qs s1 s2 u ws Z q (c+1) (sset S 7) (y.setCells b2 0 vs) :=
 ⟨h.toDu.ans,fun e=>by simp [sset] at e,Nat.le_trans h.s ((Ex.refl b2 y).cells vs 0).size⟩
theorem D6u.up (h:D6u kr b2 lb w w1 t gs qs s1 s2 u ws Z q c S y):D6u kr b2 lb w w1 t gs qs s1 s2 u ws Z q (c+1) (sset S i) y:=⟨h.toDu,fun e=>(h.r (sset_no e)).up (by omega),h.s⟩
theorem D6u.bl {y':World} (h:D6u kr b2 lb w w1 t gs qs s1 s2 u ws Z q c S y) (hb:Below y.heap.size y y'):D6u kr b2 lb w w1 t gs qs s1 s2 u ws Z q (c+1) (sset S i) y':=⟨h.toDu.ex (Ex.of_below hb),fun e=>((h.r (sset_no e)).below hb).up (by omega),Nat.le_trans h.s hb.size⟩
theorem D6u.nx {ops:Array Oper} (i:Nat) (hi:waits .any ops 7 i=true):Nx kr q ops (D6u kr b2 lb w w1 t gs qs s1 s2 u ws Z q) i :=
 ⟨fun c S y hY h=>h.r (by cases e:S 7; rfl; have:=hY.tr 7 i hi e; rw [hY.n] at this; cases this),fun c S y y' m _ h hr hm he=>⟨h.toDu.ex he,fun _=>hr.up (by omega),Nat.le_trans h.s he.size⟩⟩
end
def LU6:List Nat:=[29,30,31,32,33,34,35,100007,3,4]
def GU6 (Z kr b2:Nat) (t:Int) (s1 s2 u:Value) (y:World) (V:Nat→Value):Nat→Prop
 | 0=>V 0=.agg #[.int .i64 t,s1,s2]
 | 1=>Tab 9 (Tx 4) Z 7 y (V 1)
 | 2=>V 2=.pointer (some ⟨kr,0,none⟩)
 | 3=>Nm 0 (7 - 1) (V 3)
 | 4=>Cel 9 (Tx 4) Z y (V 4)
 | 5=>Tx 4 (V 5)
 | 6=>V 6=u
 | 7=>y.rangeAt b2 0 [.int .i64 t,s1,s2]
 | 8=>Tx 4 (V 8)∧V 8=V 5
 | 9=>V 9=u
 | _=>True
theorem GU6.keep {Z kr b2:Nat} {t:Int} {s1 s2 u:Value} {i:Nat} {y y':World} {V:Nat→Value} (hk:kr < Z) (hb2:b2 < Z) (hn:b2≠kr) (hf:F6u kr b2 i y y'):∀ j,i≠j→GU6 Z kr b2 t s1 s2 u y V j→GU6 Z kr b2 t s1 s2 u y' V j:=by
 have hb:Fb 26 Z y y':=Or.inl (hf.fa hk hb2)
 intro j hne h
 match j,h with
 | 0,h=>exact h
 | 1,h=>exact Tab.keep h (by decide) hb
 | 2,h=>exact h
 | 3,h=>exact h
 | 4,h=>exact Cel.keep h (by decide) hb
 | 5,h=>exact h
 | 6,h=>exact h
 | 7,h =>
  unfold F6u at hf
  rw [if_neg hne] at hf
  exact range_off h (off_of_ex hf) (World.block_lt_of_cell? y _ (h 0 _ rfl)) hn
 | 8,h=>exact h
 | 9,h=>exact h
 | _+10,h=>exact h
set_option maxRecDepth 4000 in
set_option maxHeartbeats 4000000 in
theorem drawPut (a:Option Addr) (n cap:Nat) (zs:List Int) (w:World) (hc:CodeIn w a n zs) (hn:n≤1048576) (hcap:n≤cap) :
  Calls Tryz.prog 13 #[.slice a n cap] w fun e w'=>∃ t gs qs a1 a2 c1 c2 b aw cw ws,e=.returned (.tuple #[.agg #[.int .i64 t,.slice a1 gs.length c1,.slice a2 qs.length c2],.string b,.slice aw ws.length cw])∧P.LandZ w' gs qs a1 a2 c1∧P.Fit gs qs∧W.Src w' aw cw ws∧ByteArray.size b≤maxLen∧ws.length≤cw∧(∀ r∈ws,r.fits)∧ws.length≤1048576∧Below w.heap.size w w':=by
 have hinfo:(Tryz.prog.info? 26).map (·.size)=some 3:=by kernel_rfl
 have hinfw:(Tryz.prog.info? 56).map (·.size)=some 7:=by kernel_rfl
 have HCO:=hidP hc
 clear hc
 go_enter Tryz.func13,Tryz.ntmps13
 go_wp2_with fail
 obtain ⟨W1,hW1⟩:∃ W1,W1=w.alloc (.cells #[.int .i64 0,.slice none 0 0,.slice none 0 0] 26):=⟨_,rfl⟩
 have B1:Below w.heap.size w W1:=by rw [hW1]; exact bl_alloc bR _
 have T1:W1.there w.heap.size 0 3:=by rw [hW1]; exact fun j hj=>⟨by simp [go_sem]; omega,by simp [go_sem]⟩
 have z1:W1.heap.size=w.heap.size+1:=by rw [hW1]; simp
 rw [← hW1]
 refine (openQ a n cap zs W1 (HCO.out.bel B1) hn hcap).mono ?_
 rintro e w1 ⟨rfl,hr1,hb1⟩
 obtain ⟨kr,hkr⟩:∃ kr,kr=W1.heap.size:=⟨_,rfl⟩
 rw [← hkr] at hr1 ⊢
 have hk1:=hr1.lt
 have B2:Below w.heap.size w w1:=bl_trans B1 hb1
 have T3:=there_keep2 T1 (by omega) hb1
 have HR1:=hidP hr1
 have HT:Hid (Below w.heap.size w w1∧w1.there w.heap.size 0 3):=⟨B2,T3⟩
 have hkw:w.heap.size < kr:=by omega
 have hww:w.heap.size < w1.heap.size:=by omega
 clear HCO B1 hb1 T1 hW1 hr1 B2 T3 hkr z1
 go_wp2_with fail
 refine (any6 kr 0 w1 HR1.out (by omega)).mono ?_
 rintro e w2 ⟨t,gs,qs,s1,s2,rfl,hl,hF,hr2,he2⟩
 obtain ⟨d1,k1,rfl⟩:=G.Sl.shape hl.g
 obtain ⟨d2,k2,hs2⟩:=Pr.Sl.shape hl.o
 rw [List.length_map] at hs2
 subst hs2
 have HF:=hidP hF
 obtain ⟨lb,hlb⟩:∃ lb,lb=w2.heap.size:=⟨_,rfl⟩
 have hBl:w1.heap.size≤lb:=by rw [hlb]; exact he2.size
 obtain ⟨w3,hw3⟩:∃ y,y=w2.alloc (.cells #[.int .i64 t,.slice d1 gs.length k1,.slice d2 qs.length k2] 26):=⟨_,rfl⟩
 have hb3:Below w2.heap.size w2 w3:=by rw [hw3]; exact bl_alloc bR _
 have he3:=he2.trans (Ex.of_below hb3)
 have hz3:w3.heap.size=lb+1:=by rw [hw3,hlb]; simp
 have K3:Hid (w3.rangeAt lb 0 [.int .i64 t,.slice d1 gs.length k1,.slice d2 qs.length k2]∧LdB w3 w1.heap.size gs qs (.slice d1 gs.length k1) (.slice d2 qs.length k2)∧w3.there w.heap.size 0 3∧Below w.heap.size w w3∧Rq w3 kr 400000):=⟨by rw [hw3,hlb]; exact fun j u hj=>by rw [← hj]; simp [go_sem],hl.ex (Ex.of_below (kr:=kr) hb3) hk1,there_off HT.out.2 (off_of_ex he3) (by omega) (by omega),bl_ex9 HT.out.1 he3 (by omega),(hr2.below hb3).up (by omega)⟩
 have HW3:Hid (w3=w2.alloc (.cells #[.int .i64 t,.slice d1 gs.length k1,.slice d2 qs.length k2] 26)∧lb=w2.heap.size):=⟨hw3,hlb⟩
 have HZ3:=hidP hz3
 have KN:Hid (∀ g,LdO.bs qs (.slice d1 gs.length k1) (.slice d2 qs.length k2) g→g < lb):=by
  rw [hlb]
  rintro g (hg | hg | ⟨j,q,hq,hg⟩)
  · exact (hl.g.lt g hg).2
  · exact (hl.o.lt g hg).2
  exact ((hl.k q (List.mem_of_getElem? hq)).lt g hg).2
 clear HR1 hl hF hr2 he2 HT hw3 hlb hb3 he3 hz3
 go_wp2_with fail
 rw [← HW3.out.1,← HW3.out.2]
 refine (wantsQ kr 400000 w3 K3.out.2.2.2.2 (by omega)).mono ?_
 rintro e w4 ⟨ws,v,rfl,o4,l4,f4,r4,e4⟩
 obtain ⟨aw,cw,rfl⟩:=W.Ow.shape (W.Ow.of_owns o4)
 have D4:Hid (Du kr w.heap.size lb w w1 t gs qs (.slice d1 gs.length k1) (.slice d2 qs.length k2) (.slice aw ws.length cw) ws w4):=by
  obtain ⟨h1,h2,h3,h5,h6⟩:=K3.out
  have hz:=HZ3.out
  exact ⟨range_off h1 (off_of_ex e4) (by omega) (by omega),h2.ex e4 hk1,there_off h3 (off_of_ex e4) (there_lt h3) (by omega),by rw [hz] at o4; exact o4,bl_ex9 h5 e4 (by omega),⟨Nat.le_refl _,hkw,hk1,hBl,Nat.lt_of_lt_of_le (by omega) e4.size⟩⟩
 have R4:Hid (Rq w4 kr 400100):=r4.up (by omega)
 have F4:=hidP f4
 clear K3 HW3 HZ3 o4 r4 e4 f4
 go_wp2_with fail
 refine (pickQ kr _ 8 _ R4.out (by omega) (by omega) (by omega)).mono ?_
 rintro e w5 ⟨m,rfl,m0,m1,r5,e5⟩
 have D5:Hid (Du kr w.heap.size lb w w1 t gs qs (.slice d1 gs.length k1) (.slice d2 qs.length k2) (.slice aw ws.length cw) ws w5):=D4.out.ex e5
 have R5:Hid (Rq w5 kr 400101):=r5.up (by omega)
 clear D4 R4 r5 e5
 by_cases hm:m=0
 case' neg =>
  have hm':¬ (m=0):=hm
  obtain ⟨w8,hw8⟩:∃ y,y=w5:=⟨_,rfl⟩
  rw [← hw8] at D5 R5
  obtain ⟨L,hL,D8,F9⟩:∃ L:List W.WantD,L.length=ws.length∧Hid (Du kr w.heap.size lb w w1 t gs qs (.slice d1 gs.length k1) (.slice d2 qs.length k2) (.slice aw ws.length cw) L w8)∧Hid (∀ r∈L,r.fits):=⟨ws,rfl,D5.out,F4.out⟩
  have R8:Hid (Rq w8 kr 400300):=R5.out.up (by omega)
  clear D5 R5
  go_wp2_with fail
  rw [← hw8]
  clear hw8
 case' pos =>
  subst hm
  by_cases hl:0 < ws.length
  case' neg =>
   have hl':¬ ((0:Int) < (ws.length:Int)):=by omega
   obtain ⟨w8,hw8⟩:∃ y,y=w5:=⟨_,rfl⟩
   rw [← hw8] at D5 R5
   obtain ⟨L,hL,D8,F9⟩:∃ L:List W.WantD,L.length=ws.length∧Hid (Du kr w.heap.size lb w w1 t gs qs (.slice d1 gs.length k1) (.slice d2 qs.length k2) (.slice aw ws.length cw) L w8)∧Hid (∀ r∈L,r.fits):=⟨ws,rfl,D5.out,F4.out⟩
   have R8:Hid (Rq w8 kr 400300):=R5.out.up (by omega)
   clear D5 R5
   go_wp2_with fail
   rw [← hw8]
   clear hw8
  case' pos =>
   have hl':(0:Int) < (ws.length:Int):=by omega
   obtain ⟨r0,hr0⟩:∃ r0,ws[0]?=some r0:=⟨ws[0],List.getElem?_eq_getElem hl⟩
   obtain ⟨wg,rfl,hrow⟩:∃ wg,aw=some ⟨wg,0,none⟩∧W.RowsAt w5 wg 0 ws:=by
    rcases W.Ow.sl D5.out.o with ⟨-,e⟩ | ⟨g,cap,e,h1,h2,h3,h4⟩
    · rw [e] at hl; simp at hl
    cases e; exact ⟨g,rfl,h3⟩
   have hrow:=hrow.at hr0
   simp only [Nat.zero_mul,Nat.zero_add] at hrow
   obtain ⟨k0,k1',k2',k3,k4,k5,k6⟩:=hrow
   have hw0:r0.fits:=F4.out r0 (List.mem_of_getElem? hr0)
   clear hr0
   go_wp2_with fail
   refine (spoilWantQ kr _ r0.c r0.h r0.v r0.p r0.s r0.d r0.g w5 R5.out (by omega) hw0.1 hw0.2).mono ?_
   rintro e w6 ⟨xc,xh,xv,xp,xs,xd,xg,rfl,f1,f2,r6,e6⟩
   obtain ⟨rn,hrn⟩:∃ rn:W.WantD,rn=⟨xc,xh,xv,xp,xs,xd,xg⟩:=⟨_,rfl⟩
   have D6:=D5.out.ex e6
   have TW:Hid (w6.there wg 0 7):=by
    rcases W.Ow.sl D6.o with ⟨e,-⟩ | ⟨g,cap,e,h1,h2,h3,h4⟩
    · cases e
    cases e; exact fun j hj=>h4 j (by omega)
   have hlt:lb+1≤wg:=(W.Ow.lt D6.o wg rfl).1
   obtain ⟨w8,hw8⟩:∃ y,y=w6.setCells wg 0 rn.cells:=⟨_,rfl⟩
   have hx8:Ex wg w6 w8:=by rw [hw8]; exact (Ex.refl _ _).cells _ _
   obtain ⟨z1,z2,z3,z4,z5⟩:=D6.z
   have D8':Du kr w.heap.size lb w w1 t gs qs (.slice d1 gs.length k1) (.slice d2 qs.length k2) (.slice (some ⟨wg,0,none⟩) ws.length cw) (ws.set 0 rn) w8:=⟨range_off D6.c (off_of_ex hx8) z5 (by omega),D6.l.off (off_of_ex hx8) (fun g hg e=>by have:=KN.out g hg; omega),there_off D6.b (off_of_ex hx8) (by omega) (by omega),by rw [hw8]; have:=W.Ow.putQ (i:=0) rn D6.o hl; rwa [Nat.zero_mul] at this,bl_ex9 D6.e hx8 (by omega),⟨z1,z2,z3,z4,Nat.lt_of_lt_of_le z5 hx8.size⟩⟩
   have R8:Hid (Rq w8 kr 400300):=(r6.grown (W.ex_grown hx8) (fun k e=>by cases e; omega)).up (by omega)
   have F8:∀ r∈ws.set 0 rn,r.fits:=fun r hr=>by
    rcases List.mem_or_eq_of_mem_set hr with hr | rfl
    · exact F4.out r hr
    rw [hrn]; exact ⟨f1,f2⟩
   obtain ⟨L,hL,D8,F9⟩:∃ L:List W.WantD,L.length=ws.length∧Hid (Du kr w.heap.size lb w w1 t gs qs (.slice d1 gs.length k1) (.slice d2 qs.length k2) (.slice (some ⟨wg,0,none⟩) ws.length cw) L w8)∧Hid (∀ r∈L,r.fits):=⟨ws.set 0 rn,List.length_set ..,D8',F8⟩
   have HRN:Hid (World.setCells w6 wg 0 [.string xc,.int .i64 xv,.string xh,.int .i64 xp,.int .i64 xs,.int .i64 xd,.int .i64 xg]=w8):=by rw [hw8,hrn]; rfl
   clear k0 k1' k2' k3 k4 k5 k6 r6 e6 D6 hx8 D8' F8 D5 R5 hrn hw8
   go_wp2_with (refine wpList_store_mid (by rfl) 56 _ _ (by rfl) wg 0 #[.string xc,.int .i64 xv,.string xh,.int .i64 xp,.int .i64 xs,.int .i64 xd,.int .i64 xg] (by rfl) (by rfl) (by exact TW.out) hinfw (by simp [Value.oneCell']) ?_)
   rw [HRN.out]
   obtain ⟨aw,haw⟩:∃ x,x=some (⟨wg,0,none⟩:Addr):=⟨_,rfl⟩
   rw [← haw] at D8 ⊢
   clear haw HRN TW
 all_goals
  obtain ⟨z1,z2,z3,z4,z5⟩:=D8.out.z
  obtain ⟨Z,hZ⟩:∃ Z,Z=w8.heap.size:=⟨_,rfl⟩
  obtain ⟨q6,hq6⟩:∃ q6:Int,q6=400300:=⟨_,rfl⟩
  rw [← hq6] at R8
  have hD:∀ i c S y,D6u kr w.heap.size lb w w1 t gs qs (.slice d1 gs.length k1) (.slice d2 qs.length k2) (.slice aw ws.length cw) L Z q6 c S y→D6u kr w.heap.size lb w w1 t gs qs (.slice d1 gs.length k1) (.slice d2 qs.length k2) (.slice aw ws.length cw) L Z q6 (c+1) (sset S i) y:=fun i c S y h=>h.up
  have hnx:∀ {ops:Array Oper} i,waits .any ops 7 i=true→Nx kr q6 ops (D6u kr w.heap.size lb w w1 t gs qs (.slice d1 gs.length k1) (.slice d2 qs.length k2) (.slice aw ws.length cw) L Z q6) i:=fun i h=>D6u.nx i h
  have hZs:∀ c S y,D6u kr w.heap.size lb w w1 t gs qs (.slice d1 gs.length k1) (.slice d2 qs.length k2) (.slice aw ws.length cw) L Z q6 c S y→Z≤y.heap.size:=fun c S y h=>h.s
  have hRx:∀ i,i≠7→∀ y,F6u kr w.heap.size i y y:=fun i h y=>by unfold F6u; rw [if_neg h]; exact Ex.refl _ _
  have hFx:∀ i,i≠7→∀ y y',Ex kr y y'→F6u kr w.heap.size i y y':=fun i h y y' he=>by unfold F6u; rw [if_neg h]; exact he
  have hq1:q6+200 * (LU6.length:Int) < 1000000:=by show q6+200 * ((10:Nat):Int) < 1000000; omega
  refine wp_region_any (by kernel_rfl) ?_
  refine reg_invZ LU6 (GU6 Z kr w.heap.size t (.slice d1 gs.length k1) (.slice d2 qs.length k2) (.slice aw ws.length cw)) (D6u kr w.heap.size lb w w1 t gs qs (.slice d1 gs.length k1) (.slice d2 qs.length k2) (.slice aw ws.length cw) L Z q6) (F6u kr w.heap.size) (by kernel_rfl) (fun i j y y' V S hne hY hj hf h=>GU6.keep (by omega) (by omega) (by omega) hf j hne h) ⟨D8.out.ex (Ex.of_below bD),fun _=>(R8.out.below bD).up (by omega),by rw [hZ]; exact bD.size⟩ ?_ ?_
  ·
   intro i hi
   match i,hi with
   | 0,_ =>
    refine ctp (hD _) (hRx _ (by decide)) rfl rfl rfl fun x y c S yy g oo dd K hK=>?_
    have o5:x.tmps[6]?.getD undef=.pointer (some ⟨lb,0,none⟩):=ev_tmp (oo.out 6 rfl)
    have k0:=rng dd.out.c 0 rfl
    have k1:=rng dd.out.c 1 rfl
    have k2:=rng dd.out.c 2 rfl
    clear g oo dd yy
    go_simp
    exact hK.out _ rfl
   | 1,_ =>
    refine ct rfl rfl rfl fun x y c S hc yy g oo dd K hK=>?_
    clear g oo
    go_simp
    have hb:Below y.heap.size y (y.alloc (.cells #[.string ⟨#[97]⟩,.string ⟨#[98]⟩,.string ⟨#[100]⟩,.string ⟨#[101]⟩,.string ⟨#[102]⟩,.string ⟨#[]⟩,.string ⟨#[120,32,121]⟩] 9)):=bl_alloc bR _
    exact hK.out _ _ ⟨_,rfl,hZs c S y dd.out,⟨_,_,heap_newZ y _⟩,fun j hj=>by obtain ⟨u,h1,h2⟩:=txAll (C:=#[.string ⟨#[97]⟩,.string ⟨#[98]⟩,.string ⟨#[100]⟩,.string ⟨#[101]⟩,.string ⟨#[102]⟩,.string ⟨#[]⟩,.string ⟨#[120,32,121]⟩]) (n:=7) (m:=4) (by kernel_rfl) j hj; exact ⟨u,by rw [← h1]; simp [go_sem],h2⟩⟩ (dd.out.bl hb) (hFx _ (by decide) _ _ (Ex.of_below hb))
   | 2,_ =>
    exact ctOut (hD _) (hRx _ (by decide)) rfl rfl rfl rfl rfl rfl (fun _ _ e=>e)
   | 3,_ =>
    exact ctPick (hnx _ rfl) 7 (by omega) (by omega) hq1 2 rfl rfl rfl rfl rfl rfl (fun _ _ h=>h) (hFx _ (by decide)) (fun _ _ h=>h)
   | 4,_ =>
    exact ctIxS (hD _) (hRx _ (by decide)) 1 3 rfl rfl rfl rfl rfl rfl rfl rfl (fun _ _ h=>h) (fun _ _ h=>nm_nat h (by omega) (by omega)) (fun _ _ h=>h)
   | 5,_ =>
    exact ctLdS (hD _) (hRx _ (by decide)) 4 rfl rfl rfl rfl rfl rfl (fun _ _ h=>h) (fun _ _ h=>h)
   | 6,_ =>
    exact ctOut (hD _) (hRx _ (by decide)) rfl rfl rfl rfl rfl rfl (fun _ _ e=>e)
   | 7,_ =>
    refine ctn rfl rfl fun x y c S hc yy g oo dd K hK=>?_
    have e1:x.tmps.getD 29 undef=_:=g.out 0 rfl
    have e2:x.tmps.getD 2 undef=.pointer (some ⟨w.heap.size,0,none⟩):=oo.out 2 rfl
    refine wp_store_mid 26 _ _ rfl w.heap.size 0 #[_,_,_] e2 e1 dd.out.b hinfo (by simp [Value.oneCell']) ?_
    refine hK.out _ (World.rangeAt_setCells_same y w.heap.size 0 _ dd.out.b) dd.out.ans ?_
    show F6u _ _ _ _ _
    unfold F6u
    rw [if_pos rfl]
    exact (Ex.refl _ _).cells _ _
   | 8,_ =>
    refine ctp (hD _) (hRx _ (by decide)) rfl rfl rfl fun x y c S yy g oo dd K hK=>?_
    obtain ⟨s,e1,hs⟩:=g.out 5 rfl
    have E1:=hidP e1
    have e1:x.tmps[34]?.getD undef=_:=ev_tmp e1
    clear g oo dd yy
    go_simp
    exact hK.out _ ⟨⟨s,rfl,hs⟩,E1.out.symm⟩
   | 9,_ =>
    refine ctp (hD _) (hRx _ (by decide)) rfl rfl rfl fun x y c S yy g oo dd K hK=>?_
    have e1:x.tmps[35]?.getD undef=_:=ev_tmp (g.out 6 rfl)
    clear g oo dd yy
    go_simp
    exact hK.out _ rfl
   | _+10,h=>exact absurd h (by show ¬ (_ < 10); omega)
  intro a9 y c hdf hsz hout hgood hc hE
  have r2:y.rangeAt w.heap.size 0 [.int .i64 t,.slice d1 gs.length k1,.slice d2 qs.length k2]:=hgood 7 (by decide)
  obtain ⟨⟨b,e8,hb4⟩,-⟩:=(hgood 8 (by decide):Tx 4 (a9.tmps.getD 3 undef)∧_)
  have e9:a9.tmps.getD 4 undef=.slice aw ws.length cw:=hgood 9 (by decide)
  have c0:=rng r2 0 rfl
  have c1:=rng r2 1 rfl
  have c2:=rng r2 2 rfl
  have HE9:=hidP hE.toDu
  clear hE r2 D8 R8
  obtain ⟨f,ha,hf,hf2⟩:=frameZ2 3 2 29 7 hdf hsz hout rfl
  have f0:f 0=_:=(hf 0 (by omega)).trans e8
  have f1:f 1=_:=(hf 1 (by omega)).trans e9
  clear hf hf2 hout hgood hdf hsz
  subst ha
  rw [show (List.range 2).map f=[f 0,f 1] from rfl,show (List.range 7).map (fun k=>f (2+k))=[f 2,f 3,f 4,f 5,f 6,f 7,f 8] from rfl,f0,f1]
  simp only [tkd,Nat.reduceAdd]
  clear f0 f1 e8 e9
  go_wp2_with fail
  refine bodyPost_ret (v:=.tuple #[.agg #[.int .i64 t,.slice d1 gs.length k1,.slice d2 qs.length k2],.string b,.slice aw ws.length cw]) (by simp [results,Tryz.results13,go_sem,c0,c1,c2]) rfl ⟨t,gs,qs,d1,d2,k1,k2,b,aw,cw,L,by rw [hL],HE9.out.l.z,HF.out.toFit,(W.Ow.sl (l:=L) (by have h9:=HE9.out.o; rw [← hL] at h9; exact h9)).src,by unfold maxLen; omega, ?_,F9.out,by omega,HE9.out.e⟩
  have h9:=HE9.out.o
  rw [← hL] at h9
  exact cap_owns h9 _ _ _ rfl
end Go.Proofs.YtcjhlhijdacinaaGreatDoor
namespace Go.Proofs.YtcjhlhijdacinaaGreatDoor
open Go.RowKit Go.Maps Go.WideMaps
set_option linter.unusedVariables false
theorem srt_raw {ps:List P.PlaceD} (h:P.AscN ps ps.length):Pr.Srt (ps.map Pr.raw):=by
 refine Pr.srt_asc ?_
 intro j q r hj hq hr
 rw [List.getElem?_map] at hq hr
 obtain ⟨p,hp,rfl⟩:=Option.map_eq_some_iff.1 hq
 obtain ⟨p',hp',rfl⟩:=Option.map_eq_some_iff.1 hr
 exact h j p p' (by rw [List.length_map] at hj; exact hj) hp hp'
end Go.Proofs.YtcjhlhijdacinaaGreatDoor
namespace Go.Proofs.YtcjhlhijdacinaaGreatDoor
open Go.RowKit Go.Maps Go.WideMaps
set_option linter.unusedVariables false
structure Errs (w:World) (e0 e1:Value):Prop where
 c0:w.cell? ⟨0,0,none⟩=some e0
 c1:w.cell? ⟨3,0,none⟩=some e1
 z0:0 < w.heap.size
 z1:3 < w.heap.size
 i0:∃ te pe,e0=.iface te pe
 i1:∃ te pe,e1=.iface te pe
theorem Errs.keep {w w':World} {e0 e1:Value} (h:Errs w e0 e1) (hb:Below w.heap.size w w'):Errs w' e0 e1 :=
 ⟨(hb.cell (p:=⟨0,0,none⟩) h.z0).trans h.c0,(hb.cell (p:=⟨3,0,none⟩) h.z1).trans h.c1,Nat.lt_of_lt_of_le h.z0 hb.size,Nat.lt_of_lt_of_le h.z1 hb.size,h.i0,h.i1⟩
theorem tko_none {w:World} {B:Nat} {gs:List G.GrantD} {qs:List P.PlaceD} {s1 s2:Value} (h:LdO w B gs qs s1 s2):TkO w B gs qs [] s1 s2 (.slice none 0 0) :=
 ⟨h,PcO.nil w B,fun g _ hg=>by rcases hg with e | ⟨j,q,hq,-⟩; cases e; simp at hq⟩
end Go.Proofs.YtcjhlhijdacinaaGreatDoor
