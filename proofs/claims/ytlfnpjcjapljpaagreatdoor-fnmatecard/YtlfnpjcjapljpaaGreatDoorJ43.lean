import Derived.Test.YtlfnpjcjapljpaaGreatDoorJ39
namespace Go.Proofs.YtlfnpjcjapljpaaGreatDoor
open Go.Maps Go.Proofs.Tryz Go.RowKit Go.WideMaps
set_option maxRecDepth 4000
set_option maxHeartbeats 8000000
set_option linter.unusedVariables false
def wq(m:aj)(rate:Int)(B:Nat)(e:Ending)(w':World):Prop:=∃(r:aj)(s1 s2 s3 s4:Value)(vo:Value)(out:List Pc.bP),e=.returned (.tuple #[.agg (bY r.nm r.up r.ck r.kn r.se s1 s2 s3 s4),vo])/\tC m rate r out/\dI w' r s1 s2 s3 s4 B/\gU s1/\Pc.Sl w' vo out B
theorem Pc.Sl.ex{w w':World}{v:Value}{l:List Pc.bP}{B k:Nat}(h:Pc.Sl w v l B)(he:Ex k w w')(hk:k<B):Pc.Sl w' v l B:=
 h.grown (row:=some k) ⟨he.os,he.tape,he.output,he.size,fun j hj hne=>he.block j hj (fun e=>hne (by rw[e]))⟩ (by
  cases hv:v.ownBlock with
  |none=>exact Or.inl rfl
  |some g=>exact Or.inr (fun e=>by have:=(h.lt g hv).1;have:=Option.some.inj e;omega))
theorem Pc.Sl.low{w:World}{v:Value}{l:List Pc.bP}{B B':Nat}(h:Pc.Sl w v l B)(hB:B'<=B):Pc.Sl w v l B':=by
 rcases h with h|⟨g,cap,h0,h1,h2,h3,h4⟩;·exact Or.inl h
 exact Or.inr ⟨g,cap,h0,Nat.le_trans hB h1,h2,h3,h4⟩
theorem mZ:gU (.slice none 0 0):=fun a n c h=>by cases h;exact Nat.le_refl _
theorem dI.shapes{w:World}{m:aj}{s1 s2 s3 s4:Value}{B:Nat}(h:dI w m s1 s2 s3 s4 B):∃a1 p1 a2 p2 a3 p3 a4 p4,s1=.slice a1 m.ws.length p1/\s2=.slice a2 m.rs.length p2/\s3=.slice a3 m.qs.length p3/\s4=.slice a4 m.gs.length p4:=by obtain⟨a1,p1,h1⟩:=W.Sl.shape h.a1;obtain⟨a2,p2,h2⟩:=Sl.shape h.a2;obtain⟨a3,p3,h3⟩:=A.Sl.shape h.a3;obtain⟨a4,p4,h4⟩:=A.Sl.shape h.a4;exact⟨a1,p1,a2,p2,a3,p3,a4,p4,h1,h2,h3,h4⟩
theorem xA(m:aj)(rate:Int)(x1 x2 x3 x4:Option Addr)(n1 n2 n3 n4:Nat)(w:World)(hL:gx w m x1 x2 x3 x4 n1 n2 n3 n4)(hf:m.fits)(hq:m.qs.length<=20):
  Calls prog 5 #[.agg (bK m x1 x2 x3 x4 n1 n2 n3 n4),.int .i64 rate] w fun e w'=>wq m rate w.heap.size e w'/\Below w.heap.size w w':=by
 have S0:Hid (Sc w (bK m x1 x2 x3 x4 n1 n2 n3 n4) ((w.alloc (.cells (bK m x1 x2 x3 x4 n1 n2 n3 n4) 27)).alloc (.cells iU 27))):=ic m x1 x2 x3 x4 n1 n2 n3 n4 w;have hinfo:(prog.info? 27).map (·.size)=some 9:=by kernel_rfl
 go_enter func5,ntmps5
 go_wp2_with fail
 refine(gF m x1 x2 x3 x4 n1 n2 n3 n4 _ (hL.keep S0.out.e).lists hL.cap hf).mono ?_;rintro e w1 ⟨⟨q,rfl,hsv⟩,c1⟩;have S1:Hid (Sc w (bK m x1 x2 x3 x4 n1 n2 n3 n4) w1):=S0.out.below c1;have Hq:Hid (tT q m):=hsv;clear hsv c1;have ka:=S1.out.b;have kf:=S1.out.c;cases q
 ·
  go_wp2_with (refine wpList_store_mid (by rfl) 27 _ _ (by rfl) (w.heap.size+1) 0 iU (by rfl) (by rfl) (by exact S1.out.d) hinfo (by exact all_oneCell_toArray (iH)) ?_)
  have hrg:=World.rangeAt_setCells_same w1 (w.heap.size+1) 0 (dP ⟨#[]⟩ false 0 false 0 (.slice none 0 0) (.slice none 0 0) (.slice none 0 0) (.slice none 0 0)) S1.out.d;obtain⟨d0,d1,d2,d3,d4,d5,d6,d7,d8⟩:=d9 hrg;exact bodyPost_ret (v:=.tuple #[.agg iU,.slice none 0 0]) (by simp[results,results5,go_sem,d0,d1,d2,d3,d4,d5,d6,d7,d8]) rfl ⟨⟨ju,_,_,_,_,_,[],rfl,Or.inr ⟨dA Hq.out,rfl,rfl⟩,jw _ _,mZ,Or.inl ⟨rfl,rfl⟩⟩,S1.out.put _⟩
 have hv:Hid (Valid m):=Hq.out.1 rfl;clear Hq;have hp:=hv.out.1;simp only[cV,cA,Bool.and_eq_true,decide_eq_true_eq]at hp;obtain⟨-,⟨hc0,hc1⟩,-⟩:=hp;cases hrt:cA rate 1 4
 ·
  go_wp2_with (go_at_call 19;refine(aP _ _ _ _).mono ?_;rintro e w' ⟨rfl,jD⟩;rw[hrt,jD];clear jD w')
  go_wp2_with fail
  have F:=jf m x1 x2 x3 x4 n1 n2 n3 n4 w1 (hL.keep S1.out.e) hf
  skip
  refine F.mono ?_;clear F;rintro e w7 ⟨⟨s1,s2,s3,s4,rfl,rr,cp⟩,c7⟩;have S7:Hid (Sc w (bK m x1 x2 x3 x4 n1 n2 n3 n4) w7):=S1.out.below c7;obtain⟨a1,p1,a2,p2,a3,p3,a4,p4,hs1,hs2,hs3,hs4⟩:=rr.shapes;subst hs1 hs2 hs3 hs4;have R7:Hid (dI w7 m (ai a1 m.ws p1) (ai a2 m.rs p2) (ai a3 m.qs p3) (ai a4 m.gs p4) w1.heap.size):=rr;have CP:Hid (gU (ai a1 m.ws p1)):=cp;have z7:w.heap.size+1<w1.heap.size:=S1.out.f;have ho:=ones m R7.out.a1 R7.out.a2 R7.out.a3 R7.out.a4
  skip
  clear rr cp c7;go_wp2_with (refine wpList_store_mid (by rfl) 27 _ _ (by rfl) (w.heap.size+1) 0 (bK m a1 a2 a3 a4 p1 p2 p3 p4) (by rfl) (by rfl) (by exact S7.out.d) hinfo (by exact all_oneCell_toArray (ho)) ?_)
  have hrg:=World.rangeAt_setCells_same w7 (w.heap.size+1) 0 (kg m a1 a2 a3 a4 p1 p2 p3 p4) S7.out.d;obtain⟨d0,d1,d2,d3,d4,d5,d6,d7,d8⟩:=d9 hrg;exact bodyPost_ret (v:=.tuple #[.agg (bK m a1 a2 a3 a4 p1 p2 p3 p4),.slice none 0 0]) (by simp[results,results5,go_sem,d0,d1,d2,d3,d4,d5,d6,d7,d8]) rfl ⟨⟨m,_,_,_,_,_,[],rfl,Or.inl ⟨hv.out,(tU hrt).symm⟩,(R7.out.ex ((Ex.refl _ _).cells _ _) z7).low (by omega),CP.out,Or.inl ⟨rfl,rfl⟩⟩,S7.out.put _⟩
 have hr4:1<=rate/\rate<=4:=by simpa[cA]using hrt
 obtain⟨hr1,hr4⟩:=hr4;by_cases hov:1000000<m.ck+rate
 ·
  go_wp2_with (go_at_call 19;refine(aP _ _ _ _).mono ?_;rintro e w' ⟨rfl,jD⟩;rw[hrt,jD];clear jD w')
  refine(yi m x1 x2 x3 x4 n1 n2 n3 n4 _ (hL.keep S1.out.e) hf).mono ?_;rintro e w7 ⟨⟨a2,p2,rfl,rr⟩,c7⟩;have S7:Hid (Sc w (bK m x1 x2 x3 x4 n1 n2 n3 n4) w7):=S1.out.below c7;obtain⟨fr,hfr⟩:∃fr,fr=cx true m.rs:=⟨_,rfl⟩
  have Nt:Hid (fr=cx true m.rs):=hfr;rw[<-hfr]at rr ⊢;have R7:Hid (Sl w7 (ai a2 fr p2) fr w1.heap.size):=rr;have z7:w.heap.size+1<w1.heap.size:=S1.out.f;clear rr c7 hfr;go_wp2_with (refine wpList_store_mid (by rfl) 27 _ _ (by rfl) (w.heap.size+1) 0 (bY m.nm false 1000000 false 0 (.slice none 0 0) (ai a2 fr p2) (.slice none 0 0) (.slice none 0 0)) (by rfl) (by rfl) (by exact S7.out.d) hinfo (by exact all_oneCell_toArray (oB m 1000000 a2 fr.length p2)) ?_)
  have hrg:=World.rangeAt_setCells_same w7 (w.heap.size+1) 0 (dP m.nm false 1000000 false 0 (.slice none 0 0) (ai a2 fr p2) (.slice none 0 0) (.slice none 0 0)) S7.out.d;obtain⟨d0,d1,d2,d3,d4,d5,d6,d7,d8⟩:=d9 hrg;have hx7:Ex (w.heap.size+1) w7 (w7.setCells (w.heap.size+1) 0 (dP m.nm false 1000000 false 0 (.slice none 0 0) (ai a2 fr p2) (.slice none 0 0) (.slice none 0 0))):=(Ex.refl _ _).cells _ _;exact bodyPost_ret (v:=.tuple #[.agg (bY m.nm false 1000000 false 0 (.slice none 0 0) (ai a2 fr p2) (.slice none 0 0) (.slice none 0 0)),.slice none 0 0]) (by simp[results,results5,go_sem,d0,d1,d2,d3,d4,d5,d6,d7,d8]) rfl ⟨⟨{fQ true m with ck:=1000000},_,_,_,_,_,[],rfl,Or.inl ⟨hv.out,(qe hrt hov).symm⟩,⟨Or.inl ⟨rfl,rfl⟩,by show Sl _ _ (cx true m.rs) _;rw[<-Nt.out];exact Sl.low (R7.out.grown (av hx7) (bC (N:=w.heap.size+1) (fun g hg=>by have:=(R7.out.lt g hg).1;omega) (Nat.le_refl _))) (by omega),Or.inl ⟨rfl,rfl⟩,Or.inl ⟨rfl,rfl⟩,Or.inl rfl,Or.inl rfl,Or.inl rfl,eh.symm (Or.inl rfl),eh.symm (Or.inl rfl),Or.inl rfl⟩,mZ,Or.inl ⟨rfl,rfl⟩⟩,S7.out.put _⟩
 have PG:m.ck+rate<=1000000:=by omega
 have Sm:Hid (m.ck+rate<=1000000):=PG;have S3:Hid (Sc w (bY m.nm m.up (m.ck+rate) m.kn m.se (ai x1 m.ws n1) (ai x2 m.rs n2) (ai x3 m.qs n3) (ai x4 m.gs n4)) (w1.setCell ⟨w.heap.size,2,none⟩ (.int .i64 (m.ck+rate)))):=S1.out.set 2 (by simp) _;go_wp2_with (go_at_call 19;refine(aP _ _ _ _).mono ?_;rintro e w' ⟨rfl,jD⟩;rw[hrt,jD];clear jD w')
 refine(yj x2 n2 m.rs (m.ck+rate) _ (hL.keep S3.out.e).r2 hf.k2).mono ?_;rintro e w4 ⟨⟨s6,rfl,hs6⟩,c4⟩;have S4:Hid (Sc w (bY m.nm m.up (m.ck+rate) m.kn m.se (ai x1 m.ws n1) (ai x2 m.rs n2) (ai x3 m.qs n3) (ai x4 m.gs n4)) w4):=S3.out.below c4;obtain⟨l,uQ⟩:∃l,l=m.rs.map (bN (m.ck+rate)):=⟨_,rfl⟩
 have EX:Hid (l=m.rs.map (bN (m.ck+rate))):=uQ;rw[<-uQ]at hs6;obtain⟨a6,p6,rfl⟩:=Sl.shape hs6;have Q6:Hid (Sl w4 (ai a6 l p6) l _):=hs6;have z3:w.heap.size+1<w1.heap.size:=S1.out.f;clear hs6 c4 uQ ka kf;have ka:=S4.out.b;have kf:=S4.out.c;obtain⟨w5,EZ⟩:∃w5,w5=w4.setCell ⟨w.heap.size,6,none⟩ (ai a6 l p6):=⟨_,rfl⟩
 have Sn:Hid (Sc w (bY m.nm m.up (m.ck+rate) m.kn m.se (ai x1 m.ws n1) (ai a6 l p6) (ai x3 m.qs n3) (ai x4 m.gs n4)) w5):=by show Sc _ _ _;rw[EZ];exact S4.out.set 6 (by simp) _
 have Q5:Hid (Src w5 a6 p6 l):=by show Src _ _ _ _;rw[EZ];exact(Q6.out.grown (av ((Ex.refl _ _).set 6 _)) (bC (N:=w.heap.size) (fun g hg=>by have h1:=(Q6.out.lt g hg).1;have h2:w1.heap.size<=(w1.setCell ⟨w.heap.size,2,none⟩ (.int .i64 (m.ck+rate))).heap.size:=((Ex.refl w.heap.size w1).set 2 _).size;omega) (Nat.le_refl _))).src
 obtain⟨r,hr⟩:∃r:aj,r=⟨m.nm,m.up,m.ck+rate,m.kn,m.se,m.ws,l,m.qs,m.gs⟩:=⟨_,rfl⟩
 have HR:Hid (r=⟨m.nm,m.up,m.ck+rate,m.kn,m.se,m.ws,l,m.qs,m.gs⟩):=hr;have S5:Hid (Sc w #[.string r.nm,.bool r.up,.int .i64 r.ck,.bool r.kn,.int .i64 r.se,(ai x1 r.ws n1),(ai a6 r.rs p6),(ai x3 r.qs n3),(ai x4 r.gs n4)] w5):=by show Sc _ _ _;rw[hr];exact Sn.out
 have KD:=hL.keep S5.out.e;have M5:Hid (gx w5 r x1 a6 x3 x4 n1 p6 n3 n4):=by show gx _ _ _ _ _ _ _ _ _ _;rw[hr];exact⟨KD.r1,Q5.out,KD.r3,KD.r4,hL.cap⟩
 have FR:Hid r.fits:=by show aj.fits _;rw[hr];refine⟨hf.n,hf.f1,fun z hz=>?_,hf.f3,hf.f4,hf.k1,by show l.length<=_;rw[EX.out,List.length_map];exact hf.k2,hf.k3,hf.k4⟩;have hz:z∈l:=hz;rw[EX.out]at hz;exact dN ((nL (ck:=m.ck+rate) ((cv m.ck m.rs).1 hv.out.2.2.1.2)).1 z hz)
 obtain⟨v,hu⟩:∃v,r.up=v:=⟨_,rfl⟩
 have Hu:Hid (r.up=v):=hu;have HST:Hid (w5=w4.setCell ⟨w.heap.size,6,none⟩ (ai a6 l p6)):=EZ;clear EZ hr KD Sn Q5
 go_upto_region 9 with(fail)
 rw[<-HST.out];clear ka kf;have ka:=S5.out.b;have kf:=S5.out.c;unfold bK at ka;rw[hu]at ka;clear hu;cases v
 ·
  go_wp2_with fail
  have F:=jf r x1 a6 x3 x4 n1 p6 n3 n4 w5 M5.out FR.out;unfold bK at F;rw[Hu.out]at F;refine F.mono ?_;clear F;rintro e w7 ⟨⟨s1,s2,s3,s4,rfl,rr,cp⟩,c7⟩;have S7:Hid (Sc w #[.string r.nm,.bool r.up,.int .i64 r.ck,.bool r.kn,.int .i64 r.se,(ai x1 r.ws n1),(ai a6 r.rs p6),(ai x3 r.qs n3),(ai x4 r.gs n4)] w7):=S5.out.below c7;obtain⟨a1,p1,a2,p2,a3,p3,a4,p4,hs1,hs2,hs3,hs4⟩:=rr.shapes;subst hs1 hs2 hs3 hs4;have R7:Hid (dI w7 r (ai a1 r.ws p1) (ai a2 r.rs p2) (ai a3 r.qs p3) (ai a4 r.gs p4) w5.heap.size):=rr;have CP:Hid (gU (ai a1 r.ws p1)):=cp;have z7:w.heap.size+1<w5.heap.size:=S5.out.f;have ho:=ones r R7.out.a1 R7.out.a2 R7.out.a3 R7.out.a4;rw[Hu.out]at ho;clear rr cp c7;go_wp2_with (refine wpList_store_mid (by rfl) 27 _ _ (by rfl) (w.heap.size+1) 0 (bY r.nm false r.ck r.kn r.se (ai a1 r.ws p1) (ai a2 r.rs p2) (ai a3 r.qs p3) (ai a4 r.gs p4)) (by rfl) (by rfl) (by exact S7.out.d) hinfo (by exact all_oneCell_toArray (ho)) ?_)
  have hrg:=World.rangeAt_setCells_same w7 (w.heap.size+1) 0 (dP r.nm false r.ck r.kn r.se (ai a1 r.ws p1) (ai a2 r.rs p2) (ai a3 r.qs p3) (ai a4 r.gs p4)) S7.out.d;obtain⟨d0,d1,d2,d3,d4,d5,d6,d7,d8⟩:=d9 hrg;exact bodyPost_ret (v:=.tuple #[.agg (bY r.nm false r.ck r.kn r.se (ai a1 r.ws p1) (ai a2 r.rs p2) (ai a3 r.qs p3) (ai a4 r.gs p4)),.slice none 0 0]) (by simp[results,results5,go_sem,d0,d1,d2,d3,d4,d5,d6,d7,d8]) rfl ⟨⟨r,_,_,_,_,_,[],by rw[Hu.out],Or.inl ⟨hv.out,by rw[HR.out];have hd:=qf (m:=m) hrt (Int.not_lt.2 Sm.out) (by have:=Hu.out;rw[HR.out]at this;exact this);rw[<-EX.out]at hd;exact hd.symm⟩,(R7.out.ex ((Ex.refl _ _).cells _ _) z7).low (by omega),CP.out,Or.inl ⟨rfl,rfl⟩⟩,S7.out.put _⟩
 have UZ:Hid (Valid (eS m rate).1/\_/\_):=nM (rate:=rate) hv.out hq;have Nu:Hid (eS m rate=gG (m.ck+rate) m l):=by show _=_;rw[EX.out];exact wu (m:=m) hrt (Int.not_lt.2 Sm.out) (by have:=Hu.out;rw[HR.out]at this;exact this)
 have Ja:Hid (dV (m.ck+rate) l):=by show dV _ _;rw[EX.out];exact nL ((cv m.ck m.rs).1 hv.out.2.2.1.2)
 have Mk:Hid (l.length<=20):=by show _<=_;rw[EX.out,List.length_map];exact hv.out.2.2.1.1
 have PH:Hid (Work (m.ck+rate) m l):=mV hv.out (by omega) Ja.out Mk.out;have BI:Hid (cQ (m.ck+rate) ⟨l,m.qs,m.gs,[]⟩):=⟨Ja.out,hv.out.qg (by omega),Mk.out,by show m.qs.length<=100;omega,Nat.zero_le _⟩
 have Nv:Hid (mq m):=dO hv.out;have y5:Below w5.heap.size w5 (w5.alloc (.cells #[.slice none 0 0] 30)):=ae bR _;have S6:Hid (Sc w #[.string r.nm,.bool r.up,.int .i64 r.ck,.bool r.kn,.int .i64 r.se,(ai x1 r.ws n1),(ai a6 r.rs p6),(ai x3 r.qs n3),(ai x4 r.gs n4)] (w5.alloc (.cells #[.slice none 0 0] 30))):=S5.out.below y5;have M6:Hid (gx (w5.alloc (.cells #[.slice none 0 0] 30)) r x1 a6 x3 x4 n1 p6 n3 n4):=M5.out.keep y5;clear y5;have Nq:=S6.out.b;rw[Hu.out]at Nq;go_wp2_with fail
 have F:=vR r x1 a6 x3 x4 n1 p6 n3 n4 (w5.alloc (.cells #[.slice none 0 0] 30)) M6.out FR.out (by rw[HR.out];exact Nv.out.s1) (by rw[HR.out];exact gM.2 Ja.out.2) (by rw[HR.out];exact Nv.out.s3) (by rw[HR.out];exact Nv.out.s4);unfold bK at F;rw[Hu.out]at F;refine F.mono ?_;clear F;rintro e w7 ⟨⟨d,m1,m2,m3,m4,rfl,dk,o0,o1,o2,o3,o4⟩,c7⟩;have S7:Hid (Sc w #[.string r.nm,.bool r.up,.int .i64 r.ck,.bool r.kn,.int .i64 r.se,(ai x1 r.ws n1),(ai a6 r.rs p6),(ai x3 r.qs n3),(ai x4 r.gs n4)] w7):=S6.out.below c7;have hsb:w5.heap.size<w7.heap.size:=Nat.lt_of_lt_of_le (by simp) c7.size;have U0:w5.heap.size<m1:=Nat.lt_of_lt_of_le (by simp) o0;have Sq:w.heap.size+1<w5.heap.size:=S5.out.f;obtain⟨E,hE⟩:∃E:WE,E=⟨w5,w.heap.size,w5.heap.size,d,m1,m2,m3,m4,#[.string r.nm,.bool true,.int .i64 r.ck,.bool r.kn,.int .i64 r.se,(ai x1 r.ws n1),(ai a6 r.rs p6),(ai x3 r.qs n3),(ai x4 r.gs n4),.map (some m1),.map (some m2),.map (some m3),.map (some m4)],m.nm,m.ws⟩:=⟨_,rfl⟩
 have HW:Hid (Wk E 1048576 ⟨l,m.qs,m.gs,[]⟩ (.slice none 0 0) w7):=by
  show Wk _ _ _ _ _;have hk:∀k,w7.cell? ⟨w5.heap.size,k,none⟩=_:=aJ c7;have hfz:w7.frozen? ⟨w5.heap.size,0,none⟩=_:=c7.frozen (p:=⟨w5.heap.size,0,none⟩) (by simp);have dk':=dk;have e1:r.ws=m.ws:=by rw[HR.out]
  have e2:r.rs=l:=by rw[HR.out]
  have e3:r.qs=m.qs:=by rw[HR.out]
  have e4:r.gs=m.gs:=by rw[HR.out]
  rw[hE];refine⟨⟨dk'.c,dk'.f,dk'.l,?_,?_,?_,?_⟩,(S7.out.b 0).trans (by rw[HR.out];rfl),by rw[hk 0];simp[go_sem],World.ownsRow_nil _ _ _ _,by rw[hfz];simp[go_sem],af (ae bR _) c7,⟨Nat.le_refl _,by show w.heap.size<w5.heap.size;omega,U0,o1,o2,o3,o4⟩,Nv.out.s1,hf.f1,by show m.ws.length<=1000;have:=hv.out.2.1.1.1;omega⟩;·have:=dk'.o1;rw[e1]at this;exact this
  ·have:=dk'.o2;rw[e2]at this;exact this
  ·have:=dk'.o3;rw[e3]at this;exact this
  have:=dk'.o4;rw[e4]at this;exact this
 have CE:Hid (DN E (m.ck+rate) m.kn m.se):=by show DN _ _ _ _;rw[hE];exact⟨by rw[HR.out];rfl,by rw[HR.out];rfl,by rw[HR.out];rfl,rfl,rfl,rfl,rfl⟩
 have ed:E.d=d:=by rw[hE]
 have U1:E.mb=w.heap.size:=by rw[hE]
 have PI:E.sb=w5.heap.size:=by rw[hE]
 have EQ:Hid (E.O=#[.string r.nm,.bool true,.int .i64 r.ck,.bool r.kn,.int .i64 r.se,(ai x1 r.ws n1),(ai a6 r.rs p6),(ai x3 r.qs n3),(ai x4 r.gs n4),.map (some m1),.map (some m2),.map (some m3),.map (some m4)]/\E.m1=m1/\E.m2=m2/\E.m3=m3/\E.m4=m4/\E.ws=m.ws/\E.nm=m.nm/\E.w0=w5):=by show _/\_;rw[hE];exact⟨rfl,rfl,rfl,rfl,rfl,rfl,rfl,rfl⟩
 clear dk c7 hE;go_wp2_with fail
 have F:=A9 m l HW.out (by omega) CE.out (by omega) (by omega) EQ.out.2.2.2.2.2.1 EQ.out.2.2.2.2.2.2.1 rfl rfl (jk hv.out) hv.out.2.1.1.1 BI.out PH.out hq;rw[ed,U1,PI]at F;refine F.mono ?_;clear F;rintro e w8 ⟨rfl,v8,N8,h8⟩;have H8:Hid (Wk E N8 (Ml (m.ck+rate) m l) v8 w8):=h8;obtain⟨z,hz⟩:∃z:aj,z=(gG (m.ck+rate) m l).1:=⟨_,rfl⟩
 have HZ:Hid (z=(gG (m.ck+rate) m l).1):=hz;have VZ:Hid (Valid z):=by show Valid _;rw[hz];have:=UZ.out.1;rw[Nu.out]at this;exact this
 have DZ:Hid (ef w8 d #[.string z.nm,.bool z.up,.int .i64 z.ck,.bool z.kn,.int .i64 z.se,(ai x1 r.ws n1),(ai a6 r.rs p6),(ai x3 r.qs n3),(ai x4 r.gs n4),.map (some m1),.map (some m2),.map (some m3),.map (some m4)] m1 m2 m3 m4 z.ws z.rs z.qs z.gs):=by
  show ef _ _ _ _ _ _ _ _ _ _ _;have h9:=h8.dk.JE;obtain⟨q0,q1,q2,q3,q4,q5,-,-⟩:=EQ.out;rw[q0,q1,q2,q3,q4,q5,ed]at h9;rw[hz];have hu2:m.up=true:=by have hu':=Hu.out;rw[HR.out]at hu';exact hu'
  rw[show r.nm=m.nm from by rw[HR.out],show r.ck=m.ck+rate from by rw[HR.out],show r.kn=m.kn from by rw[HR.out],show r.se=m.se from by rw[HR.out]]at h9;show ef w8 d #[.string m.nm,.bool m.up,.int .i64 (m.ck+rate),.bool m.kn,.int .i64 m.se,_,_,_,_,_,_,_,_] _ _ _ _ _ _ _ _;rw[hu2];exact h9
 have kv:w8.cell? ⟨w5.heap.size,0,none⟩=some v8:=by have:=h8.sn;rw[PI]at this;exact this
 obtain⟨a8,c8,EB⟩:=Pc.Sl.shape (Pc.Sl.bE h8.ow);have P8:Hid (Pc.Sl w8 v8 (gG (m.ck+rate) m l).2 (d+1)):=by show Pc.Sl _ _ _ _;have:=Pc.Sl.bE h8.ow;rw[ed]at this;exact this
 have B8:Hid (Below w5.heap.size w5 w8):=by have:=h8.bl;rw[EQ.out.2.2.2.2.2.2.2]at this;exact this
 obtain⟨out,hout⟩:∃out,out=(gG (m.ck+rate) m l).2:=⟨_,rfl⟩
 have PK:Hid (out=(gG (m.ck+rate) m l).2):=hout;have T8:Hid (w8.there (w.heap.size+1) 0 9):=bd S5.out.d Sq B8.out;have Sr:Hid (Below w.heap.size w w8):=af S5.out.e B8.out;rw[<-hout]at P8;have hlo:(Ml (m.ck+rate) m l).cs.length=out.length:=by rw[hout];rfl
 rw[hlo]at EB;subst EB;have IW:w.heap.size+1<w8.heap.size:=Nat.lt_of_lt_of_le Sq B8.out.size;have hsw:w5.heap.size<w8.heap.size:=by have:=H8.out.dk.l;have:=H8.out.od;rw[PI]at this;omega
 have hdw:w.heap.size+1<d:=by omega
 have KV:Hid (∀y,Below w8.heap.size w8 y->y.cell? ⟨w5.heap.size,0,none⟩=some (ai a8 out c8)):=fun y hy=>(hy.cell (p:=⟨w5.heap.size,0,none⟩) hsw).trans kv;clear h8 hz hout kv hlo
 go_upto_region 14 with(fail)
 refine wp_region_noPanic ?_;refine wp_region_held_drew (S:=fun y=>y.cell? ⟨w5.heap.size,0,none⟩=some (ai a8 out c8)) (by kernel_rfl) (KV.out _ bD) (fun hHeld=>?_);refine aF 0 ?_;refine aF 2 ?_;try simp only[sp]
 refine dJ 1 (by kernel_rfl) rfl fun K hK=>?_
 go_simp
 refine(fk z _ _ _ _ _ _ _ _ _ _ _ _ d m1 m2 m3 m4 _ (DZ.out.keep bD) (kJ VZ.out) (dO VZ.out).s1 (dO VZ.out).s2 (dO VZ.out).s3 (dO VZ.out).s4).mono ?_;rintro e w9 ⟨⟨s1,s2,s3,s4,rfl,rr,cp⟩,c9⟩;obtain⟨a1,p1,a2,p2,a3,p3,a4,p4,hs1,hs2,hs3,hs4⟩:=rr.shapes;subst hs1 hs2 hs3 hs4;have c8:Below w8.heap.size w8 w9:=af bD c9;have C8:Hid (Below w8.heap.size w8 w9):=c8;have R9:Hid (dI w9 z (ai a1 z.ws p1) (ai a2 z.rs p2) (ai a3 z.qs p3) (ai a4 z.gs p4) w8.heap.size):=rr;have CP:Hid (gU (ai a1 z.ws p1)):=cp;have T9:Hid (w9.there (w.heap.size+1) 0 9):=bd T8.out IW c8;have P9:Hid (Pc.Sl w9 _ out (d+1)):=P8.out.keep c8;have ho:=ones z R9.out.a1 R9.out.a2 R9.out.a3 R9.out.a4;clear rr cp c9 c8;go_wp2_with fail
 refine hK.out _ _ (KV.out _ C8.out) (fun hH1=>?_);clear hK K;try simp only[sp]
 refine dJ 3 (by kernel_rfl) rfl fun K hK=>?_;refine bF (by rfl) ?_;refine wp_store_mid 27 _ _ (by rfl) (w.heap.size+1) 0 (bK z a1 a2 a3 a4 p1 p2 p3 p4) (by rfl) (by rfl) (by exact T9.out) hinfo (by exact all_oneCell_toArray ho) ?_;have E6:Ex (w.heap.size+1) w9 (w9.setCells (w.heap.size+1) 0 (kg z a1 a2 a3 a4 p1 p2 p3 p4)):=(Ex.refl _ _).cells _ _;refine hK.out _ _ ((E6.cell (p:=⟨w5.heap.size,0,none⟩) (Nat.lt_of_lt_of_le hsw C8.out.size) (by show w5.heap.size≠_;omega)).trans (KV.out _ C8.out)) (fun hH2=>?_);clear hK K;try simp only[sp]
 refine aF 4 ?_;try simp only[sp]
 refine wpAnyH_done (by kernel_rfl) ?_ _;refine NoPanic.normal ?_;clear hH1 hH2;have hrg:=World.rangeAt_setCells_same w9 (w.heap.size+1) 0 (kg z a1 a2 a3 a4 p1 p2 p3 p4) T9.out;obtain⟨d0,d1,d2,d3,d4,d5,d6,d7,d8⟩:=d9 hrg;go_wp2_with fail
 exact bodyPost_ret (v:=.tuple #[.agg (bK z a1 a2 a3 a4 p1 p2 p3 p4),.slice a8 out.length c8]) (by simp[results,results5,go_sem,d0,d1,d2,d3,d4,d5,d6,d7,d8]) rfl ⟨⟨z,_,_,_,_,_,out,rfl,Or.inl ⟨hv.out,by rw[Nu.out,HZ.out,PK.out]⟩,(R9.out.ex E6 IW).low (by have:=Sr.out.size;omega),CP.out,(P9.out.ex E6 (by omega)).low (by omega)⟩,Ex.mono (af Sr.out C8.out) E6 (by omega)⟩
set_option maxHeartbeats 4000000
theorem AZ(m:aj)(p:bI)(x1 x2 x3 x4 x5:Option Addr)(n1 n2 n3 n4 n5:Nat)(w:World):Sp w (bK m x1 x2 x3 x4 n1 n2 n3 n4) (cw p.k p.b p.s (ai x5 p.ws n5) p.h p.c p.t) (((w.alloc (.cells (bK m x1 x2 x3 x4 n1 n2 n3 n4) 27)).alloc (.cells (cw p.k p.b p.s (ai x5 p.ws n5) p.h p.c p.t) 43)).alloc (.cells iU 27)):=
 ⟨fun k=>by simp[go_sem],fun k=>by simp[go_sem],fun k=>by simp[go_sem],fun k=>by simp[go_sem],fun j hj=>⟨by simp[go_sem]<;>omega,by simp[go_sem]⟩,ae (ae (ae bR _) _) _,by simp⟩
theorem xE(m:aj)(p:bI)(x1 x2 x3 x4 x5:Option Addr)(n1 n2 n3 n4 n5:Nat)(w:World)(hL:gx w m x1 x2 x3 x4 n1 n2 n3 n4)(hf:m.fits)(hR:W.Src w x5 n5 p.ws)(h5:p.ws.length<=n5)(hp:p.fits):
  Calls prog 14 #[.agg (bK m x1 x2 x3 x4 n1 n2 n3 n4),.agg (cw p.k p.b p.s (ai x5 p.ws n5) p.h p.c p.t)] w fun e w'=>(∃r s1 s2 s3 s4,e=.returned (.agg (bY r.nm r.up r.ck r.kn r.se s1 s2 s3 s4))/\Takes m p r/\dI w' r s1 s2 s3 s4 w.heap.size/\gU s1)/\Below w.heap.size w w':=by
 have S0:=ah (AZ m p x1 x2 x3 x4 x5 n1 n2 n3 n4 n5 w);have hinfo:(prog.info? 27).map (·.size)=some 9:=by kernel_rfl
 have HR:=ah hR;have HP:=ah hp;clear hR hp;go_enter func14,ntmps14
 go_wp2_with fail
 refine(gF m x1 x2 x3 x4 n1 n2 n3 n4 _ (hL.keep S0.out.e).lists hL.cap hf).mono ?_;rintro e w1 ⟨⟨q,rfl,hq⟩,c1⟩;have S1:=ah (S0.out.below c1);have Hq:=ah hq;clear hq c1;have ka:=S1.out.b;have kf:=S1.out.c;have kp:=S1.out.b2;have kq:=S1.out.c2;cases q
 ·
  go_wp2_with (refine wpList_store_mid (by rfl) 27 _ _ (by rfl) (w.heap.size+2) 0 iU (by rfl) (by rfl) (by exact S1.out.d) hinfo (by exact all_oneCell_toArray (iH)) ?_)
  have hrg:=World.rangeAt_setCells_same w1 (w.heap.size+2) 0 (dP ⟨#[]⟩ false 0 false 0 (.slice none 0 0) (.slice none 0 0) (.slice none 0 0) (.slice none 0 0)) S1.out.d;obtain⟨d0,d1,d2,d3,d4,d5,d6,d7,d8⟩:=d9 hrg;exact bodyPost_ret (v:=.agg iU) (by simp[results,results14,go_sem,d0,d1,d2,d3,d4,d5,d6,d7,d8]) rfl ⟨⟨ju,_,_,_,_,rfl,Or.inr ⟨dA Hq.out,rfl⟩,jw _ _,mZ⟩,S1.out.put _⟩
 have hv:=ah (Hq.out.1 rfl);clear Hq;obtain⟨v,hu⟩:∃v,m.up=v:=⟨_,rfl⟩
 have Hu:=ah hu;unfold bK at ka;rw[hu]at ka;clear hu;cases v
 ·
  go_wp2_with fail
  have F:=jf m x1 x2 x3 x4 n1 n2 n3 n4 w1 (hL.keep S1.out.e) hf;unfold bK at F;rw[Hu.out]at F;refine F.mono ?_;clear F;rintro e w2 ⟨⟨s1,s2,s3,s4,rfl,rr,cp⟩,c2⟩;have S2:=ah (S1.out.below c2);clear c2 ka kf kp kq;obtain⟨a1,p1,hs1⟩:=W.Sl.shape rr.a1;obtain⟨a2,p2,hs2⟩:=Sl.shape rr.a2;obtain⟨a3,p3,hs3⟩:=A.Sl.shape rr.a3;obtain⟨a4,p4,hs4⟩:=A.Sl.shape rr.a4;subst hs1 hs2 hs3 hs4;have R9:=ah rr;have z9:=S1.out.f;have CP:=ah cp;clear rr cp;have ho:=ones m R9.out.a1 R9.out.a2 R9.out.a3 R9.out.a4;rw[Hu.out]at ho;go_wp2_with (refine wpList_store_mid (by rfl) 27 _ _ (by rfl) (w.heap.size+2) 0 (bY m.nm false m.ck m.kn m.se (ai a1 m.ws p1) (ai a2 m.rs p2) (ai a3 m.qs p3) (ai a4 m.gs p4)) (by rfl) (by rfl) (by exact S2.out.d) hinfo (by exact all_oneCell_toArray (ho)) ?_)
  have hrg:=World.rangeAt_setCells_same w2 (w.heap.size+2) 0 (dP m.nm false m.ck m.kn m.se (ai a1 m.ws p1) (ai a2 m.rs p2) (ai a3 m.qs p3) (ai a4 m.gs p4)) S2.out.d;obtain⟨d0,d1,d2,d3,d4,d5,d6,d7,d8⟩:=d9 hrg;exact bodyPost_ret (v:=.agg (bY m.nm false m.ck m.kn m.se (ai a1 m.ws p1) (ai a2 m.rs p2) (ai a3 m.qs p3) (ai a4 m.gs p4))) (by simp[results,results14,go_sem,d0,d1,d2,d3,d4,d5,d6,d7,d8]) rfl ⟨⟨m,_,_,_,_,by rw[Hu.out],Or.inl ⟨hv.out,(iM fun h=>by have:=h.1;rw[Hu.out]at this;cases this).symm⟩,(R9.out.ex ((Ex.refl _ _).cells _ _) z9).low (by omega),CP.out⟩,S2.out.put _⟩
 cases hb:p.b.toList==m.nm.toList
 ·
  go_wp2_with fail
  have F:=jf m x1 x2 x3 x4 n1 n2 n3 n4 w1 (hL.keep S1.out.e) hf;unfold bK at F;rw[Hu.out]at F;refine F.mono ?_;clear F;rintro e w2 ⟨⟨s1,s2,s3,s4,rfl,rr,cp⟩,c2⟩;have S2:=ah (S1.out.below c2);clear c2 ka kf kp kq;obtain⟨a1,p1,hs1⟩:=W.Sl.shape rr.a1;obtain⟨a2,p2,hs2⟩:=Sl.shape rr.a2;obtain⟨a3,p3,hs3⟩:=A.Sl.shape rr.a3;obtain⟨a4,p4,hs4⟩:=A.Sl.shape rr.a4;subst hs1 hs2 hs3 hs4;have R9:=ah rr;have z9:=S1.out.f;have CP:=ah cp;clear rr cp;have ho:=ones m R9.out.a1 R9.out.a2 R9.out.a3 R9.out.a4;rw[Hu.out]at ho;go_wp2_with (refine wpList_store_mid (by rfl) 27 _ _ (by rfl) (w.heap.size+2) 0 (bY m.nm true m.ck m.kn m.se (ai a1 m.ws p1) (ai a2 m.rs p2) (ai a3 m.qs p3) (ai a4 m.gs p4)) (by rfl) (by rfl) (by exact S2.out.d) hinfo (by exact all_oneCell_toArray (ho)) ?_)
  have hrg:=World.rangeAt_setCells_same w2 (w.heap.size+2) 0 (dP m.nm true m.ck m.kn m.se (ai a1 m.ws p1) (ai a2 m.rs p2) (ai a3 m.qs p3) (ai a4 m.gs p4)) S2.out.d;obtain⟨d0,d1,d2,d3,d4,d5,d6,d7,d8⟩:=d9 hrg;exact bodyPost_ret (v:=.agg (bY m.nm true m.ck m.kn m.se (ai a1 m.ws p1) (ai a2 m.rs p2) (ai a3 m.qs p3) (ai a4 m.gs p4))) (by simp[results,results14,go_sem,d0,d1,d2,d3,d4,d5,d6,d7,d8]) rfl ⟨⟨m,_,_,_,_,by rw[Hu.out],Or.inl ⟨hv.out,(iM fun h=>(beq_eq_false_iff_ne.1 hb) h.2).symm⟩,(R9.out.ex ((Ex.refl _ _).cells _ _) z9).low (by omega),CP.out⟩,S2.out.put _⟩
 have HT:Hid (m.up=true/\p.b.toList=m.nm.toList):=⟨Hu.out,by simpa using hb⟩
 have HS:=ah (dO hv.out);go_wp2_with fail
 have F:=vR m x1 x2 x3 x4 n1 n2 n3 n4 w1 (hL.keep S1.out.e) hf HS.out.s1 HS.out.s2 HS.out.s3 HS.out.s4;unfold bK at F;rw[Hu.out]at F;refine F.mono ?_;clear F;rintro e w2 ⟨⟨d,m1,m2,m3,m4,rfl,dk0,⟨o0,o1,o2,o3,o4⟩⟩,c2⟩;obtain⟨k2,a2,ho2⟩:=dk0.o2;have dk:=dk0.JE;clear dk0;have S2:=ah (S1.out.below c2);have DK:Hid (ef w2 d #[.string m.nm,.bool m.up,.int .i64 m.ck,.bool m.kn,.int .i64 m.se,.slice x1 m.ws.length n1,.slice x2 m.rs.length n2,.slice x3 m.qs.length n3,.slice x4 m.gs.length n4,.map (some m1),.map (some m2),.map (some m3),.map (some m4)] m1 m2 m3 m4 m.ws m.rs m.qs m.gs):=by rw[Hu.out];exact dk
 have HO:=ah ho2;have hz:w.heap.size+2<m1:=Nat.lt_of_lt_of_le S1.out.f o0;clear dk ho2 c2 ka kf kp kq;have ka:=S2.out.b;have kf:=S2.out.c;have kp:=S2.out.b2;have kq:=S2.out.c2;by_cases k1:p.k=1
 ·
  rw[k1]at kp;go_wp2_with fail
  have F:=Ft m p _ _ _ _ _ _ _ _ _ _ _ _ d m1 m2 m3 m4 x5 n5 _ DK.out (by omega) (by omega) (by omega) (by omega) (HR.out.keep S2.out.e) h5 (fun g hg=>by have:=HR.out.lt g hg;omega) HP.out;rw[k1]at F;refine F.mono ?_;clear F;rintro e w3 ⟨rfl,dk,c3⟩;have S3:Hid (Sp w (bK m x1 x2 x3 x4 n1 n2 n3 n4) (cw p.k p.b p.s (ai x5 p.ws n5) p.h p.c p.t) w3):=S2.out.ex c3 (by omega);clear c3 ka kf kp kq;rcases dk with⟨hh,IL,dk⟩|⟨hh,dk⟩
  ·
   have Ia:=ah dk;have HH:=ah hh;clear dk hh;obtain⟨r,hr⟩:∃r:aj,r=⟨m.nm,m.up,m.ck,true,p.s,p.ws,m.rs,m.qs,m.gs⟩:=⟨_,rfl⟩
   have Hr:=ah hr;have DR:Hid (ef w3 d #[.string r.nm,.bool r.up,.int .i64 r.ck,.bool r.kn,.int .i64 r.se,.slice x1 m.ws.length n1,.slice x2 m.rs.length n2,.slice x3 m.qs.length n3,.slice x4 m.gs.length n4,.map (some IL),.map (some m2),.map (some m3),.map (some m4)] IL m2 m3 m4 r.ws r.rs r.qs r.gs):=(by rw[hr];exact Ia.out);have FR:Hid r.fits:=(by rw[hr];exact A1 hf HP.out);have SR:Hid (mq r):=(by rw[hr];exact A2 HS.out HH.out);clear hr;go_wp2_with fail
   refine(fk r _ _ _ _ _ _ _ _ _ _ _ _ d IL m2 m3 m4 _ DR.out FR.out SR.out.s1 SR.out.s2 SR.out.s3 SR.out.s4).mono ?_;rintro e w9 ⟨⟨v1,v2,v3,v4,rfl,rr,cp⟩,c9⟩;have S9:=ah (S3.out.below c9);clear c9;obtain⟨a1,p1,hs1⟩:=W.Sl.shape rr.a1;obtain⟨a2,p2,hs2⟩:=Sl.shape rr.a2;obtain⟨a3,p3,hs3⟩:=A.Sl.shape rr.a3;obtain⟨a4,p4,hs4⟩:=A.Sl.shape rr.a4;subst hs1 hs2 hs3 hs4;have R9:=ah rr;have z9:=S3.out.f;have CP:=ah cp;clear rr cp;have ho:=ones r R9.out.a1 R9.out.a2 R9.out.a3 R9.out.a4
   skip
   go_wp2_with (refine wpList_store_mid (by rfl) 27 _ _ (by rfl) (w.heap.size+2) 0 (bK r a1 a2 a3 a4 p1 p2 p3 p4) (by rfl) (by rfl) (by exact S9.out.d) hinfo (by exact all_oneCell_toArray (ho)) ?_)
   have hrg:=World.rangeAt_setCells_same w9 (w.heap.size+2) 0 (kg r a1 a2 a3 a4 p1 p2 p3 p4) S9.out.d;obtain⟨d0,d1,d2,d3,d4,d5,d6,d7,d8⟩:=d9 hrg;exact bodyPost_ret (v:=.agg (bK r a1 a2 a3 a4 p1 p2 p3 p4)) (by simp[results,results14,go_sem,d0,d1,d2,d3,d4,d5,d6,d7,d8]) rfl ⟨⟨r,_,_,_,_,rfl,Or.inl ⟨hv.out,Hr.out.trans (jQ HT.out k1 HH.out).symm⟩,(R9.out.ex ((Ex.refl _ _).cells _ _) z9).low (by omega),CP.out⟩,S9.out.put _⟩
  have Ia:=ah dk;have HH:=ah hh;clear dk hh;obtain⟨r,hr⟩:∃r:aj,r=m:=⟨_,rfl⟩
  have Hr:=ah hr;have DR:Hid (ef w3 d #[.string r.nm,.bool r.up,.int .i64 r.ck,.bool r.kn,.int .i64 r.se,.slice x1 m.ws.length n1,.slice x2 m.rs.length n2,.slice x3 m.qs.length n3,.slice x4 m.gs.length n4,.map (some m1),.map (some m2),.map (some m3),.map (some m4)] m1 m2 m3 m4 r.ws r.rs r.qs r.gs):=by rw[hr];exact Ia.out
  have FR:Hid r.fits:=by rw[hr];exact hf
  have SR:Hid (mq r):=by rw[hr];exact HS.out
  clear hr;go_wp2_with fail
  refine(fk r _ _ _ _ _ _ _ _ _ _ _ _ d m1 m2 m3 m4 _ DR.out FR.out SR.out.s1 SR.out.s2 SR.out.s3 SR.out.s4).mono ?_;rintro e w9 ⟨⟨v1,v2,v3,v4,rfl,rr,cp⟩,c9⟩;have S9:=ah (S3.out.below c9);clear c9;obtain⟨a1,p1,hs1⟩:=W.Sl.shape rr.a1;obtain⟨a2,p2,hs2⟩:=Sl.shape rr.a2;obtain⟨a3,p3,hs3⟩:=A.Sl.shape rr.a3;obtain⟨a4,p4,hs4⟩:=A.Sl.shape rr.a4;subst hs1 hs2 hs3 hs4;have R9:=ah rr;have z9:=S3.out.f;have CP:=ah cp;clear rr cp;have ho:=ones r R9.out.a1 R9.out.a2 R9.out.a3 R9.out.a4
  skip
  go_wp2_with (refine wpList_store_mid (by rfl) 27 _ _ (by rfl) (w.heap.size+2) 0 (bK r a1 a2 a3 a4 p1 p2 p3 p4) (by rfl) (by rfl) (by exact S9.out.d) hinfo (by exact all_oneCell_toArray (ho)) ?_)
  have hrg:=World.rangeAt_setCells_same w9 (w.heap.size+2) 0 (kg r a1 a2 a3 a4 p1 p2 p3 p4) S9.out.d;obtain⟨d0,d1,d2,d3,d4,d5,d6,d7,d8⟩:=d9 hrg;exact bodyPost_ret (v:=.agg (bK r a1 a2 a3 a4 p1 p2 p3 p4)) (by simp[results,results14,go_sem,d0,d1,d2,d3,d4,d5,d6,d7,d8]) rfl ⟨⟨r,_,_,_,_,rfl,Or.inl ⟨hv.out,Hr.out.trans (iN HT.out k1 HH.out).symm⟩,(R9.out.ex ((Ex.refl _ _).cells _ _) z9).low (by omega),CP.out⟩,S9.out.put _⟩
 by_cases k3:p.k=3
 ·
  rw[k3]at kp;go_wp2_with fail
  have F:=wH m p _ _ _ _ _ _ _ _ _ _ _ _ d m1 m2 m3 m4 x5 n5 _ DK.out o1 o2 o3 o4 HP.out HS.out.s2 HS.out.s3 (mA hv.out) k2 a2 HO.out;rw[k3]at F;refine F.mono ?_;clear F;rintro e w3 ⟨rfl,dk,c3⟩;have S3:Hid (Sp w (bK m x1 x2 x3 x4 n1 n2 n3 n4) (cw p.k p.b p.s (ai x5 p.ws n5) p.h p.c p.t) w3):=S2.out.ex c3 (by omega);have Ia:=ah dk;clear dk c3 ka kf kp kq;obtain⟨r,hr⟩:∃r:aj,r=⟨m.nm,m.up,m.ck,m.kn,m.se,m.ws,fG m.qs p m.rs,m.qs,m.gs⟩:=⟨_,rfl⟩
  have Hr:=ah hr;have DR:Hid (ef w3 d #[.string r.nm,.bool r.up,.int .i64 r.ck,.bool r.kn,.int .i64 r.se,.slice x1 m.ws.length n1,.slice x2 m.rs.length n2,.slice x3 m.qs.length n3,.slice x4 m.gs.length n4,.map (some m1),.map (some m2),.map (some m3),.map (some m4)] m1 m2 m3 m4 r.ws r.rs r.qs r.gs):=by rw[hr];exact Ia.out
  have FR:Hid r.fits:=by rw[hr];exact yb hf
  have SR:Hid (mq r):=by rw[hr];exact yc HS.out
  clear hr;go_wp2_with fail
  refine(fk r _ _ _ _ _ _ _ _ _ _ _ _ d m1 m2 m3 m4 _ DR.out FR.out SR.out.s1 SR.out.s2 SR.out.s3 SR.out.s4).mono ?_;rintro e w9 ⟨⟨v1,v2,v3,v4,rfl,rr,cp⟩,c9⟩;have S9:=ah (S3.out.below c9);clear c9;obtain⟨a1,p1,hs1⟩:=W.Sl.shape rr.a1;obtain⟨a2,p2,hs2⟩:=Sl.shape rr.a2;obtain⟨a3,p3,hs3⟩:=A.Sl.shape rr.a3;obtain⟨a4,p4,hs4⟩:=A.Sl.shape rr.a4;subst hs1 hs2 hs3 hs4;have R9:=ah rr;have z9:=S3.out.f;have CP:=ah cp;clear rr cp;have ho:=ones r R9.out.a1 R9.out.a2 R9.out.a3 R9.out.a4
  skip
  go_wp2_with (refine wpList_store_mid (by rfl) 27 _ _ (by rfl) (w.heap.size+2) 0 (bK r a1 a2 a3 a4 p1 p2 p3 p4) (by rfl) (by rfl) (by exact S9.out.d) hinfo (by exact all_oneCell_toArray (ho)) ?_)
  have hrg:=World.rangeAt_setCells_same w9 (w.heap.size+2) 0 (kg r a1 a2 a3 a4 p1 p2 p3 p4) S9.out.d;obtain⟨d0,d1,d2,d3,d4,d5,d6,d7,d8⟩:=d9 hrg;exact bodyPost_ret (v:=.agg (bK r a1 a2 a3 a4 p1 p2 p3 p4)) (by simp[results,results14,go_sem,d0,d1,d2,d3,d4,d5,d6,d7,d8]) rfl ⟨⟨r,_,_,_,_,rfl,Or.inl ⟨hv.out,Hr.out.trans (fA HT.out k3).symm⟩,(R9.out.ex ((Ex.refl _ _).cells _ _) z9).low (by omega),CP.out⟩,S9.out.put _⟩
 by_cases k5:p.k=5
 ·
  rw[k5]at kp;go_wp2_with fail
  have F:=yR m p _ _ _ _ _ _ _ _ _ _ _ _ d m1 m2 m3 m4 x5 n5 _ DK.out o1 o2 o3 o4 HP.out HS.out.s4;rw[k5]at F;refine F.mono ?_;clear F;rintro e w3 ⟨rfl,dk,c3⟩;have S3:Hid (Sp w (bK m x1 x2 x3 x4 n1 n2 n3 n4) (cw p.k p.b p.s (ai x5 p.ws n5) p.h p.c p.t) w3):=S2.out.ex c3 (by omega);have Ia:=ah dk;clear dk c3 ka kf kp kq;obtain⟨r,hr⟩:∃r:aj,r=⟨m.nm,m.up,m.ck,m.kn,m.se,m.ws,m.rs,m.qs,jY m.gs p.h p.t⟩:=⟨_,rfl⟩
  have Hr:=ah hr;have DR:Hid (ef w3 d #[.string r.nm,.bool r.up,.int .i64 r.ck,.bool r.kn,.int .i64 r.se,.slice x1 m.ws.length n1,.slice x2 m.rs.length n2,.slice x3 m.qs.length n3,.slice x4 m.gs.length n4,.map (some m1),.map (some m2),.map (some m3),.map (some m4)] m1 m2 m3 m4 r.ws r.rs r.qs r.gs):=by rw[hr];exact Ia.out
  have FR:Hid r.fits:=by rw[hr];exact A4 hf
  have SR:Hid (mq r):=by rw[hr];exact tP HS.out
  clear hr;go_wp2_with fail
  refine(fk r _ _ _ _ _ _ _ _ _ _ _ _ d m1 m2 m3 m4 _ DR.out FR.out SR.out.s1 SR.out.s2 SR.out.s3 SR.out.s4).mono ?_;rintro e w9 ⟨⟨v1,v2,v3,v4,rfl,rr,cp⟩,c9⟩;have S9:=ah (S3.out.below c9);clear c9;obtain⟨a1,p1,hs1⟩:=W.Sl.shape rr.a1;obtain⟨a2,p2,hs2⟩:=Sl.shape rr.a2;obtain⟨a3,p3,hs3⟩:=A.Sl.shape rr.a3;obtain⟨a4,p4,hs4⟩:=A.Sl.shape rr.a4;subst hs1 hs2 hs3 hs4;have R9:=ah rr;have z9:=S3.out.f;have CP:=ah cp;clear rr cp;have ho:=ones r R9.out.a1 R9.out.a2 R9.out.a3 R9.out.a4
  skip
  go_wp2_with (refine wpList_store_mid (by rfl) 27 _ _ (by rfl) (w.heap.size+2) 0 (bK r a1 a2 a3 a4 p1 p2 p3 p4) (by rfl) (by rfl) (by exact S9.out.d) hinfo (by exact all_oneCell_toArray (ho)) ?_)
  have hrg:=World.rangeAt_setCells_same w9 (w.heap.size+2) 0 (kg r a1 a2 a3 a4 p1 p2 p3 p4) S9.out.d;obtain⟨d0,d1,d2,d3,d4,d5,d6,d7,d8⟩:=d9 hrg;exact bodyPost_ret (v:=.agg (bK r a1 a2 a3 a4 p1 p2 p3 p4)) (by simp[results,results14,go_sem,d0,d1,d2,d3,d4,d5,d6,d7,d8]) rfl ⟨⟨r,_,_,_,_,rfl,Or.inl ⟨hv.out,Hr.out.trans (iO HT.out k5).symm⟩,(R9.out.ex ((Ex.refl _ _).cells _ _) z9).low (by omega),CP.out⟩,S9.out.put _⟩
 obtain⟨r,hr⟩:∃r:aj,r=m:=⟨_,rfl⟩
 have Hr:=ah hr;have DR:Hid (ef w2 d #[.string r.nm,.bool r.up,.int .i64 r.ck,.bool r.kn,.int .i64 r.se,.slice x1 m.ws.length n1,.slice x2 m.rs.length n2,.slice x3 m.qs.length n3,.slice x4 m.gs.length n4,.map (some m1),.map (some m2),.map (some m3),.map (some m4)] m1 m2 m3 m4 r.ws r.rs r.qs r.gs):=by rw[hr];exact DK.out
 have FR:Hid r.fits:=by rw[hr];exact hf
 have SR:Hid (mq r):=by rw[hr];exact HS.out
 clear hr;go_wp2_with fail
 refine(fk r _ _ _ _ _ _ _ _ _ _ _ _ d m1 m2 m3 m4 _ DR.out FR.out SR.out.s1 SR.out.s2 SR.out.s3 SR.out.s4).mono ?_;rintro e w9 ⟨⟨v1,v2,v3,v4,rfl,rr,cp⟩,c9⟩;have S9:=ah (S2.out.below c9);clear c9;obtain⟨a1,p1,hs1⟩:=W.Sl.shape rr.a1;obtain⟨a2,p2,hs2⟩:=Sl.shape rr.a2;obtain⟨a3,p3,hs3⟩:=A.Sl.shape rr.a3;obtain⟨a4,p4,hs4⟩:=A.Sl.shape rr.a4;subst hs1 hs2 hs3 hs4;have R9:=ah rr;have z9:=S2.out.f;have CP:=ah cp;clear rr cp;have ho:=ones r R9.out.a1 R9.out.a2 R9.out.a3 R9.out.a4
 skip
 go_wp2_with (refine wpList_store_mid (by rfl) 27 _ _ (by rfl) (w.heap.size+2) 0 (bK r a1 a2 a3 a4 p1 p2 p3 p4) (by rfl) (by rfl) (by exact S9.out.d) hinfo (by exact all_oneCell_toArray (ho)) ?_)
 have hrg:=World.rangeAt_setCells_same w9 (w.heap.size+2) 0 (kg r a1 a2 a3 a4 p1 p2 p3 p4) S9.out.d;obtain⟨d0,d1,d2,d3,d4,d5,d6,d7,d8⟩:=d9 hrg;exact bodyPost_ret (v:=.agg (bK r a1 a2 a3 a4 p1 p2 p3 p4)) (by simp[results,results14,go_sem,d0,d1,d2,d3,d4,d5,d6,d7,d8]) rfl ⟨⟨r,_,_,_,_,rfl,Or.inl ⟨hv.out,Hr.out.trans (kN k1 k3 k5).symm⟩,(R9.out.ex ((Ex.refl _ _).cells _ _) z9).low (by omega),CP.out⟩,S9.out.put _⟩
end Go.Proofs.YtlfnpjcjapljpaaGreatDoor
