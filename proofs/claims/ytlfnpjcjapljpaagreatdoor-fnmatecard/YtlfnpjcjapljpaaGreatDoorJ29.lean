import Derived.Test.YtlfnpjcjapljpaaGreatDoorJ26
import Derived.Test.YtlfnpjcjapljpaaGreatDoorJ27
namespace Go.Proofs.YtlfnpjcjapljpaaGreatDoor
open Go.Maps Go.Proofs.Tryz Go.RowKit Go.WideMaps
set_option maxRecDepth 4000
set_option maxHeartbeats 2000000
set_option linter.unusedVariables false
structure Dk(w:World)(d:Nat)(O:Array Value)(m1 m2 m3 m4 N:Nat)(ws:List W.ay)(rs:List aw)(qs gs:List A.aC):Prop where
 c:∀k,w.cell? ⟨d,k,none⟩=O[k]?
 f:∀k,w.frozen? ⟨d,k,none⟩=false
 l:d<w.heap.size
 o1:∃n,n<=N/\w.ownsMap prog 9 W.RV m1 n (W.dec ws)
 o2:∃n,n<=N/\w.ownsMap prog 9 RV m2 n (dec rs)
 o3:∃n,n<=N/\w.ownsMap prog 9 A.RV m3 n (A.dec qs)
 o4:∃n,n<=N/\w.ownsMap prog 9 A.RV m4 n (A.dec gs)
theorem Dk.JE{w:World}{d:Nat}{O:Array Value}{m1 m2 m3 m4 N:Nat}{ws:List W.ay}{rs:List aw}{qs gs:List A.aC}(h:Dk w d O m1 m2 m3 m4 N ws rs qs gs):ef w d O m1 m2 m3 m4 ws rs qs gs:=by obtain⟨n1,-,o1⟩:=h.o1;obtain⟨n2,-,o2⟩:=h.o2;obtain⟨n3,-,o3⟩:=h.o3;obtain⟨n4,-,o4⟩:=h.o4;exact⟨h.c,h.f,h.l,⟨n1,o1⟩,⟨n2,o2⟩,⟨n3,o3⟩,⟨n4,o4⟩⟩
theorem Dk.keep{w w':World}{d:Nat}{O:Array Value}{m1 m2 m3 m4 N:Nat}{ws:List W.ay}{rs:List aw}{qs gs:List A.aC}(h:Dk w d O m1 m2 m3 m4 N ws rs qs gs)(hb:Below w.heap.size w w'):Dk w' d O m1 m2 m3 m4 N ws rs qs gs:=by obtain⟨n1,b1,o1⟩:=h.o1;obtain⟨n2,b2,o2⟩:=h.o2;obtain⟨n3,b3,o3⟩:=h.o3;obtain⟨n4,b4,o4⟩:=h.o4;exact⟨fun j=>(hb.cell (p:=⟨d,j,none⟩) h.l).trans (h.c j),fun j=>(hb.frozen (p:=⟨d,j,none⟩) h.l).trans (h.f j),Nat.lt_of_lt_of_le h.l hb.size,⟨n1,b1,W.aS o1 hb⟩,⟨n2,b2,aS o2 hb⟩,⟨n3,b3,A.aS o3 hb⟩,⟨n4,b4,A.aS o4 hb⟩⟩
theorem Dk.more{w:World}{d:Nat}{O:Array Value}{m1 m2 m3 m4 N M:Nat}{ws:List W.ay}{rs:List aw}{qs gs:List A.aC}(h:Dk w d O m1 m2 m3 m4 N ws rs qs gs)(hM:N<=M):Dk w d O m1 m2 m3 m4 M ws rs qs gs:=by obtain⟨n1,b1,o1⟩:=h.o1;obtain⟨n2,b2,o2⟩:=h.o2;obtain⟨n3,b3,o3⟩:=h.o3;obtain⟨n4,b4,o4⟩:=h.o4;exact⟨h.c,h.f,h.l,⟨n1,by omega,o1⟩,⟨n2,by omega,o2⟩,⟨n3,by omega,o3⟩,⟨n4,by omega,o4⟩⟩
theorem W.fH(a:Option Addr)(cap:Nat)(w:World):
  Calls prog 69 #[.slice a 0 cap,.func (.func 70) #[] #[]] w fun e w'=>e=.returned (.map (some w.heap.size))/\w'.ownsMap prog 9 W.RV w.heap.size 0 (W.dec [])/\Below w.heap.size w w':=by
 have hmm:∀w:World,Sem.run prog (Instr.makeMap 102 (some (.int .i64 0))) w=.ok (.map (some w.heap.size)) (w.alloc (.map #[] 0)):=W.eQ 0;go_enter func69,ntmps69
 go_wp2
 clear hmm;refine wp_loop_rounds 1 ?_;rw[rounds_succ];go_wp2
 go_ret
 exact⟨rfl,World.ownsMap_made _ _ _ _,ae bR _⟩
theorem W.fF(a:Option Addr)(cap:Nat)(rs:List W.ay)(w:World)(h:W.Gv w a rs)(hfit:∀r∈rs,r.c.size<=maxLen)(hl:rs.length<=1048576)(hs:W.dx rs):
  Calls prog 69 #[.slice a rs.length cap,.func (.func 70) #[] #[]] w fun e w'=>e=.returned (.map (some w.heap.size))/\w'.ownsMap prog 9 W.RV w.heap.size rs.length (W.dec rs)/\Below w.heap.size w w':=by
 rcases h with rfl|⟨b,rfl,hb,hR⟩;·exact W.fH a cap w
 ·exact W.kW b 0 cap rs w hR hb hfit hl hs
theorem fH(a:Option Addr)(cap:Nat)(w:World):
  Calls prog 71 #[.slice a 0 cap,.func (.func 72) #[] #[]] w fun e w'=>e=.returned (.map (some w.heap.size))/\w'.ownsMap prog 9 RV w.heap.size 0 (dec [])/\Below w.heap.size w w':=by
 have hmm:∀w:World,Sem.run prog (Instr.makeMap 105 (some (.int .i64 0))) w=.ok (.map (some w.heap.size)) (w.alloc (.map #[] 0)):=eQ 0;go_enter func71,ntmps71
 go_wp2
 clear hmm;refine wp_loop_rounds 1 ?_;rw[rounds_succ];go_wp2
 go_ret
 exact⟨rfl,World.ownsMap_made _ _ _ _,ae bR _⟩
theorem fF(a:Option Addr)(cap:Nat)(rs:List aw)(w:World)(h:Gv w a rs)(hfit:∀r∈rs,r.c.size<=maxLen)(hl:rs.length<=1048576)(hs:dx rs):
  Calls prog 71 #[.slice a rs.length cap,.func (.func 72) #[] #[]] w fun e w'=>e=.returned (.map (some w.heap.size))/\w'.ownsMap prog 9 RV w.heap.size rs.length (dec rs)/\Below w.heap.size w w':=by
 rcases h with rfl|⟨b,rfl,hb,hR⟩;·exact fH a cap w
 ·exact kW b 0 cap rs w hR hb hfit hl hs
theorem A.fH(a:Option Addr)(cap:Nat)(w:World):
  Calls prog 73 #[.slice a 0 cap,.func (.func 74) #[] #[]] w fun e w'=>e=.returned (.map (some w.heap.size))/\w'.ownsMap prog 9 A.RV w.heap.size 0 (A.dec [])/\Below w.heap.size w w':=by
 have hmm:∀w:World,Sem.run prog (Instr.makeMap 108 (some (.int .i64 0))) w=.ok (.map (some w.heap.size)) (w.alloc (.map #[] 0)):=A.eQ 0;go_enter func73,ntmps73
 go_wp2
 clear hmm;refine wp_loop_rounds 1 ?_;rw[rounds_succ];go_wp2
 go_ret
 exact⟨rfl,World.ownsMap_made _ _ _ _,ae bR _⟩
theorem A.fF(a:Option Addr)(cap:Nat)(rs:List A.aC)(w:World)(h:A.Gv w a rs)(hfit:∀r∈rs,r.h.size<=maxLen)(hl:rs.length<=1048576)(hs:A.dx rs):
  Calls prog 73 #[.slice a rs.length cap,.func (.func 74) #[] #[]] w fun e w'=>e=.returned (.map (some w.heap.size))/\w'.ownsMap prog 9 A.RV w.heap.size rs.length (A.dec rs)/\Below w.heap.size w w':=by
 rcases h with rfl|⟨b,rfl,hb,hR⟩;·exact A.fH a cap w
 ·exact A.kW b 0 cap rs w hR hb hfit hl hs
theorem pB{w y:World}{m:aj}{x1 x2 x3 x4:Option Addr}{n1 n2 n3 n4:Nat}(hb:Below (w.alloc (.cells (bK m x1 x2 x3 x4 n1 n2 n3 n4) 27)).heap.size (w.alloc (.cells (bK m x1 x2 x3 x4 n1 n2 n3 n4) 27)) y):Below (w.alloc (.cells (bK m x1 x2 x3 x4 n1 n2 n3 n4) 27)).heap.size (w.alloc (.cells (bK m x1 x2 x3 x4 n1 n2 n3 n4) 27)) y/\(BN y w.heap.size m.nm m.up m.ck m.kn m.se (ai x1 m.ws n1) (ai x2 m.rs n2) (ai x3 m.qs n3) (ai x4 m.gs n4)):=by have hk:=aJ hb;exact⟨hb,by rw[hk 0];simp[go_sem],by rw[hk 1];simp[go_sem],by rw[hk 2];simp[go_sem],by rw[hk 3];simp[go_sem],by rw[hk 4];simp[go_sem],by rw[hk 5];simp[go_sem],by rw[hk 6];simp[go_sem],by rw[hk 7];simp[go_sem],by rw[hk 8];simp[go_sem]⟩
theorem vR(m:aj)(x1 x2 x3 x4:Option Addr)(n1 n2 n3 n4:Nat)(w:World)(hL:gx w m x1 x2 x3 x4 n1 n2 n3 n4)(hf:m.fits)(s1:W.dx m.ws)(s2:dx m.rs)(s3:A.dx m.qs)(s4:A.dx m.gs):
  Calls prog 23 #[.agg (bK m x1 x2 x3 x4 n1 n2 n3 n4)] w fun e w'=>(∃d m1 m2 m3 m4,e=.returned (.pointer (some ⟨d,0,none⟩))/\Dk w' d #[.string m.nm,.bool m.up,.int .i64 m.ck,.bool m.kn,.int .i64 m.se,.slice x1 m.ws.length n1,.slice x2 m.rs.length n2,.slice x3 m.qs.length n3,.slice x4 m.gs.length n4,.map (some m1),.map (some m2),.map (some m3),.map (some m4)] m1 m2 m3 m4 1048576 m.ws m.rs m.qs m.gs/\(w.heap.size<=m1/\m1<m2/\m2<m3/\m3<m4/\m4<d))/\Below w.heap.size w w':=by
 have Hb0:Hid (Below w.heap.size w (w.alloc (.cells (bK m x1 x2 x3 x4 n1 n2 n3 n4) 27))):=ae bR _;have HL:=ah hL;have NH:=ah s1;have BO:=ah s2;have BP:=ah s3;have Et:=ah s4;clear hL s1 s2 s3 s4;go_enter func23,ntmps23
 go_wp2_with fail
 refine wp_region_noPanic ?_;refine wp_region_held_drew (S:=(fun y=>Below (w.alloc (.cells (bK m x1 x2 x3 x4 n1 n2 n3 n4) 27)).heap.size (w.alloc (.cells (bK m x1 x2 x3 x4 n1 n2 n3 n4) 27)) y/\(BN y w.heap.size m.nm m.up m.ck m.kn m.se (ai x1 m.ws n1) (ai x2 m.rs n2) (ai x3 m.qs n3) (ai x4 m.gs n4)))) (by kernel_rfl) (pB bD) (fun hHeld=>?_);refine aF 0 ?_;try simp only[sp]
 refine aF 1 ?_;try simp only[sp]
 refine aF 2 ?_;try simp only[sp]
 refine aF 4 ?_;try simp only[sp]
 refine aF 5 ?_;try simp only[sp]
 refine aF 7 ?_;try simp only[sp]
 refine aF 8 ?_;try simp only[sp]
 refine aF 10 ?_;try simp only[sp]
 refine aF 11 ?_;try simp only[sp]
 refine dJ 3 (by kernel_rfl) rfl fun K hK=>?_
 go_simp
 refine(W.fF x1 _ m.ws _ (HL.out.keep (af Hb0.out bD)).r1.gv (fun r hr=>(hf.f1 r hr).1) hf.k1 NH.out).mono ?_;rintro e y1 ⟨rfl,o1,h1⟩;go_wp2_with fail
 refine hK.out _ _ (pB (af bD h1)) (fun cq=>?_);clear hK K hHeld;try simp only[sp]
 refine dJ 6 (by kernel_rfl) rfl fun K hK=>?_
 go_simp
 refine(fF x2 _ m.rs _ (HL.out.keep (af Hb0.out (af bD h1))).r2.gv (fun r hr=>(hf.f2 r hr).1) hf.k2 BO.out).mono ?_;rintro e y2 ⟨rfl,o2,h2⟩;go_wp2_with fail
 refine hK.out _ _ (pB (af (af bD h1) h2)) (fun ep=>?_);clear hK K cq;try simp only[sp]
 refine dJ 9 (by kernel_rfl) rfl fun K hK=>?_
 go_simp
 refine(A.fF x3 _ m.qs _ (HL.out.keep (af Hb0.out (af (af bD h1) h2))).r3.gv (fun r hr=>(hf.f3 r hr).1) hf.k3 BP.out).mono ?_;rintro e y3 ⟨rfl,o3,h3⟩;go_wp2_with fail
 refine hK.out _ _ (pB (af (af (af bD h1) h2) h3)) (fun uE=>?_);clear hK K ep;try simp only[sp]
 refine dJ 12 (by kernel_rfl) rfl fun K hK=>?_
 go_simp
 refine(A.fF x4 _ m.gs _ (HL.out.keep (af Hb0.out (af (af (af bD h1) h2) h3))).r4.gv (fun r hr=>(hf.f4 r hr).1) hf.k4 Et.out).mono ?_;rintro e y4 ⟨rfl,o4,h4⟩;go_wp2_with fail
 refine hK.out _ _ (pB (af (af (af (af bD h1) h2) h3) h4)) (fun Fw=>?_);clear hK K uE;try simp only[sp]
 refine aF 13 ?_;try simp only[sp]
 refine dJ 14 (by kernel_rfl) rfl fun K hK=>?_
 go_simp
 refine hK.out _ _ (pB (ae (af (af (af (af bD h1) h2) h3) h4) _)) (fun Fy=>?_);clear hK K Fw;try simp only[sp]
 refine aF 15 ?_;try simp only[sp]
 refine wpAnyH_done (by kernel_rfl) ?_ _;refine NoPanic.normal ?_;have E2:=ah h2;have E3:=ah h3;have E4:=ah h4;have E1:Hid (Below w.heap.size w y1):=af Hb0.out (af bD h1);have P1:=ah o1;have P2:=ah o2;have P3:=ah o3;have P4:=ah o4;have z1:w.heap.size<y1.heap.size:=by have:=h1.size;simp at this;omega
 have z0:(w.alloc (.cells (bK m x1 x2 x3 x4 n1 n2 n3 n4) 27)).heap.size<y1.heap.size:=World.ownsMap.lt o1;have z2:y1.heap.size<y2.heap.size:=World.ownsMap.lt o2;have z3:y2.heap.size<y3.heap.size:=World.ownsMap.lt o3;have z4:y3.heap.size<y4.heap.size:=World.ownsMap.lt o4;clear h1 h2 h3 h4 o1 o2 o3 o4 Fy;go_wp2
 go_ret
 exact⟨⟨y4.heap.size,(w.alloc (.cells (bK m x1 x2 x3 x4 n1 n2 n3 n4) 27)).heap.size,y1.heap.size,y2.heap.size,y3.heap.size,rfl,⟨fun k=>by simp[go_sem],fun k=>by simp[go_sem],by simp,
  ⟨_,hf.k1,W.aS P1.out (ae (af (af E2.out E3.out) E4.out) _)⟩,⟨_,hf.k2,aS P2.out (ae (af E3.out E4.out) _)⟩,⟨_,hf.k3,A.aS P3.out (ae E4.out _)⟩,⟨_,hf.k4,A.aS P4.out (ae bR _)⟩⟩,⟨by simp,z0,z2,z3,z4⟩⟩,ae (af (af (af E1.out E2.out) E3.out) E4.out) _⟩
theorem W.Src.Jz{kr:Nat}{w w':World}{a:Option Addr}{c:Nat}{l:List W.ay}(h:W.Src w a c l)(hE:Ex kr w w')(hne:∀g,a=some ⟨g,0,none⟩->g≠kr):W.Src w' a c l:=by
 rcases h with h|⟨g,h1,h2,h3⟩;·exact Or.inl h
 exact Or.inr ⟨g,h1,Nat.lt_of_lt_of_le h2 hE.size,W.aG.Jz h3 h2 hE (hne g h1)⟩
theorem W.Src.lt{w:World}{a:Option Addr}{c:Nat}{l:List W.ay}(h:W.Src w a c l):∀g,a=some ⟨g,0,none⟩->g<w.heap.size:=by
 intro g hg;rcases h with⟨h,-,-⟩|⟨g',h1,h2,-⟩;·rw[h]at hg;cases hg
 rw[h1]at hg;cases hg;exact h2
theorem Ft(m:aj)(p:bI)(x1 x2 x3 x4:Option Addr)(t1 t2 t3 t4 c1 c2 c3 c4:Nat)(d m1 m2 m3 m4:Nat)(x5:Option Addr)(n5:Nat)(w:World)(hD:ef w d #[.string m.nm,.bool m.up,.int .i64 m.ck,.bool m.kn,.int .i64 m.se,.slice x1 t1 c1,.slice x2 t2 c2,.slice x3 t3 c3,.slice x4 t4 c4,.map (some m1),.map (some m2),.map (some m3),.map (some m4)] m1 m2 m3 m4 m.ws m.rs m.qs m.gs)(e1:m1<d)(e2:m2<d)(e3:m3<d)(e4:m4<d)(hR:W.Src w x5 n5 p.ws)(h5:p.ws.length<=n5)(e5:∀g,x5=some ⟨g,0,none⟩->g≠d)(hp:p.fits):
  Calls prog 56 #[.pointer (some ⟨d,0,none⟩),.agg (cw p.k p.b p.s (ai x5 p.ws n5) p.h p.c p.t)] w fun e w'=>e=.returned (.tuple #[])/\((iZ m p/\∃IL,ef w' d #[.string m.nm,.bool m.up,.int .i64 m.ck,.bool true,.int .i64 p.s,.slice x1 t1 c1,.slice x2 t2 c2,.slice x3 t3 c3,.slice x4 t4 c4,.map (some IL),.map (some m2),.map (some m3),.map (some m4)] IL m2 m3 m4 p.ws m.rs m.qs m.gs)\/(¬iZ m p/\ef w' d #[.string m.nm,.bool m.up,.int .i64 m.ck,.bool m.kn,.int .i64 m.se,.slice x1 t1 c1,.slice x2 t2 c2,.slice x3 t3 c3,.slice x4 t4 c4,.map (some m1),.map (some m2),.map (some m3),.map (some m4)] m1 m2 m3 m4 m.ws m.rs m.qs m.gs))/\Ex d w w':=by
 have HD:Hid (ef w d #[.string m.nm,.bool m.up,.int .i64 m.ck,.bool m.kn,.int .i64 m.se,.slice x1 t1 c1,.slice x2 t2 c2,.slice x3 t3 c3,.slice x4 t4 c4,.map (some m1),.map (some m2),.map (some m3),.map (some m4)] m1 m2 m3 m4 m.ws m.rs m.qs m.gs):=hD;have HR:Hid (W.Src w x5 n5 p.ws):=hR;have HP:Hid p.fits:=hp;have Hb0:Hid (Below w.heap.size w (w.alloc (.cells (cw p.k p.b p.s (ai x5 p.ws n5) p.h p.c p.t) 43))):=ae bR _;have hpl:=hp.l;have kc:=hD.c;have kf:=hD.f;have kl:=hD.l;clear hD hR hp;obtain⟨v,hv⟩:∃v,m.kn=v:=⟨_,rfl⟩
 have Hv:Hid (m.kn=v):=hv;rw[hv]at kc;clear hv;cases v
 ·
  go_enter func56,ntmps56
  go_wp2_with fail
  go_quiet (fail)
  cases q2:cA p.s 1 1000000
  ·
   go_wp2_with (go_at_call 19;refine mr (aP _ _ _ _) ?_)
   exact bodyPost_ret (v:=.tuple #[]) (by simp[results,results56,go_sem]) rfl ⟨rfl,Or.inr ⟨fun h=>(by have:=h.2.1;rw[q2]at this;cases this),HD.out.keep (dT Hb0.out)⟩,Ex.of_below (dT Hb0.out)⟩
  go_wp2_with (go_at_call 19;refine mr (aP _ _ _ _) ?_)
  refine(W.gp x5 n5 p.ws _ (HR.out.keep (dT Hb0.out)).gv h5 HP.out.w hpl).mono ?_;rintro e w1 ⟨⟨q,rfl,kq⟩,g1⟩;have K:Hid (W.Says q p.ws):=kq;have B1:Hid (Below w.heap.size w w1):=af (dT Hb0.out) g1;have C1:Hid (Below (w.alloc (.cells (cw p.k p.b p.s (ai x5 p.ws n5) p.h p.c p.t) 43)).heap.size (w.alloc (.cells (cw p.k p.b p.s (ai x5 p.ws n5) p.h p.c p.t) 43)) w1):=af (dT bR) g1;clear kq g1 kc kf;have D1:Hid (ef w1 d #[.string m.nm,.bool m.up,.int .i64 m.ck,.bool m.kn,.int .i64 m.se,.slice x1 t1 c1,.slice x2 t2 c2,.slice x3 t3 c3,.slice x4 t4 c4,.map (some m1),.map (some m2),.map (some m3),.map (some m4)] m1 m2 m3 m4 m.ws m.rs m.qs m.gs):=HD.out.keep B1.out;have kp:=aJ C1.out;have kz:w.heap.size<w1.heap.size:=by have:=C1.out.size;simp at this;omega
  cases q
  ·
   go_wp2
   exact bodyPost_ret (v:=.tuple #[]) (by simp[results,results56,go_sem]) rfl ⟨rfl,Or.inr ⟨fun h=>(by have:=K.out.2 h.2.2;cases this),D1.out⟩,Ex.of_below B1.out⟩
  have G:Hid (p.ws.length<=10/\W.sG p.ws p.ws.length):=K.out.1 rfl;clear K;have kc:=D1.out.c;have kf:=D1.out.f;have kw:=D1.out.l;have F1:m1≠d:=by omega
  have F2:m2≠d:=by omega
  have F3:m3≠d:=by omega
  have F4:m4≠d:=by omega
  have Tc:w.heap.size≠d:=by omega
  have D4:Hid (ef ((w1.setCell ⟨d,3,none⟩ (.bool true)).setCell ⟨d,4,none⟩ (.int .i64 p.s)) d #[.string m.nm,.bool m.up,.int .i64 m.ck,.bool true,.int .i64 p.s,.slice x1 t1 c1,.slice x2 t2 c2,.slice x3 t3 c3,.slice x4 t4 c4,.map (some m1),.map (some m2),.map (some m3),.map (some m4)] m1 m2 m3 m4 m.ws m.rs m.qs m.gs):=(D1.out.set 3 (by simp) (.bool true) F1 F2 F3 F4).set 4 (by simp) (.int .i64 p.s) F1 F2 F3 F4;have E4:Hid (Ex d w1 ((w1.setCell ⟨d,3,none⟩ (.bool true)).setCell ⟨d,4,none⟩ (.int .i64 p.s))):=((Ex.refl _ _).set 3 _).set 4 _;go_wp2_with fail
  refine(W.fF x5 n5 p.ws _ (W.Src.Jz (HR.out.keep B1.out) E4.out e5).gv (fun r hr=>(HP.out.w r hr).1) hpl (W.fT G.out.2.2.1)).mono ?_;rintro e w2 ⟨rfl,o5,g2⟩;obtain⟨M5,BR⟩:∃M,M=((w1.setCell ⟨d,3,none⟩ (.bool true)).setCell ⟨d,4,none⟩ (.int .i64 p.s)).heap.size:=⟨_,rfl⟩
  have O5:Hid (w2.ownsMap prog 9 W.RV M5 p.ws.length (W.dec p.ws)):=by rw[BR];exact o5
  rw[<-BR];have D2:Hid (ef w2 d #[.string m.nm,.bool m.up,.int .i64 m.ck,.bool true,.int .i64 p.s,.slice x1 t1 c1,.slice x2 t2 c2,.slice x3 t3 c3,.slice x4 t4 c4,.map (some m1),.map (some m2),.map (some m3),.map (some m4)] m1 m2 m3 m4 m.ws m.rs m.qs m.gs):=D4.out.keep g2;have E2:Hid (Ex d w w2):=Ex.trans (Ex.trans (Ex.of_below B1.out) E4.out) (Ex.of_below g2);have hdz:d<M5:=by rw[BR];exact Nat.lt_of_lt_of_le kw E4.out.size
  clear BR;clear o5 g2 kc kf kp;have kc:=D2.out.c;have kf:=D2.out.f;have D9:Hid (ef (w2.setCell ⟨d,9,none⟩ (.map (some M5))) d #[.string m.nm,.bool m.up,.int .i64 m.ck,.bool true,.int .i64 p.s,.slice x1 t1 c1,.slice x2 t2 c2,.slice x3 t3 c3,.slice x4 t4 c4,.map (some M5),.map (some m2),.map (some m3),.map (some m4)] m1 m2 m3 m4 m.ws m.rs m.qs m.gs):=D2.out.set 9 (by simp) _ F1 F2 F3 F4;go_wp2
  exact bodyPost_end (v:=.tuple #[]) (by simp[results,results56,go_sem]) rfl ⟨rfl,Or.inl ⟨⟨Or.inl Hv.out,q2,G.out⟩,_,D9.out.c,D9.out.f,D9.out.l,⟨_,cU O5.out ((Ex.refl _ _).set 9 _) (by omega)⟩,D9.out.o2,D9.out.o3,D9.out.o4⟩,Ex.trans E2.out ((Ex.refl _ _).set 9 _)⟩
 by_cases hs:m.se<p.s
 ·
  go_enter func56,ntmps56
  go_wp2_with fail
  go_quiet (fail)
  cases q2:cA p.s 1 1000000
  ·
   go_wp2_with (go_at_call 19;refine mr (aP _ _ _ _) ?_)
   exact bodyPost_ret (v:=.tuple #[]) (by simp[results,results56,go_sem]) rfl ⟨rfl,Or.inr ⟨fun h=>(by have:=h.2.1;rw[q2]at this;cases this),HD.out.keep (dT Hb0.out)⟩,Ex.of_below (dT Hb0.out)⟩
  go_wp2_with (go_at_call 19;refine mr (aP _ _ _ _) ?_)
  refine(W.gp x5 n5 p.ws _ (HR.out.keep (dT Hb0.out)).gv h5 HP.out.w hpl).mono ?_;rintro e w1 ⟨⟨q,rfl,kq⟩,g1⟩;have K:Hid (W.Says q p.ws):=kq;have B1:Hid (Below w.heap.size w w1):=af (dT Hb0.out) g1;have C1:Hid (Below (w.alloc (.cells (cw p.k p.b p.s (ai x5 p.ws n5) p.h p.c p.t) 43)).heap.size (w.alloc (.cells (cw p.k p.b p.s (ai x5 p.ws n5) p.h p.c p.t) 43)) w1):=af (dT bR) g1;clear kq g1 kc kf;have D1:Hid (ef w1 d #[.string m.nm,.bool m.up,.int .i64 m.ck,.bool m.kn,.int .i64 m.se,.slice x1 t1 c1,.slice x2 t2 c2,.slice x3 t3 c3,.slice x4 t4 c4,.map (some m1),.map (some m2),.map (some m3),.map (some m4)] m1 m2 m3 m4 m.ws m.rs m.qs m.gs):=HD.out.keep B1.out;have kp:=aJ C1.out;have kz:w.heap.size<w1.heap.size:=by have:=C1.out.size;simp at this;omega
  cases q
  ·
   go_wp2
   exact bodyPost_ret (v:=.tuple #[]) (by simp[results,results56,go_sem]) rfl ⟨rfl,Or.inr ⟨fun h=>(by have:=K.out.2 h.2.2;cases this),D1.out⟩,Ex.of_below B1.out⟩
  have G:Hid (p.ws.length<=10/\W.sG p.ws p.ws.length):=K.out.1 rfl;clear K;have kc:=D1.out.c;have kf:=D1.out.f;have kw:=D1.out.l;have F1:m1≠d:=by omega
  have F2:m2≠d:=by omega
  have F3:m3≠d:=by omega
  have F4:m4≠d:=by omega
  have Tc:w.heap.size≠d:=by omega
  have D4:Hid (ef ((w1.setCell ⟨d,3,none⟩ (.bool true)).setCell ⟨d,4,none⟩ (.int .i64 p.s)) d #[.string m.nm,.bool m.up,.int .i64 m.ck,.bool true,.int .i64 p.s,.slice x1 t1 c1,.slice x2 t2 c2,.slice x3 t3 c3,.slice x4 t4 c4,.map (some m1),.map (some m2),.map (some m3),.map (some m4)] m1 m2 m3 m4 m.ws m.rs m.qs m.gs):=(D1.out.set 3 (by simp) (.bool true) F1 F2 F3 F4).set 4 (by simp) (.int .i64 p.s) F1 F2 F3 F4;have E4:Hid (Ex d w1 ((w1.setCell ⟨d,3,none⟩ (.bool true)).setCell ⟨d,4,none⟩ (.int .i64 p.s))):=((Ex.refl _ _).set 3 _).set 4 _;go_wp2_with fail
  refine(W.fF x5 n5 p.ws _ (W.Src.Jz (HR.out.keep B1.out) E4.out e5).gv (fun r hr=>(HP.out.w r hr).1) hpl (W.fT G.out.2.2.1)).mono ?_;rintro e w2 ⟨rfl,o5,g2⟩;obtain⟨M5,BR⟩:∃M,M=((w1.setCell ⟨d,3,none⟩ (.bool true)).setCell ⟨d,4,none⟩ (.int .i64 p.s)).heap.size:=⟨_,rfl⟩
  have O5:Hid (w2.ownsMap prog 9 W.RV M5 p.ws.length (W.dec p.ws)):=by rw[BR];exact o5
  rw[<-BR];have D2:Hid (ef w2 d #[.string m.nm,.bool m.up,.int .i64 m.ck,.bool true,.int .i64 p.s,.slice x1 t1 c1,.slice x2 t2 c2,.slice x3 t3 c3,.slice x4 t4 c4,.map (some m1),.map (some m2),.map (some m3),.map (some m4)] m1 m2 m3 m4 m.ws m.rs m.qs m.gs):=D4.out.keep g2;have E2:Hid (Ex d w w2):=Ex.trans (Ex.trans (Ex.of_below B1.out) E4.out) (Ex.of_below g2);have hdz:d<M5:=by rw[BR];exact Nat.lt_of_lt_of_le kw E4.out.size
  clear BR;clear o5 g2 kc kf kp;have kc:=D2.out.c;have kf:=D2.out.f;have D9:Hid (ef (w2.setCell ⟨d,9,none⟩ (.map (some M5))) d #[.string m.nm,.bool m.up,.int .i64 m.ck,.bool true,.int .i64 p.s,.slice x1 t1 c1,.slice x2 t2 c2,.slice x3 t3 c3,.slice x4 t4 c4,.map (some M5),.map (some m2),.map (some m3),.map (some m4)] m1 m2 m3 m4 m.ws m.rs m.qs m.gs):=D2.out.set 9 (by simp) _ F1 F2 F3 F4;go_wp2
  exact bodyPost_end (v:=.tuple #[]) (by simp[results,results56,go_sem]) rfl ⟨rfl,Or.inl ⟨⟨Or.inr hs,q2,G.out⟩,_,D9.out.c,D9.out.f,D9.out.l,⟨_,cU O5.out ((Ex.refl _ _).set 9 _) (by omega)⟩,D9.out.o2,D9.out.o3,D9.out.o4⟩,Ex.trans E2.out ((Ex.refl _ _).set 9 _)⟩
 ·
  have Hs:Hid _:=hs;have hs':p.s<=m.se:=by omega
  clear hs;go_enter func56,ntmps56
  go_wp2_with fail
  go_quiet (fail)
  go_wp2
  exact bodyPost_ret (v:=.tuple #[]) (by simp[results,results56,go_sem]) rfl ⟨rfl,Or.inr ⟨fun h=>(by rcases h.1 with h'|h';(rw[Hv.out]at h';cases h');exact Hs.out h'),HD.out.keep (dT Hb0.out)⟩,Ex.of_below (dT Hb0.out)⟩
theorem wH(m:aj)(p:bI)(x1 x2 x3 x4:Option Addr)(t1 t2 t3 t4 c1 c2 c3 c4:Nat)(d m1 m2 m3 m4:Nat)(x5:Option Addr)(n5:Nat)(w:World)(hD:ef w d #[.string m.nm,.bool m.up,.int .i64 m.ck,.bool m.kn,.int .i64 m.se,.slice x1 t1 c1,.slice x2 t2 c2,.slice x3 t3 c3,.slice x4 t4 c4,.map (some m1),.map (some m2),.map (some m3),.map (some m4)] m1 m2 m3 m4 m.ws m.rs m.qs m.gs)(e1:m1<m2)(e2:m2<m3)(e3:m3<m4)(e4:m4<d)(hp:p.fits)(s2:dx m.rs)(s3:A.dx m.qs)(hv:∀a∈m.qs,0<=a.f/\a.t<=1000000)(n2:Nat)(a2:n2<=1048576)(ho2:w.ownsMap prog 9 RV m2 n2 (dec m.rs)):
  Calls prog 57 #[.pointer (some ⟨d,0,none⟩),.agg (cw p.k p.b p.s (ai x5 p.ws n5) p.h p.c p.t)] w fun e w'=>e=.returned (.tuple #[])/\ef w' d #[.string m.nm,.bool m.up,.int .i64 m.ck,.bool m.kn,.int .i64 m.se,.slice x1 t1 c1,.slice x2 t2 c2,.slice x3 t3 c3,.slice x4 t4 c4,.map (some m1),.map (some m2),.map (some m3),.map (some m4)] m1 m2 m3 m4 m.ws (fG m.qs p m.rs) m.qs m.gs/\Ex m2 w w':=by
 have HD:Hid (ef w d #[.string m.nm,.bool m.up,.int .i64 m.ck,.bool m.kn,.int .i64 m.se,.slice x1 t1 c1,.slice x2 t2 c2,.slice x3 t3 c3,.slice x4 t4 c4,.map (some m1),.map (some m2),.map (some m3),.map (some m4)] m1 m2 m3 m4 m.ws m.rs m.qs m.gs):=hD;have HP:Hid p.fits:=hp;have Hb0:Hid (Below w.heap.size w (w.alloc (.cells (cw p.k p.b p.s (ai x5 p.ws n5) p.h p.c p.t) 43))):=ae bR _;have D0:Hid (ef (w.alloc (.cells (cw p.k p.b p.s (ai x5 p.ws n5) p.h p.c p.t) 43)) d #[.string m.nm,.bool m.up,.int .i64 m.ck,.bool m.kn,.int .i64 m.se,.slice x1 t1 c1,.slice x2 t2 c2,.slice x3 t3 c3,.slice x4 t4 c4,.map (some m1),.map (some m2),.map (some m3),.map (some m4)] m1 m2 m3 m4 m.ws m.rs m.qs m.gs):=hD.keep Hb0.out;have BO:Hid (dx m.rs):=s2;have BP:Hid (A.dx m.qs):=s3;have kc:=hD.c;have kf:=hD.f;have kl:=hD.l;have IP:=hp.h;have hpc:=hp.c;have HV:Hid _:=hv;clear hD hp s2 s3 hv;obtain⟨n3,o3⟩:=D0.out.o3;have O3:Hid ((w.alloc (.cells (cw p.k p.b p.s (ai x5 p.ws n5) p.h p.c p.t) 43)).ownsMap prog 9 A.RV m3 n3 (A.dec m.qs)):=o3;have o2:=aS ho2 Hb0.out;have O2:Hid ((w.alloc (.cells (cw p.k p.b p.s (ai x5 p.ws n5) p.h p.c p.t) 43)).ownsMap prog 9 RV m2 n2 (dec m.rs)):=o2;clear o3 o2 ho2;have Fu:(∃a∈m.qs,a.h=p.h)\/(∀a∈m.qs,a.h≠p.h):=by
  by_cases h:∃a∈m.qs,a.h=p.h;·exact Or.inl h
  exact Or.inr (fun a ha e=>h ⟨a,ha,e⟩)
 rcases Fu with⟨a,ha,hah⟩|hno
 ·
  obtain⟨pk,pb,ps,pw,ph,pc,pt⟩:=p;simp only at *;subst hah;have Ha:Hid (a∈m.qs):=ha;obtain⟨hv0,hv1⟩:=HV.out a ha;clear ha;have KP:Hid (∀y,Below (w.alloc (.cells (cw pk pb ps (ai x5 pw n5) a.h pc pt) 43)).heap.size (w.alloc (.cells (cw pk pb ps (ai x5 pw n5) a.h pc pt) 43)) y->Below (w.alloc (.cells (cw pk pb ps (ai x5 pw n5) a.h pc pt) 43)).heap.size (w.alloc (.cells (cw pk pb ps (ai x5 pw n5) a.h pc pt) 43)) y/\(y.cell? ⟨d,11,none⟩=some (.map (some m3))/\y.cell? ⟨w.heap.size,4,none⟩=some (.string a.h)/\Sem.run prog (Instr.lookup 108 (.map (some m3)) (.string a.h) true) y=.ok (.tuple #[.agg (cZ a.h a.c a.f a.t),.bool true]) y)):=fun y hb=>by have Dy:=D0.out.keep hb;refine⟨hb,Dy.c 11,?_,A.fm m3 n3 m.qs (A.aS O3.out hb) BP.out a Ha.out IP⟩;rw[aJ hb 4];simp[go_sem]
  go_enter func57,ntmps57
  go_wp2_with fail
  refine wp_region_noPanic ?_;refine wp_region_held_drew (S:=(fun y=>Below (w.alloc (.cells (cw pk pb ps (ai x5 pw n5) a.h pc pt) 43)).heap.size (w.alloc (.cells (cw pk pb ps (ai x5 pw n5) a.h pc pt) 43)) y/\(y.cell? ⟨d,11,none⟩=some (.map (some m3))/\y.cell? ⟨w.heap.size,4,none⟩=some (.string a.h)/\Sem.run prog (Instr.lookup 108 (.map (some m3)) (.string a.h) true) y=.ok (.tuple #[.agg (cZ a.h a.c a.f a.t),.bool true]) y))) (by kernel_rfl) (KP.out _ bD) (fun hHeld=>?_);refine aF 0 ?_;try simp only[sp]
  refine aF 1 ?_;try simp only[sp]
  refine aF 2 ?_;try simp only[sp]
  refine aF 3 ?_;try simp only[sp]
  refine aF 4 ?_;try simp only[sp]
  refine aF 5 ?_;try simp only[sp]
  refine aF 6 ?_;try simp only[sp]
  refine aF 7 ?_;try simp only[sp]
  refine aF 8 ?_;try simp only[sp]
  refine aF 9 ?_;try simp only[sp]
  refine dJ 10 (by kernel_rfl) rfl fun K hK=>?_
  go_simp
  refine hK.out _ _ (KP.out _ (ae bD _)) (fun cq=>?_);clear hK K hHeld;try simp only[sp]
  refine dJ 11 (by kernel_rfl) rfl fun K hK=>?_
  go_simp
  refine hK.out _ _ (KP.out _ (au (ae bR _))) (fun ep=>?_);clear hK K cq;try simp only[sp]
  refine aF 12 ?_;try simp only[sp]
  refine wpAnyH_done (by kernel_rfl) ?_ _;refine NoPanic.normal ?_;clear ep;cases hcc:(a.c.toList==pc.toList)
  ·
   go_wp2_with fail
   exact bodyPost_ret (v:=.tuple #[]) (by simp[results,results57,go_sem]) rfl ⟨rfl,by rw[gu (fun h=>by have:=((fY BP.out Ha.out).1 h).1;simp[this]at hcc)];exact HD.out.keep (by repeat (first|exact bR|with_reducible refine au ?_|refine ae ?_ _)),Ex.of_below (by repeat (first|exact bR|with_reducible refine au ?_|refine ae ?_ _))⟩
  cases hin:cA pt a.f a.t
  ·
   go_wp2_with (go_at_call 19;refine mr (aP _ _ _ _) ?_)
   exact bodyPost_ret (v:=.tuple #[]) (by simp[results,results57,go_sem]) rfl ⟨rfl,by rw[gu (fun h=>by have:=((fY BP.out Ha.out).1 h).2;rw[hin]at this;cases this)];exact HD.out.keep (by repeat (first|exact bR|with_reducible refine au ?_|refine ae ?_ _)),Ex.of_below (by repeat (first|exact bR|with_reducible refine au ?_|refine ae ?_ _))⟩
  have JA:a.c.toList=pc.toList:=by simpa using hcc
  have HY:Hid (i5 m.qs a.h pc pt):=(fY BP.out Ha.out).2 ⟨JA,hin⟩;clear JA;have hpt:0<=pt/\pt<=1000000:=by simp[cA]at hin;omega
  have JB:Hid (Below (w.alloc (.cells (cw pk pb ps (ai x5 pw n5) a.h pc pt) 43)).heap.size (w.alloc (.cells (cw pk pb ps (ai x5 pw n5) a.h pc pt) 43)) (World.drew ((w.alloc (.cells (cw pk pb ps (ai x5 pw n5) a.h pc pt) 43)).alloc (.cells (cZ a.h a.c a.f a.t) 64)))):=au (ae bR _);have hrun:(∃r∈m.rs,r.c=pc)\/(∀r∈m.rs,r.c≠pc):=by
   by_cases h:∃r∈m.rs,r.c=pc;·exact Or.inl h
   exact Or.inr (fun r hr e=>h ⟨r,hr,e⟩)
  rcases hrun with⟨r,hr,hrc⟩|hno
  ·
   subst hrc;have Hr:Hid (r∈m.rs):=hr;clear hr;have KQ:Hid (∀y,Below (World.drew ((w.alloc (.cells (cw pk pb ps (ai x5 pw n5) a.h r.c pt) 43)).alloc (.cells (cZ a.h a.c a.f a.t) 64))).heap.size (World.drew ((w.alloc (.cells (cw pk pb ps (ai x5 pw n5) a.h r.c pt) 43)).alloc (.cells (cZ a.h a.c a.f a.t) 64))) y->Below (World.drew ((w.alloc (.cells (cw pk pb ps (ai x5 pw n5) a.h r.c pt) 43)).alloc (.cells (cZ a.h a.c a.f a.t) 64))).heap.size (World.drew ((w.alloc (.cells (cw pk pb ps (ai x5 pw n5) a.h r.c pt) 43)).alloc (.cells (cZ a.h a.c a.f a.t) 64))) y/\(y.cell? ⟨d,10,none⟩=some (.map (some m2))/\y.cell? ⟨w.heap.size,5,none⟩=some (.string r.c)/\Sem.run prog (Instr.lookup 105 (.map (some m2)) (.string r.c) true) y=.ok (.tuple #[.agg (aL r.c r.v r.h r.p r.s r.d r.g r.a r.b r.i r.u),.bool true]) y)):=fun y hb=>by have hb1:=af JB.out hb;have Dy:=D0.out.keep hb1;refine⟨hb,Dy.c 10,?_,fm m2 n2 m.rs (aS O2.out hb1) BO.out r Hr.out hpc⟩;rw[aJ hb1 5];simp[go_sem]
   go_wp2_with (go_at_call 19;refine mr (aP _ _ _ _) ?_)
   refine wp_region_noPanic ?_;refine wp_region_held_drew (S:=(fun y=>Below (World.drew ((w.alloc (.cells (cw pk pb ps (ai x5 pw n5) a.h r.c pt) 43)).alloc (.cells (cZ a.h a.c a.f a.t) 64))).heap.size (World.drew ((w.alloc (.cells (cw pk pb ps (ai x5 pw n5) a.h r.c pt) 43)).alloc (.cells (cZ a.h a.c a.f a.t) 64))) y/\(y.cell? ⟨d,10,none⟩=some (.map (some m2))/\y.cell? ⟨w.heap.size,5,none⟩=some (.string r.c)/\Sem.run prog (Instr.lookup 105 (.map (some m2)) (.string r.c) true) y=.ok (.tuple #[.agg (aL r.c r.v r.h r.p r.s r.d r.g r.a r.b r.i r.u),.bool true]) y))) (by kernel_rfl) (KQ.out _ bD) (fun hHeld=>?_);refine aF 0 ?_;try simp only[sp]
   refine aF 1 ?_;try simp only[sp]
   refine aF 2 ?_;try simp only[sp]
   refine aF 3 ?_;try simp only[sp]
   refine aF 4 ?_;try simp only[sp]
   refine aF 5 ?_;try simp only[sp]
   refine aF 6 ?_;try simp only[sp]
   refine aF 7 ?_;try simp only[sp]
   refine aF 8 ?_;try simp only[sp]
   refine aF 9 ?_;try simp only[sp]
   refine dJ 10 (by kernel_rfl) rfl fun K hK=>?_
   go_simp
   refine hK.out _ _ (KQ.out _ (ae bD _)) (fun cq=>?_);clear hK K hHeld;try simp only[sp]
   refine dJ 11 (by kernel_rfl) rfl fun K hK=>?_
   go_simp
   refine hK.out _ _ (KQ.out _ (au (ae bR _))) (fun ep=>?_);clear hK K cq;try simp only[sp]
   refine aF 12 ?_;try simp only[sp]
   refine wpAnyH_done (by kernel_rfl) ?_ _;refine NoPanic.normal ?_;clear ep;cases Qp:(r.h.toList==a.h.toList)
   ·
    go_wp2_with fail
    exact bodyPost_end (v:=.tuple #[]) (by simp[results,results57,go_sem]) rfl ⟨rfl,by rw[fX HY.out,nh (fun q hq e1 e2 _=>by have:=sH BO.out hq Hr.out e2;subst this;simp only at e1;simp[e1]at Qp)];exact HD.out.keep (by repeat (first|exact bR|with_reducible refine au ?_|refine ae ?_ _)),Ex.of_below (by repeat (first|exact bR|with_reducible refine au ?_|refine ae ?_ _))⟩
   have iw:IntKind.i64.wrap (pt+16)=pt+16:=(by rw[IntKind.wrap_i64];omega);by_cases hu:r.u<pt+16
   ·
    have Qq:Below w.heap.size w (World.drew (World.drew ((((w.alloc (.cells (cw pk pb ps (ai x5 pw n5) a.h r.c pt) 43)).alloc (.cells (cZ a.h a.c a.f a.t) 64)).alloc (.cells (aL r.c r.v r.h r.p r.s r.d r.g r.a r.b r.i (pt+16)) 39))))):=(by repeat (first|exact bR|with_reducible refine au ?_|refine ae ?_ _))
    have Qr:Hid (Below w.heap.size w (World.drew (World.drew ((((w.alloc (.cells (cw pk pb ps (ai x5 pw n5) a.h r.c pt) 43)).alloc (.cells (cZ a.h a.c a.f a.t) 64)).alloc (.cells (aL r.c r.v r.h r.p r.s r.d r.g r.a r.b r.i (pt+16)) 39)))))):=Qq;clear Qq;have NJ:d≠m2:=(by omega);have NK:w.heap.size≠m2:=(by omega);have ni:w.heap.size+1+1≠m2:=(by omega);have D4:Hid (ef (World.drew (World.drew ((((w.alloc (.cells (cw pk pb ps (ai x5 pw n5) a.h r.c pt) 43)).alloc (.cells (cZ a.h a.c a.f a.t) 64)).alloc (.cells (aL r.c r.v r.h r.p r.s r.d r.g r.a r.b r.i (pt+16)) 39))))) d #[.string m.nm,.bool m.up,.int .i64 m.ck,.bool m.kn,.int .i64 m.se,.slice x1 t1 c1,.slice x2 t2 c2,.slice x3 t3 c3,.slice x4 t4 c4,.map (some m1),.map (some m2),.map (some m3),.map (some m4)] m1 m2 m3 m4 m.ws m.rs m.qs m.gs):=HD.out.keep Qr.out;have O4:Hid ((World.drew (World.drew ((((w.alloc (.cells (cw pk pb ps (ai x5 pw n5) a.h r.c pt) 43)).alloc (.cells (cZ a.h a.c a.f a.t) 64)).alloc (.cells (aL r.c r.v r.h r.p r.s r.d r.g r.a r.b r.i (pt+16)) 39))))).ownsMap prog 9 RV m2 n2 (dec m.rs)):=aS O2.out (by repeat (first|exact bR|with_reducible refine au ?_|refine ae ?_ _));have KR:Hid (∀y,Below (World.drew (World.drew ((((w.alloc (.cells (cw pk pb ps (ai x5 pw n5) a.h r.c pt) 43)).alloc (.cells (cZ a.h a.c a.f a.t) 64)).alloc (.cells (aL r.c r.v r.h r.p r.s r.d r.g r.a r.b r.i (pt+16)) 39))))).heap.size (World.drew (World.drew ((((w.alloc (.cells (cw pk pb ps (ai x5 pw n5) a.h r.c pt) 43)).alloc (.cells (cZ a.h a.c a.f a.t) 64)).alloc (.cells (aL r.c r.v r.h r.p r.s r.d r.g r.a r.b r.i (pt+16)) 39))))) y->(y.cell? ⟨d,10,none⟩=some (.map (some m2))/\y.cell? ⟨w.heap.size,5,none⟩=some (.string r.c)/\(IJ y (w.heap.size+1+1) r.c r.v r.h r.p r.s r.d r.g r.a r.b r.i (pt+16)))):=fun y hb=>by
     have Dy:=D4.out.keep hb;refine⟨Dy.c 10,?_,?_⟩;·rw[hb.cell (p:=⟨w.heap.size,5,none⟩) (by simp;omega)];simp[go_sem,World.cell?_alloc_past]
     refine⟨?_,?_,?_,?_,?_,?_,?_,?_,?_,?_,?_⟩<;>(rw[hb.cell (by simp)];simp[go_sem])
    go_wp2_with fail
    refine wp_region_noPanic ?_;refine wp_region_held_drew (S:=(fun y=>y.cell? ⟨d,10,none⟩=some (.map (some m2))/\y.cell? ⟨w.heap.size,5,none⟩=some (.string r.c)/\(IJ y (w.heap.size+1+1) r.c r.v r.h r.p r.s r.d r.g r.a r.b r.i (pt+16)))) (by kernel_rfl) (KR.out _ bD) (fun hHeld=>?_);refine aF 0 ?_;try simp only[sp]
    refine aF 1 ?_;try simp only[sp]
    refine aF 2 ?_;try simp only[sp]
    refine aF 3 ?_;try simp only[sp]
    refine aF 4 ?_;try simp only[sp]
    refine aF 5 ?_;try simp only[sp]
    refine aF 6 ?_;try simp only[sp]
    have hms:=eD m2 n2 m.rs {r with u:=pt+16} (aS O4.out bD) (by unfold maxLen;omega) hpc;obtain⟨w5,Fv,JC,hg5⟩:=hms;refine dJ 7 (by kernel_rfl) rfl fun K hK=>?_
    go_simp
    have hS:=KR.out _ bD;refine hK.out _ _ ⟨hg5.cell hS.1 (by simpa using NJ),hg5.cell hS.2.1 (by simpa using NK),hg5.cell hS.2.2.1 (by simpa using ni),hg5.cell hS.2.2.2.1 (by simpa using ni),hg5.cell hS.2.2.2.2.1 (by simpa using ni),hg5.cell hS.2.2.2.2.2.1 (by simpa using ni),hg5.cell hS.2.2.2.2.2.2.1 (by simpa using ni),hg5.cell hS.2.2.2.2.2.2.2.1 (by simpa using ni),hg5.cell hS.2.2.2.2.2.2.2.2.1 (by simpa using ni),hg5.cell hS.2.2.2.2.2.2.2.2.2.1 (by simpa using ni),hg5.cell hS.2.2.2.2.2.2.2.2.2.2.1 (by simpa using ni),hg5.cell hS.2.2.2.2.2.2.2.2.2.2.2.1 (by simpa using ni),hg5.cell hS.2.2.2.2.2.2.2.2.2.2.2.2 (by simpa using ni)⟩ (fun cq=>?_);clear hK K hHeld hS;try simp only[sp]
    refine wpAnyH_done (by kernel_rfl) ?_ _;refine NoPanic.normal ?_;clear cq;have E5:Hid (Ex m2 w w5):=Ex.trans (Ex.of_below (af Qr.out bD)) (Ex.di hg5);have O5:Hid (w5.ownsMap prog 9 RV m2 (n2+1) (dec (Ord.ins aM {r with u:=pt+16} m.rs))):=JC;clear hg5 JC Fv;go_wp2
    exact bodyPost_end (v:=.tuple #[]) (by simp[results,results57,go_sem]) rfl ⟨rfl,by rw[fX HY.out,<-yQ BO.out Hr.out (by simpa using Qp) hu];have h:=HD.out;obtain⟨q1,p1⟩:=h.o1;obtain⟨q3,p3⟩:=h.o3;obtain⟨q4,p4⟩:=h.o4;exact⟨fun k=>(E5.out.cell (p:=⟨d,k,none⟩) h.l (by show d≠m2;omega)).trans (h.c k),fun k=>(E5.out.frozen (p:=⟨d,k,none⟩) h.l (by show d≠m2;omega)).trans (h.f k),Nat.lt_of_lt_of_le h.l E5.out.size,⟨q1,cU p1 E5.out (by omega)⟩,⟨_,O5.out⟩,⟨q3,cU p3 E5.out (by omega)⟩,⟨q4,cU p4 E5.out (by omega)⟩⟩,E5.out⟩
   have Hu:Hid _:=hu;have hu':pt+16<=r.u:=(by omega);clear hu;go_wp2_with fail
   exact bodyPost_end (v:=.tuple #[]) (by simp[results,results57,go_sem]) rfl ⟨rfl,by rw[fX HY.out,nh (fun q hq e1 e2 h=>by have:=sH BO.out hq Hr.out e2;subst this;exact Hu.out h)];exact HD.out.keep (by repeat (first|exact bR|with_reducible refine au ?_|refine ae ?_ _)),Ex.of_below (by repeat (first|exact bR|with_reducible refine au ?_|refine ae ?_ _))⟩
  have Hno:Hid (∀r∈m.rs,r.c≠pc):=hno;clear hno;have KQ:Hid (∀y,Below (World.drew ((w.alloc (.cells (cw pk pb ps (ai x5 pw n5) a.h pc pt) 43)).alloc (.cells (cZ a.h a.c a.f a.t) 64))).heap.size (World.drew ((w.alloc (.cells (cw pk pb ps (ai x5 pw n5) a.h pc pt) 43)).alloc (.cells (cZ a.h a.c a.f a.t) 64))) y->Below (World.drew ((w.alloc (.cells (cw pk pb ps (ai x5 pw n5) a.h pc pt) 43)).alloc (.cells (cZ a.h a.c a.f a.t) 64))).heap.size (World.drew ((w.alloc (.cells (cw pk pb ps (ai x5 pw n5) a.h pc pt) 43)).alloc (.cells (cZ a.h a.c a.f a.t) 64))) y/\(y.cell? ⟨d,10,none⟩=some (.map (some m2))/\y.cell? ⟨w.heap.size,5,none⟩=some (.string pc)/\Sem.run prog (Instr.lookup 105 (.map (some m2)) (.string pc) true) y=.ok (.tuple #[.agg (aL ⟨#[]⟩ 0 ⟨#[]⟩ 0 0 0 0 0 0 0 0),.bool false]) y)):=fun y hb=>by have hb1:=af JB.out hb;have Dy:=D0.out.keep hb1;refine⟨hb,Dy.c 10,?_,gw m2 n2 m.rs (aS O2.out hb1) BO.out pc hpc Hno.out⟩;rw[aJ hb1 5];simp[go_sem]
  go_wp2_with (go_at_call 19;refine mr (aP _ _ _ _) ?_)
  refine wp_region_noPanic ?_;refine wp_region_held_drew (S:=(fun y=>Below (World.drew ((w.alloc (.cells (cw pk pb ps (ai x5 pw n5) a.h pc pt) 43)).alloc (.cells (cZ a.h a.c a.f a.t) 64))).heap.size (World.drew ((w.alloc (.cells (cw pk pb ps (ai x5 pw n5) a.h pc pt) 43)).alloc (.cells (cZ a.h a.c a.f a.t) 64))) y/\(y.cell? ⟨d,10,none⟩=some (.map (some m2))/\y.cell? ⟨w.heap.size,5,none⟩=some (.string pc)/\Sem.run prog (Instr.lookup 105 (.map (some m2)) (.string pc) true) y=.ok (.tuple #[.agg (aL ⟨#[]⟩ 0 ⟨#[]⟩ 0 0 0 0 0 0 0 0),.bool false]) y))) (by kernel_rfl) (KQ.out _ bD) (fun hHeld=>?_);refine aF 0 ?_;try simp only[sp]
  refine aF 1 ?_;try simp only[sp]
  refine aF 2 ?_;try simp only[sp]
  refine aF 3 ?_;try simp only[sp]
  refine aF 4 ?_;try simp only[sp]
  refine aF 5 ?_;try simp only[sp]
  refine aF 6 ?_;try simp only[sp]
  refine aF 7 ?_;try simp only[sp]
  refine aF 8 ?_;try simp only[sp]
  refine aF 9 ?_;try simp only[sp]
  refine dJ 10 (by kernel_rfl) rfl fun K hK=>?_
  go_simp
  refine hK.out _ _ (KQ.out _ (ae bD _)) (fun cq=>?_);clear hK K hHeld;try simp only[sp]
  refine dJ 11 (by kernel_rfl) rfl fun K hK=>?_
  go_simp
  refine hK.out _ _ (KQ.out _ (au (ae bR _))) (fun ep=>?_);clear hK K cq;try simp only[sp]
  refine aF 12 ?_;try simp only[sp]
  refine wpAnyH_done (by kernel_rfl) ?_ _;refine NoPanic.normal ?_;clear ep;go_wp2_with fail
  exact bodyPost_end (v:=.tuple #[]) (by simp[results,results57,go_sem]) rfl ⟨rfl,by rw[fX HY.out,nh (fun q hq e1 e2 _=>absurd (Ord.nj (by rw[<-ByteArray.toList_eq,<-ByteArray.toList_eq];exact e2)) (Hno.out q hq))];exact HD.out.keep (by repeat (first|exact bR|with_reducible refine au ?_|refine ae ?_ _)),Ex.of_below (by repeat (first|exact bR|with_reducible refine au ?_|refine ae ?_ _))⟩
 ·
  have Hno:Hid (∀a∈m.qs,a.h≠p.h):=hno;clear hno;have KP:Hid (∀y,Below (w.alloc (.cells (cw p.k p.b p.s (ai x5 p.ws n5) p.h p.c p.t) 43)).heap.size (w.alloc (.cells (cw p.k p.b p.s (ai x5 p.ws n5) p.h p.c p.t) 43)) y->Below (w.alloc (.cells (cw p.k p.b p.s (ai x5 p.ws n5) p.h p.c p.t) 43)).heap.size (w.alloc (.cells (cw p.k p.b p.s (ai x5 p.ws n5) p.h p.c p.t) 43)) y/\(y.cell? ⟨d,11,none⟩=some (.map (some m3))/\y.cell? ⟨w.heap.size,4,none⟩=some (.string p.h)/\Sem.run prog (Instr.lookup 108 (.map (some m3)) (.string p.h) true) y=.ok (.tuple #[.agg (cZ ⟨#[]⟩ ⟨#[]⟩ 0 0),.bool false]) y)):=fun y hb=>by have Dy:=D0.out.keep hb;refine⟨hb,Dy.c 11,?_,A.gw m3 n3 m.qs (A.aS O3.out hb) BP.out p.h IP Hno.out⟩;rw[aJ hb 4];simp[go_sem]
  go_enter func57,ntmps57
  go_wp2_with fail
  refine wp_region_noPanic ?_;refine wp_region_held_drew (S:=(fun y=>Below (w.alloc (.cells (cw p.k p.b p.s (ai x5 p.ws n5) p.h p.c p.t) 43)).heap.size (w.alloc (.cells (cw p.k p.b p.s (ai x5 p.ws n5) p.h p.c p.t) 43)) y/\(y.cell? ⟨d,11,none⟩=some (.map (some m3))/\y.cell? ⟨w.heap.size,4,none⟩=some (.string p.h)/\Sem.run prog (Instr.lookup 108 (.map (some m3)) (.string p.h) true) y=.ok (.tuple #[.agg (cZ ⟨#[]⟩ ⟨#[]⟩ 0 0),.bool false]) y))) (by kernel_rfl) (KP.out _ bD) (fun hHeld=>?_);refine aF 0 ?_;try simp only[sp]
  refine aF 1 ?_;try simp only[sp]
  refine aF 2 ?_;try simp only[sp]
  refine aF 3 ?_;try simp only[sp]
  refine aF 4 ?_;try simp only[sp]
  refine aF 5 ?_;try simp only[sp]
  refine aF 6 ?_;try simp only[sp]
  refine aF 7 ?_;try simp only[sp]
  refine aF 8 ?_;try simp only[sp]
  refine aF 9 ?_;try simp only[sp]
  refine dJ 10 (by kernel_rfl) rfl fun K hK=>?_
  go_simp
  refine hK.out _ _ (KP.out _ (ae bD _)) (fun cq=>?_);clear hK K hHeld;try simp only[sp]
  refine dJ 11 (by kernel_rfl) rfl fun K hK=>?_
  go_simp
  refine hK.out _ _ (KP.out _ (au (ae bR _))) (fun ep=>?_);clear hK K cq;try simp only[sp]
  refine aF 12 ?_;try simp only[sp]
  refine wpAnyH_done (by kernel_rfl) ?_ _;refine NoPanic.normal ?_;clear ep;go_wp2_with fail
  exact bodyPost_ret (v:=.tuple #[]) (by simp[results,results57,go_sem]) rfl ⟨rfl,by rw[gu (fun⟨a,ha,e,_⟩=>Hno.out a ha e)];exact HD.out.keep (by repeat (first|exact bR|with_reducible refine au ?_|refine ae ?_ _)),Ex.of_below (by repeat (first|exact bR|with_reducible refine au ?_|refine ae ?_ _))⟩
end Go.Proofs.YtlfnpjcjapljpaaGreatDoor
