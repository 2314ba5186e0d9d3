import Derived.Test.YtlfnpjcjapljpaaGreatDoorJ11
namespace Go.Proofs.YtlfnpjcjapljpaaGreatDoor
open Go.Proofs.Tryz Go.RowKit
set_option maxHeartbeats 4000000
set_option maxRecDepth 4000
set_option linter.unusedVariables false
theorem vK{k:Nat}{w w':World}(h:Below k w w'){n:Nat}:Below k w (w'.drewN n):=⟨h.os,h.tape,h.output,h.size,h.block⟩
theorem Bm(x0 x2:ByteArray)(x1 x3 x4 x5 x6 x7 x8 x9 x10:Int)(w:World):Sem.run prog (binOp .eql 39 (.agg (aL x0 x1 x2 x3 x4 x5 x6 x7 x8 x9 x10)) (.agg (aL x0 x1 x2 x3 x4 x5 x6 x7 x8 x9 x10))) w=.ok (.bool true) w:=by rw[run_eql_struct,run_equalIn_agg _ _ _ _ _ (by kernel_rfl) (by kernel_rfl)];simp only[Program.fieldsOf,underlying39,Op.eqFields];have hw:=iJ x0 x2 x0 x2 x1 x3 x4 x5 x6 x1 x3 x4 x5 x6 w;rw[run_eql_struct]at hw;simp[go_sem,underlying3,underlying9,Program.fieldsOf,underlying37,Op.eqFields]
theorem Bn(x0 x2:ByteArray)(x1 x3 x4 x5 x6 x7 x8 x9 x10:Int)(w:World):Sem.run prog (binOp .neq 39 (.agg (aL x0 x1 x2 x3 x4 x5 x6 x7 x8 x9 x10)) (.agg (aL x0 x1 x2 x3 x4 x5 x6 x7 x8 x9 x10))) w=.ok (.bool false) w:=by
 have hq:=Bm x0 x2 x1 x3 x4 x5 x6 x7 x8 x9 x10 w;rw[run_eql_struct]at hq;rw[run_neq_struct];cases hr:(Op.equalIn 10000 39 (.agg (aL x0 x1 x2 x3 x4 x5 x6 x7 x8 x9 x10)) (.agg (aL x0 x1 x2 x3 x4 x5 x6 x7 x8 x9 x10))).run prog w with
 |ok b w1=>rw[hr]at hq;simp at hq ⊢;obtain⟨rfl,rfl⟩:=hq;simp
 |halt x w1=>rw[hr]at hq;simp[Result.andThen]at hq
theorem Ei(x0 x1:ByteArray)(x2 x3:Int)(w:World):Sem.run prog (binOp .eql 64 (.agg (cZ x0 x1 x2 x3)) (.agg (cZ x0 x1 x2 x3))) w=.ok (.bool true) w:=by rw[run_eql_struct,run_equalIn_agg _ _ _ _ _ (by kernel_rfl) (by kernel_rfl)];simp only[Program.fieldsOf,underlying64,Op.eqFields];simp[go_sem,underlying3,underlying9]
theorem Ej(x0 x1:ByteArray)(x2 x3:Int)(w:World):Sem.run prog (binOp .neq 64 (.agg (cZ x0 x1 x2 x3)) (.agg (cZ x0 x1 x2 x3))) w=.ok (.bool false) w:=by
 have hq:=Ei x0 x1 x2 x3 w;rw[run_eql_struct]at hq;rw[run_neq_struct];cases hr:(Op.equalIn 10000 64 (.agg (cZ x0 x1 x2 x3)) (.agg (cZ x0 x1 x2 x3))).run prog w with
 |ok b w1=>rw[hr]at hq;simp at hq ⊢;obtain⟨rfl,rfl⟩:=hq;simp
 |halt x w1=>rw[hr]at hq;simp[Result.andThen]at hq
theorem W.lO(b1 n1 b2 n2:Nat)(xs:List W.ay)(w:World)(h1:W.aG w b1 0 xs)(h2:W.aG w b2 0 xs)(hl:xs.length<=1048576):
  Calls prog 33 #[.slice (some ⟨b1,0,none⟩) xs.length n1,.slice (some ⟨b2,0,none⟩) xs.length n2] w fun e w'=>e=.returned (.bool true)/\Below w.heap.size w w':=by
 go_enter func33,ntmps33
 go_wp2
 go_loopw [5] (fun i wx=>∃(k:Nat),k<=xs.length/\i=.int .i64 k/\Hid (Below w.heap.size w wx)/\(∀a,wx.cell? a=w.cell? a)) (fun i _=>xs.length-(intOf i).toNat)
 case atStart=>exact⟨0,Nat.zero_le _,rfl,Below.refl _ _,fun _=>rfl⟩
 case round=>
  obtain⟨k,hk,rfl,HB,hc⟩:=hrel;by_cases hlt:k<xs.length
  ·
   obtain⟨r,hr⟩:∃r,xs[k]?=some r:=⟨xs[k],List.getElem?_eq_getElem hlt⟩
   have g1:W.aG wr b1 0 xs:=fun j q hj i v hv=>(hc _).trans (h1 j q hj i v hv);have g2:W.aG wr b2 0 xs:=fun j q hj i v hv=>(hc _).trans (h2 j q hj i v hv);obtain⟨c0,c1,c2,c3,c4,c5,c6⟩:=g1.at hr;obtain⟨d0,d1,d2,d3,d4,d5,d6⟩:=g2.at hr;simp only[Nat.zero_add]at c0 c1 c2 c3 c4 c5 c6 d0 d1 d2 d3 d4 d5 d6;have HC:=ah hc;have i0:(0:Int)<=(k:Int):=(by omega);have i1:(k:Int)<(xs.length:Int):=(by omega);have hn:∀y:World,Sem.run prog (binOp .neq 37 (.agg (aX r.c r.v r.h r.p r.s r.d r.g)) (.agg (aX r.c r.v r.h r.p r.s r.d r.g))) y=.ok (.bool false) y:=fun y=>by rw[jB];simp[fL]
   clear hr hc g1 g2;go_wp2_with fail
   go_quiet (fail)
   go_wp2
   exact⟨⟨k+1,by omega,by go_num,vK HB.out,fun a=>by rw[<-HC.out a];simp⟩,by simp[intOf];omega⟩
  go_wp2
  go_ret
  exact⟨rfl,HB.out⟩
theorem W.iR(a1 a2:Option Addr)(c1 c2:Nat)(w:World):
  Calls prog 33 #[.slice a1 0 c1,.slice a2 0 c2] w fun e w'=>e=.returned (.bool true)/\w'=w:=by
 go_enter func33,ntmps33
 go_wp2
 refine wp_loop_rounds 1 ?_;rw[rounds_succ];go_wp2
 go_ret
 exact⟨rfl,rfl⟩
theorem W.Jg{w:World}{v1 v2:Value}{l:List W.ay}{B1 B2:Nat}(h1:W.Sl w v1 l B1)(h2:W.Sl w v2 l B2)(hl:l.length<=1048576):
  Calls prog 33 #[v1,v2] w fun e w'=>e=.returned (.bool true)/\Below w.heap.size w w':=by
 have z:∀(a1 a2:Option Addr)(c1 c2:Nat),Calls prog 33 #[.slice a1 0 c1,.slice a2 0 c2] w fun e w'=>e=.returned (.bool true)/\Below w.heap.size w w':=fun a1 a2 c1 c2=>(W.iR a1 a2 c1 c2 w).mono (by rintro e w' ⟨rfl,rfl⟩;exact⟨rfl,Below.refl _ _⟩);rcases h1 with⟨rfl,rfl⟩|⟨g1,Bo,rfl,-,k2,k3,-⟩
 ·
  rcases h2 with⟨rfl,-⟩|⟨g2,cap2,rfl,-,m2,m3,-⟩;·exact z _ _ _ _
  exact z _ _ _ _
 ·
  rcases h2 with⟨rfl,rfl⟩|⟨g2,cap2,rfl,-,m2,m3,-⟩;·exact z _ _ _ _
  exact W.lO g1 Bo g2 cap2 l w k3 m3 hl
theorem lO(b1 n1 b2 n2:Nat)(xs:List aw)(w:World)(h1:aG w b1 0 xs)(h2:aG w b2 0 xs)(hl:xs.length<=1048576):
  Calls prog 34 #[.slice (some ⟨b1,0,none⟩) xs.length n1,.slice (some ⟨b2,0,none⟩) xs.length n2] w fun e w'=>e=.returned (.bool true)/\Below w.heap.size w w':=by
 go_enter func34,ntmps34
 go_wp2
 go_loopw [5] (fun i wx=>∃(k:Nat),k<=xs.length/\i=.int .i64 k/\Hid (Below w.heap.size w wx)/\(∀a,wx.cell? a=w.cell? a)) (fun i _=>xs.length-(intOf i).toNat)
 case atStart=>exact⟨0,Nat.zero_le _,rfl,Below.refl _ _,fun _=>rfl⟩
 case round=>
  obtain⟨k,hk,rfl,HB,hc⟩:=hrel;by_cases hlt:k<xs.length
  ·
   obtain⟨r,hr⟩:∃r,xs[k]?=some r:=⟨xs[k],List.getElem?_eq_getElem hlt⟩
   have g1:aG wr b1 0 xs:=fun j q hj i v hv=>(hc _).trans (h1 j q hj i v hv);have g2:aG wr b2 0 xs:=fun j q hj i v hv=>(hc _).trans (h2 j q hj i v hv);obtain⟨c0,c1,c2,c3,c4,c5,c6,c7,c8,c9,c10⟩:=g1.at hr;obtain⟨d0,d1,d2,d3,d4,d5,d6,d7,d8,d9,kQ⟩:=g2.at hr;simp only[Nat.zero_add]at c0 c1 c2 c3 c4 c5 c6 c7 c8 c9 c10 d0 d1 d2 d3 d4 d5 d6 d7 d8 d9 kQ;have HC:=ah hc;have i0:(0:Int)<=(k:Int):=(by omega);have i1:(k:Int)<(xs.length:Int):=(by omega);have hn:∀y:World,Sem.run prog (binOp .neq 39 (.agg (aL r.c r.v r.h r.p r.s r.d r.g r.a r.b r.i r.u)) (.agg (aL r.c r.v r.h r.p r.s r.d r.g r.a r.b r.i r.u))) y=.ok (.bool false) y:=fun y=>Bn _ _ _ _ _ _ _ _ _ _ _ y;clear hr hc g1 g2;go_wp2_with fail
   go_quiet (fail)
   go_wp2
   exact⟨⟨k+1,by omega,by go_num,vK HB.out,fun a=>by rw[<-HC.out a];simp⟩,by simp[intOf];omega⟩
  go_wp2
  go_ret
  exact⟨rfl,HB.out⟩
theorem iR(a1 a2:Option Addr)(c1 c2:Nat)(w:World):
  Calls prog 34 #[.slice a1 0 c1,.slice a2 0 c2] w fun e w'=>e=.returned (.bool true)/\w'=w:=by
 go_enter func34,ntmps34
 go_wp2
 refine wp_loop_rounds 1 ?_;rw[rounds_succ];go_wp2
 go_ret
 exact⟨rfl,rfl⟩
theorem Jg{w:World}{v1 v2:Value}{l:List aw}{B1 B2:Nat}(h1:Sl w v1 l B1)(h2:Sl w v2 l B2)(hl:l.length<=1048576):
  Calls prog 34 #[v1,v2] w fun e w'=>e=.returned (.bool true)/\Below w.heap.size w w':=by
 have z:∀(a1 a2:Option Addr)(c1 c2:Nat),Calls prog 34 #[.slice a1 0 c1,.slice a2 0 c2] w fun e w'=>e=.returned (.bool true)/\Below w.heap.size w w':=fun a1 a2 c1 c2=>(iR a1 a2 c1 c2 w).mono (by rintro e w' ⟨rfl,rfl⟩;exact⟨rfl,Below.refl _ _⟩);rcases h1 with⟨rfl,rfl⟩|⟨g1,Bo,rfl,-,k2,k3,-⟩
 ·
  rcases h2 with⟨rfl,-⟩|⟨g2,cap2,rfl,-,m2,m3,-⟩;·exact z _ _ _ _
  exact z _ _ _ _
 ·
  rcases h2 with⟨rfl,rfl⟩|⟨g2,cap2,rfl,-,m2,m3,-⟩;·exact z _ _ _ _
  exact lO g1 Bo g2 cap2 l w k3 m3 hl
theorem A.lO(b1 n1 b2 n2:Nat)(xs:List A.aC)(w:World)(h1:A.aG w b1 0 xs)(h2:A.aG w b2 0 xs)(hl:xs.length<=1048576):
  Calls prog 35 #[.slice (some ⟨b1,0,none⟩) xs.length n1,.slice (some ⟨b2,0,none⟩) xs.length n2] w fun e w'=>e=.returned (.bool true)/\Below w.heap.size w w':=by
 go_enter func35,ntmps35
 go_wp2
 go_loopw [5] (fun i wx=>∃(k:Nat),k<=xs.length/\i=.int .i64 k/\Hid (Below w.heap.size w wx)/\(∀a,wx.cell? a=w.cell? a)) (fun i _=>xs.length-(intOf i).toNat)
 case atStart=>exact⟨0,Nat.zero_le _,rfl,Below.refl _ _,fun _=>rfl⟩
 case round=>
  obtain⟨k,hk,rfl,HB,hc⟩:=hrel;by_cases hlt:k<xs.length
  ·
   obtain⟨r,hr⟩:∃r,xs[k]?=some r:=⟨xs[k],List.getElem?_eq_getElem hlt⟩
   have g1:A.aG wr b1 0 xs:=fun j q hj i v hv=>(hc _).trans (h1 j q hj i v hv);have g2:A.aG wr b2 0 xs:=fun j q hj i v hv=>(hc _).trans (h2 j q hj i v hv);obtain⟨c0,c1,c2,c3⟩:=g1.at hr;obtain⟨d0,d1,d2,d3⟩:=g2.at hr;simp only[Nat.zero_add]at c0 c1 c2 c3 d0 d1 d2 d3;have HC:=ah hc;have i0:(0:Int)<=(k:Int):=(by omega);have i1:(k:Int)<(xs.length:Int):=(by omega);have hn:∀y:World,Sem.run prog (binOp .neq 64 (.agg (cZ r.h r.c r.f r.t)) (.agg (cZ r.h r.c r.f r.t))) y=.ok (.bool false) y:=fun y=>Ej _ _ _ _ y;clear hr hc g1 g2;go_wp2_with fail
   go_quiet (fail)
   go_wp2
   exact⟨⟨k+1,by omega,by go_num,vK HB.out,fun a=>by rw[<-HC.out a];simp⟩,by simp[intOf];omega⟩
  go_wp2
  go_ret
  exact⟨rfl,HB.out⟩
theorem A.iR(a1 a2:Option Addr)(c1 c2:Nat)(w:World):
  Calls prog 35 #[.slice a1 0 c1,.slice a2 0 c2] w fun e w'=>e=.returned (.bool true)/\w'=w:=by
 go_enter func35,ntmps35
 go_wp2
 refine wp_loop_rounds 1 ?_;rw[rounds_succ];go_wp2
 go_ret
 exact⟨rfl,rfl⟩
theorem A.Jg{w:World}{v1 v2:Value}{l:List A.aC}{B1 B2:Nat}(h1:A.Sl w v1 l B1)(h2:A.Sl w v2 l B2)(hl:l.length<=1048576):
  Calls prog 35 #[v1,v2] w fun e w'=>e=.returned (.bool true)/\Below w.heap.size w w':=by
 have z:∀(a1 a2:Option Addr)(c1 c2:Nat),Calls prog 35 #[.slice a1 0 c1,.slice a2 0 c2] w fun e w'=>e=.returned (.bool true)/\Below w.heap.size w w':=fun a1 a2 c1 c2=>(A.iR a1 a2 c1 c2 w).mono (by rintro e w' ⟨rfl,rfl⟩;exact⟨rfl,Below.refl _ _⟩);rcases h1 with⟨rfl,rfl⟩|⟨g1,Bo,rfl,-,k2,k3,-⟩
 ·
  rcases h2 with⟨rfl,-⟩|⟨g2,cap2,rfl,-,m2,m3,-⟩;·exact z _ _ _ _
  exact z _ _ _ _
 ·
  rcases h2 with⟨rfl,rfl⟩|⟨g2,cap2,rfl,-,m2,m3,-⟩;·exact z _ _ _ _
  exact A.lO g1 Bo g2 cap2 l w k3 m3 hl
theorem sv{w w':World}{O Z:Array Value}{t:TypeId}(hb:Below ((w.alloc (.cells O t)).alloc (.cells Z t)).heap.size ((w.alloc (.cells O t)).alloc (.cells Z t)) w'):(∀k,w'.cell? ⟨w.heap.size,k,none⟩=O[k]?)/\∀k,w'.cell? ⟨w.heap.size+1,k,none⟩=Z[k]?:=by
 refine⟨fun k=>?_,fun k=>?_⟩
 ·
  rw[hb.cell (p:=⟨w.heap.size,k,none⟩) (by simp;omega)];simp[go_sem]
 rw[hb.cell (p:=⟨w.heap.size+1,k,none⟩) (by simp)];simp[go_sem]
theorem nJ(m:aj)(a1 a2 a3 a4 b1 b2 b3 b4:Option Addr)(Jh Ji Jj Jk Jl Jm Jn Jo B1 B2:Nat)(w:World)(h1:dI w m (ai a1 m.ws Jh) (ai a2 m.rs Ji) (ai a3 m.qs Jj) (ai a4 m.gs Jk) B1)(h2:dI w m (ai b1 m.ws Jl) (ai b2 m.rs Jm) (ai b3 m.qs Jn) (ai b4 m.gs Jo) B2)(hl:Lens m):
  Calls prog 7 #[.agg (bK m a1 a2 a3 a4 Jh Ji Jj Jk),.agg (bK m b1 b2 b3 b4 Jl Jm Jn Jo)] w fun e w'=>e=.returned (.bool true)/\Below w.heap.size w w':=by
 have Hb0:Hid (Below w.heap.size w ((w.alloc (.cells (bK m a1 a2 a3 a4 Jh Ji Jj Jk) 27)).alloc (.cells (bK m b1 b2 b3 b4 Jl Jm Jn Jo) 27))):=ae (ae bR _) _;have P0:=ah (h1.keep Hb0.out);have Q0:=ah (h2.keep Hb0.out);have D0:Hid (Below ((w.alloc (.cells (bK m a1 a2 a3 a4 Jh Ji Jj Jk) 27)).alloc (.cells (bK m b1 b2 b3 b4 Jl Jm Jn Jo) 27)).heap.size ((w.alloc (.cells (bK m a1 a2 a3 a4 Jh Ji Jj Jk) 27)).alloc (.cells (bK m b1 b2 b3 b4 Jl Jm Jn Jo) 27)) ((w.alloc (.cells (bK m a1 a2 a3 a4 Jh Ji Jj Jk) 27)).alloc (.cells (bK m b1 b2 b3 b4 Jl Jm Jn Jo) 27))):=Below.refl _ _;have Hl:=ah hl;clear h1 h2 hl;go_enter func7,ntmps7
 go_wp2_with fail
 refine(W.Jg P0.out.a1 Q0.out.a1 Hl.out.k1).mono ?_;rintro e w1 ⟨rfl,c⟩;have P1:=ah (P0.out.keep c);have Q1:=ah (Q0.out.keep c);have D1:=ah (af D0.out c)
 skip
 have ka:=(sv D1.out).1;have kb:=(sv D1.out).2;clear c P0 Q0 D0;go_wp2_with fail
 refine(Jg P1.out.a2 Q1.out.a2 Hl.out.k2).mono ?_;rintro e w2 ⟨rfl,c⟩;have P2:=ah (P1.out.keep c);have Q2:=ah (Q1.out.keep c);have D2:=ah (af D1.out c);clear ka kb;have ka:=(sv D2.out).1;have kb:=(sv D2.out).2;clear c P1 Q1 D1;go_wp2_with fail
 refine(A.Jg P2.out.a3 Q2.out.a3 Hl.out.k3).mono ?_;rintro e w3 ⟨rfl,c⟩;have P3:=ah (P2.out.keep c);have Q3:=ah (Q2.out.keep c);have D3:=ah (af D2.out c);clear ka kb;have ka:=(sv D3.out).1;have kb:=(sv D3.out).2;clear c P2 Q2 D2;go_wp2_with fail
 refine(A.Jg P3.out.a4 Q3.out.a4 Hl.out.k4).mono ?_;rintro e w4 ⟨rfl,c⟩;have P4:=ah (P3.out.keep c);have Q4:=ah (Q3.out.keep c);have D4:=ah (af D3.out c);clear ka kb;have ka:=(sv D4.out).1;have kb:=(sv D4.out).2;clear c P3 Q3 D3;go_wp2
 go_ret
 exact⟨rfl,af Hb0.out D4.out⟩
def Bare(r:Pc.bP):Prop:=r.a=none/\r.n=0/\r.c=0
theorem sB(k s t:Int)(b h p:ByteArray)(w:World):
  Calls prog 36 #[.agg (cw k b s (.slice none 0 0) h p t),.agg (cw k b s (.slice none 0 0) h p t)] w fun e w'=>e=.returned (.bool true)/\Below w.heap.size w w':=by
 obtain⟨W1,hW1⟩:∃W1,W1=(w.alloc (.cells (cw k b s (.slice none 0 0) h p t) 43)).alloc (.cells (cw k b s (.slice none 0 0) h p t) 43):=⟨_,rfl⟩
 have HB:Hid (Below w.heap.size w W1):=by rw[hW1];exact ae (ae bR _) _
 have KA:Hid (∀y,Below W1.heap.size W1 y->(∀k,y.cell? ⟨w.heap.size,k,none⟩=_)/\∀k,y.cell? ⟨w.heap.size+1,k,none⟩=_):=fun y hy=>sv (by rw[hW1]at hy;exact hy);have HW1:=ah hW1;clear hW1;go_enter func36,ntmps36
 go_wp2_with fail
 rw[<-HW1.out];refine(W.iR none none 0 0 W1).mono ?_;rintro e w1 ⟨rfl,c⟩;obtain⟨ka,kb⟩:=KA.out w1 (by first|exact c|(rw[c];exact bR));have HC:Hid (Below W1.heap.size W1 w1):=(by first|exact c|(rw[c];exact bR))
 clear c HW1 KA;go_wp2
 go_ret
 exact⟨rfl,af HB.out HC.out⟩
theorem Pc.Sl.OV{y:World}{B n c k:Nat}{l:List Pc.bP}{a:Option Addr}{r:Pc.bP}(h:Pc.Sl y (.slice a n c) l B)(hr:l[k]?=some r):∃g,a=some ⟨g,0,none⟩/\g<y.heap.size/\Pc.aG y g 0 l:=by
 rcases h with⟨-,e⟩|⟨g,cap,e,-,h2,h3,-⟩;·rw[e]at hr;simp at hr
 cases e;exact⟨g,rfl,h2,h3⟩
theorem kG{y:World}{g k:Nat}{l:List Pc.bP}{r:Pc.bP}(h:Pc.aG y g 0 l)(hr:l[k]?=some r)(hb:Bare r):y.cell? ⟨g,k*7,none⟩=some (.int .i64 r.k)/\y.cell? ⟨g,k*7+1,none⟩=some (.string r.b)/\y.cell? ⟨g,k*7+2,none⟩=some (.int .i64 r.s)/\y.cell? ⟨g,k*7+3,none⟩=some (.slice none 0 0)/\y.cell? ⟨g,k*7+4,none⟩=some (.string r.h)/\y.cell? ⟨g,k*7+5,none⟩=some (.string r.p)/\y.cell? ⟨g,k*7+6,none⟩=some (.int .i64 r.t):=by have h1:=h.at hr;obtain⟨e1,e2,e3⟩:=hb;rw[e1,e2,e3]at h1;simpa only[Nat.zero_add]using h1
theorem oT(l:List Pc.bP)(a1 a2:Option Addr)(c1 c2 B1 B2:Nat)(w:World)(h1:Pc.Sl w (ai a1 l c1) l B1)(h2:Pc.Sl w (ai a2 l c2) l B2)(hb:∀r∈l,Bare r)(hl:l.length<=1048576):
  Calls prog 8 #[.slice a1 l.length c1,.slice a2 l.length c2] w fun e w'=>e=.returned (.bool true)/\Below w.heap.size w w':=by
 have H1:Hid (∀y,Below w.heap.size w y->Pc.Sl y (ai a1 l c1) l B1):=fun y hy=>h1.keep hy;have H2:Hid (∀y,Below w.heap.size w y->Pc.Sl y (ai a2 l c2) l B2):=fun y hy=>h2.keep hy;have HB:=ah hb;clear h1 h2 hb;go_enter func8,ntmps8
 go_wp2_with fail
 go_loopw [5] (fun i wx=>∃(k:Nat),k<=l.length/\i=.int .i64 (k:Int)/\Hid (Below w.heap.size w wx)) (fun i _=>l.length-(intOf i).toNat)
 case atStart=>exact⟨0,by omega,rfl,Below.refl _ _⟩
 case round=>
  obtain⟨m,hm,rfl,HY⟩:=hrel;by_cases hlm:m<l.length
  ·
   have hmm:(m:Int)<(l.length:Int):=(by omega);obtain⟨p,hp⟩:∃q,l[m]?=some q:=⟨_,List.getElem?_eq_getElem hlm⟩
   obtain⟨g1,rfl,z1,k1⟩:=(H1.out wr HY.out).OV hp;obtain⟨g2,rfl,z2,k2⟩:=(H2.out wr HY.out).OV hp;have hbp:=HB.out p (List.mem_of_getElem? hp);have KS:Hid (∀y,Below wr.heap.size wr y->_/\_):=fun y hy=>⟨kG (k1.keep z1 hy) hp hbp,kG (k2.keep z2 hy) hp hbp⟩
   clear k1 k2 hp hbp;go_wp2_with fail
   go_region_held3 (fun y=>(ND y g1 (m*7) p.k p.b p.s (.slice none 0 0) p.h p.p p.t)/\(ND y g2 (m*7) p.k p.b p.s (.slice none 0 0) p.h p.p p.t))
    (first|exact KS.out _ bD|exact KS.out _ (af bD hx))
    (first|(go_at_call 36;refine(sB _ _ _ _ _ _ _).mono ?_;rintro e y' ⟨rfl,hx⟩))
   go_wp2_with fail
   exact⟨⟨m+1,by omega,by go_num,af HY.out (af bD hx)⟩,by simp[intOf];omega⟩
  have hmm:¬((m:Int)<(l.length:Int)):=by omega
  go_wp2_with fail
  go_ret
  exact⟨rfl,HY.out⟩
end Go.Proofs.YtlfnpjcjapljpaaGreatDoor
