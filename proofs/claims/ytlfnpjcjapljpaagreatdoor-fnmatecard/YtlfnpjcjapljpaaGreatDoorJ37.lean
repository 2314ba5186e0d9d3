import Derived.Test.YtlfnpjcjapljpaaGreatDoorJ33
namespace Go.Proofs.YtlfnpjcjapljpaaGreatDoor
open Go.Proofs.Tryz Go.RowKit
set_option maxRecDepth 4000
set_option maxHeartbeats 8000000
set_option linter.unusedVariables false
def zv(x y:ByteArray):Array Value:=#[.string x,.string y]
def zz(x y z:ByteArray):Array Value:=#[.string x,.string y,.string z]
def zA(x y z u:ByteArray):Array Value:=#[.string x,.string y,.string z,.string u]
def zB(x y z u:Int):Array Value:=#[.int .i64 x,.int .i64 y,.int .i64 z,.int .i64 u]
def zC(h c:ByteArray)(f t:Int):Array Value:=(cZ h c f t)
theorem Ka(x y:ByteArray)(w:World):Sem.run prog (Instr.buildSlice 87 2 #[(0,.string x),(1,.string y)]) w=.ok (.slice (some ⟨w.heap.size,0,none⟩) 2 2) (w.alloc (.cells (zv x y) 9)):=vU x y w
theorem Kc(x y z:ByteArray)(w:World):Sem.run prog (Instr.buildSlice 87 3 #[(0,.string x),(1,.string y),(2,.string z)]) w=.ok (.slice (some ⟨w.heap.size,0,none⟩) 3 3) (w.alloc (.cells (zz x y z) 9)):=qB x y z w
theorem Kd(x y z u:ByteArray)(w:World):Sem.run prog (Instr.buildSlice 87 4 #[(0,.string x),(1,.string y),(2,.string z),(3,.string u)]) w=.ok (.slice (some ⟨w.heap.size,0,none⟩) 4 4) (w.alloc (.cells (zA x y z u) 9)):=Cp x y z u w
theorem Ke(x y z u:Int)(w:World):Sem.run prog (Instr.buildSlice 51 4 #[(0,.int .i64 x),(1,.int .i64 y),(2,.int .i64 z),(3,.int .i64 u)]) w=.ok (.slice (some ⟨w.heap.size,0,none⟩) 4 4) (w.alloc (.cells (zB x y z u) 3)):=Cq x y z u w
theorem ED(h c:ByteArray)(f t:Int)(w:World):Sem.run prog (Instr.buildSlice 25 1 #[(0,.agg (cZ h c f t))]) w=.ok (.slice (some ⟨w.heap.size,0,none⟩) 1 1) (w.alloc (.cells (zC h c f t) 64)):=Cr h c f t w
theorem Dn.Kf{w:World}{kr bm B g n c:Nat}{m:aj}{s2 s3 s4:Value}{q:Int}{x:World}{r0:W.ay}{ws:List W.ay}(h:Dn w kr bm B m (.slice (some ⟨g,0,none⟩) n c) s2 s3 s4 q x)(hO:W.Ow x (.slice (some ⟨g,0,none⟩) n c) (r0::ws) B)(r:W.ay):
  Dn w kr bm B {m with ws:=r::ws} (.slice (some ⟨g,0,none⟩) n c) s2 s3 s4 q (x.setCells g 0 r.cells):=by
 have he:Ex g x (x.setCells g 0 r.cells):=(Ex.refl _ _).cells _ _;have ho:=W.Ow.sI r hO;exact h.FT he ho
theorem Dn.Kg{w:World}{kr bm B g n c:Nat}{m:aj}{s1 s3 s4:Value}{q:Int}{x:World}{k:Nat}(h:Dn w kr bm B m s1 (.slice (some ⟨g,0,none⟩) n c) s3 s4 q x)(r:aw)(hk:k<m.rs.length):
  Dn w kr bm B {m with rs:=m.rs.set k r} s1 (.slice (some ⟨g,0,none⟩) n c) s3 s4 q (x.setCells g (k*11) r.cells):=by
 have he:Ex g x (x.setCells g (k*11) r.cells):=(Ex.refl _ _).cells _ _;have ho:=Ow.FU r h.l.a2 hk;exact h.yO he ho
theorem mS.oM{x:World}{m m':aj}{s1 s2 s3 s4:Value}{B:Nat}(h:mS x m s1 s2 s3 s4 B)(e1:m'.ws=m.ws)(e2:m'.rs=m.rs)(e3:m'.qs=m.qs)(e4:m'.gs=m.gs):mS x m' s1 s2 s3 s4 B:=
 ⟨by rw[e1];exact h.a1,by rw[e2];exact h.a2,by rw[e3];exact h.a3,by rw[e4];exact h.a4,h.gR,h.im,h.iq,h.iu,h.iV,h.jo⟩
theorem W.Ow.rows{y:World}{g n c:Nat}{l:List W.ay}{B:Nat}(h:W.Ow y (.slice (some ⟨g,0,none⟩) n c) l B):W.aG y g 0 l/\y.there g 0 (l.length*7):=by
 rcases h.sl with⟨h1,-⟩|⟨g',c',h1,h2,h3,h4,h5⟩
 ·
  cases h1
 ·
  cases h1;exact⟨h4,h5⟩
theorem Ow.rows{y:World}{g n c:Nat}{l:List aw}{B:Nat}(h:Ow y (.slice (some ⟨g,0,none⟩) n c) l B):aG y g 0 l/\y.there g 0 (l.length*11):=by
 rcases h.sl with⟨h1,-⟩|⟨g',c',h1,h2,h3,h4,h5⟩
 ·
  cases h1
 ·
  cases h1;exact⟨h4,h5⟩
theorem Cu{m:aj}{r:A.aC}(h:m.fits)(hl:m.qs.length<=1000)(hr:r.fits):aj.fits {m with qs:=m.qs++[r]}:=
 ⟨h.n,h.f1,h.f2,gB h.f3 hr,h.f4,h.k1,h.k2,by show(m.qs++[r]).length<=_;simp;omega,h.k4⟩
theorem Cv{m:aj}{r:A.aC}(h:m.fits)(hl:m.gs.length<=1000)(hr:r.fits):aj.fits {m with gs:=m.gs++[r]}:=
 ⟨h.n,h.f1,h.f2,h.f3,gB h.f4 hr,h.k1,h.k2,h.k3,by show(m.gs++[r]).length<=_;simp;omega⟩
theorem Cw{m:aj}{r0 r:W.ay}{ws:List W.ay}(h:m.fits)(hw:m.ws=r0::ws)(hr:r.fits):aj.fits {m with ws:=r::ws}:=
 ⟨h.n,fun x hx=>by rcases List.mem_cons.1 hx with rfl|hx;exact hr;exact h.f1 x (by rw[hw];exact List.mem_cons_of_mem _ hx),h.f2,h.f3,h.f4,by have:=h.k1;rw[hw]at this;exact this,h.k2,h.k3,h.k4⟩
theorem Cx{m:aj}{r:aw}{k:Nat}(h:m.fits)(hr:r.fits):aj.fits {m with rs:=m.rs.set k r}:=
 ⟨h.n,h.f1,fun x hx=>by rcases List.mem_or_eq_of_mem_set hx with hx|rfl;exact h.f2 x hx;exact hr,h.f3,h.f4,h.k1,by show(m.rs.set k r).length<=_;rw[List.length_set];exact h.k2,h.k3,h.k4⟩
theorem zD{m:aj}{a:Int}(h:m.fits)(hl:m.rs.length<=1000):aj.fits {m with rs:=m.rs++[fN a]}:=
 ⟨h.n,h.f1,fun x hx=>by
  rcases List.mem_append.1 hx with hx|hx
  ·
   exact h.f2 x hx
  ·
   rw[List.mem_singleton.1 hx];exact⟨by show(⟨#[122,122]⟩:ByteArray).size<=maxLen;unfold maxLen;decide,by show(⟨#[]⟩:ByteArray).size<=maxLen;unfold maxLen;decide,by show(0:Int)<=_;omega,by show _<=(0:Int);omega⟩,h.f3,h.f4,h.k1,by show(m.rs++[fN a]).length<=_;simp;omega,h.k3,h.k4⟩
theorem Kh(kr:Nat)(q:Int)(n:Nat)(w:World)(h:Rq w kr q)(hq:q<1000000)(hn:n<=1000):
  Calls prog 18 #[.pointer (some ⟨kr,0,none⟩),.int .i64 (n:Int)] w fun e w'=>∃k:Nat,e=.returned (.int .i64 (k:Int))/\(0<n->k<n)/\Rq w' kr (q+1)/\Ex kr w w':=by
 rcases Nat.eq_zero_or_pos n with rfl|h0
 ·
  refine(JQ kr q w h hq).mono ?_;rintro e w' ⟨rfl,r,x⟩;exact⟨0,rfl,fun h=>absurd h (by omega),r,x⟩
 ·
  refine(bO kr q n w h hq (by omega) (by omega)).mono ?_;rintro e w' ⟨z,rfl,z0,z1,r,x⟩;obtain⟨k,rfl⟩:=Int.eq_ofNat_of_zero_le z0;exact⟨k,rfl,fun _=>by omega,r,x⟩
theorem FV{w w2:World}{kr B:Nat}{m:aj}{s1 s2 s3 s4:Value}{q:Int}(hd:w2.there w.heap.size 0 9)(ho:mS w2 m s1 s2 s3 s4 B)(hr:Rq w2 kr q)(he:Ex kr w w2)(hz:w.heap.size<w2.heap.size)(hB:w.heap.size<B)(hk:kr<w.heap.size):
  Dn w kr w2.heap.size B m s1 s2 s3 s4 q (w2.alloc (.cells (bY m.nm m.up m.ck m.kn m.se s1 s2 s3 s4) 27)):=
 ⟨fun k=>by simp[go_sem],fun k=>by simp[go_sem],bd hd hz (ae bR _),ho.keep (ae bR _),⟨fun e=>by have:=(ho.a1.lt _ e).2;omega,fun e=>by have:=(ho.a2.lt _ e).2;omega,fun e=>by have:=(ho.a3.lt _ e).2;omega,fun e=>by have:=(ho.a4.lt _ e).2;omega⟩,hr.below (ae bR _),he.dh (ae bR _),by simp,hz,hB,hk⟩
theorem Cy{m:aj}{s:ByteArray}(h:m.fits)(hs:s.size<=maxLen):aj.fits {m with nm:=s}:=⟨hs,h.f1,h.f2,h.f3,h.f4,h.k1,h.k2,h.k3,h.k4⟩
theorem Cz{m:aj}{b:Bool}(h:m.fits):aj.fits {m with up:=b}:=⟨h.n,h.f1,h.f2,h.f3,h.f4,h.k1,h.k2,h.k3,h.k4⟩
theorem CB{m:aj}{b:Bool}(h:m.fits):aj.fits {m with kn:=b}:=⟨h.n,h.f1,h.f2,h.f3,h.f4,h.k1,h.k2,h.k3,h.k4⟩
theorem CF{m:aj}{b:Int}(h:m.fits):aj.fits {m with ck:=b}:=⟨h.n,h.f1,h.f2,h.f3,h.f4,h.k1,h.k2,h.k3,h.k4⟩
theorem CG{m:aj}{b:Int}(h:m.fits):aj.fits {m with se:=b}:=⟨h.n,h.f1,h.f2,h.f3,h.f4,h.k1,h.k2,h.k3,h.k4⟩
theorem zE{m:aj}(h:m.fits):aj.fits {m with gs:=m.qs}:=⟨h.n,h.f1,h.f2,h.f3,h.f3,h.k1,h.k2,h.k3,h.k3⟩
theorem Ki{m:aj}{r:A.aC}(h:m.fq)(hl:m.qs.length<=10)(hr:r.fits):aj.fq {m with qs:=m.qs++[r]}:=⟨Cu h.1 (by omega) hr,by show(m.qs++[r]).length<=_;simp;omega,h.2.2⟩
theorem Kj{m:aj}{r:A.aC}(h:m.fq)(hl:m.gs.length<=10)(hr:r.fits):aj.fq {m with gs:=m.gs++[r]}:=⟨Cv h.1 (by omega) hr,h.2.1,by show(m.gs++[r]).length<=_;simp;omega⟩
theorem Kk{m:aj}{r0 r:W.ay}{ws:List W.ay}(h:m.fq)(hw:m.ws=r0::ws)(hr:r.fits):aj.fq {m with ws:=r::ws}:=⟨Cw h.1 hw hr,h.2⟩
theorem EE{m:aj}{r:aw}{k:Nat}(h:m.fq)(hr:r.fits):aj.fq {m with rs:=m.rs.set k r}:=⟨Cx h.1 hr,h.2⟩
theorem FW{m:aj}{a:Int}(h:m.fq)(hl:m.rs.length<=1000):aj.fq {m with rs:=m.rs++[fN a]}:=⟨zD h.1 hl,h.2⟩
theorem EF{m:aj}{s:ByteArray}(h:m.fq)(hs:s.size<=maxLen):aj.fq {m with nm:=s}:=⟨Cy h.1 hs,h.2⟩
theorem Kl{m:aj}{b:Bool}(h:m.fq):aj.fq {m with up:=b}:=⟨Cz h.1,h.2⟩
theorem Km{m:aj}{b:Bool}(h:m.fq):aj.fq {m with kn:=b}:=⟨CB h.1,h.2⟩
theorem Kn{m:aj}{b:Int}(h:m.fq):aj.fq {m with ck:=b}:=⟨CF h.1,h.2⟩
theorem zF{m:aj}{b:Int}(h:m.fq):aj.fq {m with se:=b}:=⟨CG h.1,h.2⟩
theorem FX{m:aj}(h:m.fq):aj.fq {m with gs:=m.qs}:=⟨zE h.1,h.2.1,h.2.1⟩
theorem vV(kr:Nat)(q:Int)(m:aj)(x1 x2 x3 x4:Option Addr)(n1 n2 n3 n4:Nat)(w:World)(hr:Rq w kr q)(hq:q<500000)(h1:W.Src w x1 n1 m.ws)(h2:Src w x2 n2 m.rs)(h3:A.Src w x3 n3 m.qs)(h4:A.Src w x4 n4 m.gs)(hf:jZ m):
  Calls prog 61 #[.pointer (some ⟨kr,0,none⟩),.agg (bK m x1 x2 x3 x4 n1 n2 n3 n4)] w fun e w'=>∃m' t1 t2 t3 t4,e=.returned (.agg (bY m'.nm m'.up m'.ck m'.kn m'.se t1 t2 t3 t4))/\dI w' m' t1 t2 t3 t4 w.heap.size/\(∃x1 n1,t1=.slice x1 m'.ws.length n1/\m'.ws.length<=n1)/\m'.fq/\Rq w' kr (q+4500)/\Ex kr w w':=by
 have hkr:=hr.lt;have hinfo:(prog.info? 27).map (·.size)=some 9:=by kernel_rfl
 have lT:(prog.info? 37).map (·.size)=some 7:=by kernel_rfl
 have zG:(prog.info? 39).map (·.size)=some 11:=by kernel_rfl
 have B1:Hid (Below w.heap.size w ((w.alloc (.cells (bK m x1 x2 x3 x4 n1 n2 n3 n4) 27)).alloc (.cells iU 27))):=ae (ae bR _) _;have H1:=ah h1;have H2:=ah h2;have H3:=ah h3;have H4:=ah h4;have HR:=ah hr;have HF:=ah hf;clear h1 h2 h3 h4 hr hf;go_enter func61,ntmps61
 go_wp2_with fail
 refine(ku m x1 x2 x3 x4 n1 n2 n3 n4 _ (H1.out.keep B1.out) (H2.out.keep B1.out) (H3.out.keep B1.out) (H4.out.keep B1.out) ⟨HF.out.fits.k1,HF.out.fits.k2,HF.out.fits.k3,HF.out.fits.k4⟩).mono ?_;rintro e w2 ⟨⟨s1,s2,s3,s4,rfl,ho⟩,b2⟩;obtain⟨a1,b1,hs1⟩:=ho.a1.shape;obtain⟨a2,bb2,hs2⟩:=ho.a2.shape;obtain⟨a3,b3,hs3⟩:=ho.a3.shape;obtain⟨a4,b4,hs4⟩:=ho.a4.shape;subst hs1 hs2 hs3 hs4;have T2:Hid (w2.there (w.heap.size+1) 0 9):=bd (by have h:=ny (w.alloc (.cells (bK m x1 x2 x3 x4 n1 n2 n3 n4) 27)) 27;rw[World.size_alloc]at h;exact h) (by simp) b2;have E2:Hid (Ex kr (w.alloc (.cells (bK m x1 x2 x3 x4 n1 n2 n3 n4) 27)) w2):=Ex.of_below (af (ae bR _) b2);have D2:Hid (Dn (w.alloc (.cells (bK m x1 x2 x3 x4 n1 n2 n3 n4) 27)) kr w2.heap.size ((w.alloc (.cells (bK m x1 x2 x3 x4 n1 n2 n3 n4) 27)).alloc (.cells iU 27)).heap.size m (ai a1 m.ws b1) (ai a2 m.rs bb2) (ai a3 m.qs b3) (ai a4 m.gs b4) q (w2.alloc (.cells (bK m a1 a2 a3 a4 b1 bb2 b3 b4) 27))):=FV (by rw[World.size_alloc];exact T2.out) ho ((HR.out.below (ae (ae bR _) _)).below b2) E2.out (by have h:=b2.size;simp only[World.size_alloc]at h ⊢;omega) (by simp) (by simp;omega);have hB2:=b2.size;clear ho b2 T2 E2 H1 H2 H3 H4 B1 HR;go_wp2_with fail
 refine(Kh kr _ m.rs.length _ D2.out.r (by omega) (by have:=HF.out.r1;omega)).mono ?_;rintro e y1 ⟨k,rfl,hk,r3,e3⟩;have D3:=ah (D2.out.pick e3 r3);clear D2 r3 e3;go_wp2_with fail
 refine(bO kr _ 12 _ D3.out.r (by omega) (by omega) (by omega)).mono ?_;rintro e y2 ⟨z,rfl,z0,z1,r4,e4⟩;have D4:=ah (D3.out.pick e4 r4);clear D3 r4 e4;obtain⟨W0,hW0⟩:∃W0,W0=(w.alloc (.cells (bK m x1 x2 x3 x4 n1 n2 n3 n4) 27)):=⟨_,rfl⟩
 obtain⟨B,MO⟩:∃B,B=((w.alloc (.cells (bK m x1 x2 x3 x4 n1 n2 n3 n4) 27)).alloc (.cells iU 27)).heap.size:=⟨_,rfl⟩
 obtain⟨bm,EG⟩:∃bm,bm=w2.heap.size:=⟨_,rfl⟩
 rw[<-MO,<-hW0,<-EG]at D4;rw[<-MO,<-EG]at hB2;rw[<-EG];have hz0:W0.heap.size=w.heap.size+1:=by rw[hW0];simp
 have E0:Hid (Ex kr w W0):=by rw[hW0];exact Ex.of_below (ae bR _)
 have Oc:B=w.heap.size+2:=by rw[MO];simp
 have hk0:kr<B:=by omega
 clear hW0 MO EG;generalize (Value.agg (bK m x1 x2 x3 x4 n1 n2 n3 n4))=V1;generalize (Value.agg (bK m a1 a2 a3 a4 b1 bb2 b3 b4))=V8
 go_upto_block 0 with(fail)
 go_cut [] (fun wx=>∃m' t1 t2 t3 t4,Dn W0 kr bm B m' t1 t2 t3 t4 (q+4300) wx/\m'.fq)
 case first=>
  obtain rfl|rfl|rfl|rfl|rfl|rfl|rfl|rfl|rfl|rfl|rfl|rfl:z=0\/z=1\/z=2\/z=3\/z=4\/z=5\/z=6\/z=7\/z=8\/z=9\/z=10\/z=11:=by omega
  ·
   have hb:=vU {data:=#[]} {data:=#[120,32,121]};go_wp2_with fail
   have hbl:Below y2.heap.size y2 (y2.alloc (.cells #[.string ⟨#[]⟩,.string ⟨#[120,32,121]⟩] 9)):=ae bR _;have hkz:kr<y2.heap.size:=(by have:=D4.out.z;have:=D4.out.zw;have:=D4.out.zk;omega);have DA:=D4.out.below hbl;refine(bO kr _ 2 _ DA.r (by omega) (by omega) (by omega)).mono ?_;rintro e y3 ⟨z,rfl,z0,z1,r9,e9⟩;have DB:=ah (DA.pick e9 r9);have kl:∀j,y3.cell? ⟨y2.heap.size,j,none⟩=(#[.string ⟨#[]⟩,.string ⟨#[120,32,121]⟩]:Array Value)[j]?:=fun j=>(e9.cell (p:=⟨y2.heap.size,j,none⟩) (by simp) (by show y2.heap.size≠kr;omega)).trans (by simp[go_sem]);have k9:y3.cell? ⟨bm,0,none⟩=some (.string m.nm):=DB.out.b 0;have f9:y3.frozen? ⟨bm,0,none⟩=false:=DB.out.c 0;clear DA r9 e9;obtain rfl|rfl:z=0\/z=1:=by omega
   ·
    have k1:y3.cell? ⟨y2.heap.size,0,none⟩=some (.string ⟨#[]⟩):=kl 0;clear kl;go_wp2_with fail
    go_meet
    have HS:Dn W0 kr bm B {m with nm:={data:=#[]}} (ai a1 m.ws b1) (ai a2 m.rs bb2) (ai a3 m.qs b3) (ai a4 m.gs b4) (q+1+1+1) (y3.setCell ⟨bm,0,none⟩ (.string ⟨#[]⟩)):=DB.out.set 0 (.string ⟨#[]⟩) (by omega) rfl (DB.out.l.oM rfl rfl rfl rfl) DB.out.nb;exact⟨_,_,_,_,_,HS.up (by omega),EF HF.out.fq (by unfold maxLen;decide)⟩
   ·
    have k1:y3.cell? ⟨y2.heap.size,1,none⟩=some (.string ⟨#[120,32,121]⟩):=kl 1;clear kl;go_wp2_with fail
    go_meet
    have HS:Dn W0 kr bm B {m with nm:={data:=#[120,32,121]}} (ai a1 m.ws b1) (ai a2 m.rs bb2) (ai a3 m.qs b3) (ai a4 m.gs b4) (q+1+1+1) (y3.setCell ⟨bm,0,none⟩ (.string ⟨#[120,32,121]⟩)):=DB.out.set 0 (.string ⟨#[120,32,121]⟩) (by omega) rfl (DB.out.l.oM rfl rfl rfl rfl) DB.out.nb;exact⟨_,_,_,_,_,HS.up (by omega),EF HF.out.fq (by unfold maxLen;decide)⟩
  ·
   have k9:y2.cell? ⟨bm,1,none⟩=some (.bool m.up):=D4.out.b 1;have f9:y2.frozen? ⟨bm,1,none⟩=false:=D4.out.c 1;go_wp2_with fail
   go_meet
   have HS:Dn W0 kr bm B {m with up:=!m.up} (ai a1 m.ws b1) (ai a2 m.rs bb2) (ai a3 m.qs b3) (ai a4 m.gs b4) (q+1+1) (y2.setCell ⟨bm,1,none⟩ (.bool (!m.up))):=D4.out.set 1 (.bool (!m.up)) (by omega) rfl (D4.out.l.oM rfl rfl rfl rfl) D4.out.nb;exact⟨_,_,_,_,_,HS.up (by omega),Kl HF.out.fq⟩
  ·
   go_wp2_with fail
   refine wp_region_any (by kernel_rfl) ?_;refine ja 37 9 9 (yF kr bm B m.ck) (fun p y=>Dn W0 kr bm B m (ai a1 m.ws b1) (ai a2 m.rs bb2) (ai a3 m.qs b3) (ai a4 m.gs b4) (p) y) (fun y=>∃m' t1 t2 t3 t4,Dn W0 kr bm B m' t1 t2 t3 t4 (q+4300) y/\m'.fq) (q+1+1) (by decide) rfl (lE rfl) (D4.out.below bD) ?FY ?FZ
   case FY=>
    intro l y hl hE;obtain⟨v0,l0,rfl,hl0⟩:=aD hl;obtain⟨v1,l1,rfl,hl1⟩:=aD hl0;obtain⟨v2,l2,rfl,hl2⟩:=aD hl1;obtain⟨v3,l3,rfl,hl3⟩:=aD hl2;obtain⟨v4,l4,rfl,hl4⟩:=aD hl3;obtain⟨v5,l5,rfl,hl5⟩:=aD hl4;obtain⟨v6,l6,rfl,mP⟩:=aD hl5;obtain⟨v7,l7,rfl,uO⟩:=aD mP;obtain⟨v8,l8,rfl,uP⟩:=aD uO;obtain rfl:=fI uP;simp only[Ep,Nat.reduceAdd];go_wp2_with fail
    go_meet
    exact hE
   case FZ=>
    intro listed x y i hI hi hlt;have ho:=bQ hi;have ho:=bQ hi;have HJ:=ah hI;have HI:=ah hi;have HO:=ah ho;obtain rfl|rfl|rfl|rfl|rfl|rfl|rfl|rfl|rfl|rfl:i=0\/i=1\/i=2\/i=3\/i=4\/i=5\/i=6\/i=7\/i=8\/i=9:=by omega
    ·
     have hA:listed.getD 9 false=false:=not_true (fun h=>aB ho (hI.tr 1 0 (by rfl) (hI.tr 2 1 (by rfl) (hI.tr 3 2 (by rfl) (hI.tr 6 3 (by rfl) (hI.tr 7 6 (by rfl) (hI.tr 9 7 (by rfl) h)))))));have hn:=hA;obtain⟨pc,hD,hpc⟩:=hI.v.1 hA;clear hi;refine dy rfl rfl fun K hK=>?_;have e5:x.tmps[5]?.getD undef=.pointer (some ⟨bm,0,none⟩):=ak (hI.out 5 (Or.inl (by omega)));clear hI ho
     go_simp
     have ho:=HO.out;exact hK.out _ _ (HJ.out.put HI.out (by omega) (lE rfl) (rfl) (fun j u _ _ _ _ h=>h) (HJ.out.v.same ho (by omega) (by omega)))
    ·
     have hA:listed.getD 9 false=false:=not_true (fun h=>aB ho (hI.tr 2 1 (by rfl) (hI.tr 3 2 (by rfl) (hI.tr 6 3 (by rfl) (hI.tr 7 6 (by rfl) (hI.tr 9 7 (by rfl) h))))));have hn:=hA;obtain⟨pc,hD,hpc⟩:=hI.v.1 hA;have d0:=aK hi (j:=0) (by rfl);clear hi;refine dy rfl rfl fun K hK=>?_;have e1:x.tmps[37]?.getD undef=.pointer (some ⟨bm,2,none⟩):=ak (hI.good 0 (by omega) d0 (Or.inl hA));have k1:y.cell? ⟨bm,2,none⟩=some (.int .i64 m.ck):=hD.b 2;clear hI ho
     go_simp
     have ho:=HO.out;exact hK.out _ _ (HJ.out.put HI.out (by omega) (lE rfl) (rfl) (fun j u _ _ _ _ h=>h) (HJ.out.v.same ho (by omega) (by omega)))
    ·
     have hA:listed.getD 9 false=false:=not_true (fun h=>aB ho (hI.tr 3 2 (by rfl) (hI.tr 6 3 (by rfl) (hI.tr 7 6 (by rfl) (hI.tr 9 7 (by rfl) h)))));have hn:=hA;obtain⟨pc,hD,hpc⟩:=hI.v.1 hA;have d1:=aK hi (j:=1) (by rfl);clear hi;refine dy rfl rfl fun K hK=>?_;have e1:x.tmps[38]?.getD undef=.int .i64 m.ck:=ak (hI.good 1 (by omega) d1 (Or.inl hA));clear hI ho
     go_simp
     have ho:=HO.out;exact hK.out _ _ (HJ.out.put HI.out (by omega) (lE rfl) (⟨_,rfl⟩) (fun j u _ _ _ _ h=>h) (HJ.out.v.same ho (by omega) (by omega)))
    ·
     have hA:listed.getD 9 false=false:=not_true (fun h=>aB ho (hI.tr 6 3 (by rfl) (hI.tr 7 6 (by rfl) (hI.tr 9 7 (by rfl) h))));have hn:=hA;obtain⟨pc,hD,hpc⟩:=hI.v.1 hA;have d2:=aK hi (j:=2) (by rfl);clear hi;refine dy rfl rfl fun K hK=>?_;obtain⟨z,hz⟩:=hI.good 2 (by omega) d2 (Or.inl hA);have e1:x.tmps[39]?.getD undef=_:=ak hz;have hb:=Ke (-1) 0 z 1000001;clear hI ho
     go_simp
     have ho:=HO.out;have hbl:Below y.heap.size y (y.alloc (.cells (zB (-1) 0 z 1000001) 3)):=ae bR _;have lU:lR uS B bm 4 (y.alloc (.cells (zB (-1) 0 z 1000001) 3)) (.slice (some ⟨y.heap.size,0,none⟩) 4 4):=nz (cs:=[.int .i64 (-1),.int .i64 0,.int .i64 z,.int .i64 1000001]) (by have:=hD.z;omega) hD.z (fun v hv=>by simp only[List.mem_cons,List.not_mem_nil,or_false]at hv;rcases hv with rfl|rfl|rfl|rfl<;>exact⟨_,rfl⟩);exact hK.out _ _ (HJ.out.put HI.out (by omega) (lE rfl) (lU) (fun j u hj hne hl hc h=>yF.keep (Ex.of_below hbl) hk0 j u (fun e'=>by subst e';rw[hA]at hl;cases hl) h) (Vr.turn ho hn (by omega) (hD.below hbl) (by omega)))
    ·
     have hA:listed.getD 9 false=false:=not_true (fun h=>aB ho (hI.tr 5 4 (by rfl) (hI.tr 6 5 (by rfl) (hI.tr 7 6 (by rfl) (hI.tr 9 7 (by rfl) h)))));have hn:=hA;obtain⟨pc,hD,hpc⟩:=hI.v.1 hA;clear hi;refine dy rfl rfl fun K hK=>?_;have e5:x.tmps[0]?.getD undef=.pointer (some ⟨kr,0,none⟩):=ak (hI.out 0 (Or.inl (by omega)));clear hI ho
     go_simp
     have ho:=HO.out;exact hK.out _ _ (HJ.out.put HI.out (by omega) (lE rfl) (rfl) (fun j u _ _ _ _ h=>h) (HJ.out.v.same ho (by omega) (by omega)))
    ·
     have hA:listed.getD 9 false=false:=not_true (fun h=>aB ho (hI.tr 6 5 (by rfl) (hI.tr 7 6 (by rfl) (hI.tr 9 7 (by rfl) h))));have hn:=hA;obtain⟨pc,hD,hpc⟩:=hI.v.1 hA;have d4:=aK hi (j:=4) (by rfl);clear hi;refine dy rfl rfl fun K hK=>?_;have e1:x.tmps[41]?.getD undef=.pointer (some ⟨kr,0,none⟩):=ak (hI.good 4 (by omega) d4 (Or.inl hA));clear hI ho
     go_simp
     have ho:=HO.out;refine(bO kr pc 4 y hD.r (by omega) (by omega) (by omega)).mono ?_;rintro e y' ⟨z,rfl,z0,z1,r9,e9⟩;exact hK.out _ _ (HJ.out.put HI.out (by omega) (lE rfl) (⟨z,rfl,z0,by omega⟩) (fun j u hj hne hl hc h=>yF.keep e9 hk0 j u (fun e'=>by subst e';rw[hA]at hl;cases hl) h) (Vr.turn ho hn (by omega) (hD.pick e9 r9) (by omega)))
    ·
     have hA:listed.getD 9 false=false:=not_true (fun h=>aB ho (hI.tr 7 6 (by rfl) (hI.tr 9 7 (by rfl) h)));have hn:=hA;obtain⟨pc,hD,hpc⟩:=hI.v.1 hA;have d3:=aK hi (j:=3) (by rfl);have d5:=aK hi (j:=5) (by rfl);clear hi;refine dy rfl rfl fun K hK=>?_;obtain⟨g,hg,g0,g1,g2,gc⟩:=hI.good 3 (by omega) d3 (Or.inl hA);obtain⟨z,hm,m0,m1⟩:=hI.good 5 (by omega) d5 (Or.inl hA);have e1:x.tmps[40]?.getD undef=_:=ak hg;have e2:x.tmps[42]?.getD undef=_:=ak hm;obtain⟨j,rfl⟩:=Int.eq_ofNat_of_zero_le m0;obtain⟨u,hu,hP⟩:=gc j (by omega);have j0:(j:Int)<4:=(by omega);clear gc hm hg;clear hI ho
     go_simp
     have ho:=HO.out;exact hK.out _ _ (HJ.out.put HI.out (by omega) (lE rfl) (⟨g,j,u,rfl,g0,g1,g2,hu,hP⟩) (fun j u _ _ _ _ h=>h) (HJ.out.v.same ho (by omega) (by omega)))
    ·
     have hA:listed.getD 9 false=false:=not_true (fun h=>aB ho (hI.tr 9 7 (by rfl) h));have hn:=hA;obtain⟨pc,hD,hpc⟩:=hI.v.1 hA;have d6:=aK hi (j:=6) (by rfl);clear hi;refine dy rfl rfl fun K hK=>?_;obtain⟨g,j,u,hv,g0,g1,g2,hu,hP⟩:=hI.good 6 (by omega) d6 (Or.inl hA);have e1:x.tmps[43]?.getD undef=_:=ak hv;obtain⟨s,rfl⟩:=hP;clear hv;clear hI ho
     go_simp
     have ho:=HO.out;exact hK.out _ _ (HJ.out.put HI.out (by omega) (lE rfl) (⟨s,rfl⟩) (fun j u _ _ _ _ h=>h) (HJ.out.v.same ho (by omega) (by omega)))
    ·
     have hA:listed.getD 9 false=false:=not_true (fun h=>aB ho (hI.tr 9 8 (by rfl) h));have hn:=hA;obtain⟨pc,hD,hpc⟩:=hI.v.1 hA;clear hi;refine dy rfl rfl fun K hK=>?_;have e5:x.tmps[5]?.getD undef=.pointer (some ⟨bm,0,none⟩):=ak (hI.out 5 (Or.inl (by omega)));clear hI ho
     go_simp
     have ho:=HO.out;exact hK.out _ _ (HJ.out.put HI.out (by omega) (lE rfl) (rfl) (fun j u _ _ _ _ h=>h) (HJ.out.v.same ho (by omega) (by omega)))
    ·
     have hA:listed.getD 9 false=false:=not_true (fun h=>aB ho h);have hn:=hA;obtain⟨pc,hD,hpc⟩:=hI.v.1 hA;have d8:=aK hi (j:=8) (by rfl);have d7:=aK hi (j:=7) (by rfl);clear hi;refine dy rfl rfl fun K hK=>?_;obtain⟨z,hz⟩:=hI.good 7 (by omega) d7 (Or.inl hA);have e2:x.tmps[44]?.getD undef=_:=ak hz;have e1:x.tmps[45]?.getD undef=.pointer (some ⟨bm,2,none⟩):=ak (hI.good 8 (by omega) d8 (Or.inl hA));have k1:y.cell? ⟨bm,2,none⟩=some (.int .i64 m.ck):=hD.b 2;have k2:y.frozen? ⟨bm,2,none⟩=false:=hD.c 2;have HE:Dn W0 kr bm B {m with ck:=z} (ai a1 m.ws b1) (ai a2 m.rs bb2) (ai a3 m.qs b3) (ai a4 m.gs b4) pc (y.setCell ⟨bm,2,none⟩ (.int .i64 z)):=hD.set 2 _ (by omega) rfl (hD.l.oM rfl rfl rfl rfl) hD.nb;have hA':(listed.setIfInBounds 9 true).getD 9 false=true:=dp (by rw[hI.lz];omega);clear hz;clear hI ho
     go_simp
     have ho:=HO.out;exact hK.out _ _ (HJ.out.last (u:=undef) HI.out (Or.inl rfl) (Vr.fin hA' ⟨_,_,_,_,_,HE.up (by omega),Kn HF.out.fq⟩))
  ·
   have k9:y2.cell? ⟨bm,3,none⟩=some (.bool m.kn):=D4.out.b 3;have f9:y2.frozen? ⟨bm,3,none⟩=false:=D4.out.c 3;go_wp2_with fail
   go_meet
   have HS:Dn W0 kr bm B {m with kn:=!m.kn} (ai a1 m.ws b1) (ai a2 m.rs bb2) (ai a3 m.qs b3) (ai a4 m.gs b4) (q+1+1) (y2.setCell ⟨bm,3,none⟩ (.bool (!m.kn))):=D4.out.set 3 (.bool (!m.kn)) (by omega) rfl (D4.out.l.oM rfl rfl rfl rfl) D4.out.nb;exact⟨_,_,_,_,_,HS.up (by omega),Km HF.out.fq⟩
  ·
   have hb:=Cj (-1) 1000000 1000001;go_wp2_with fail
   have hbl:Below y2.heap.size y2 (y2.alloc (.cells #[.int .i64 (-1),.int .i64 1000000,.int .i64 1000001] 3)):=ae bR _;have hkz:kr<y2.heap.size:=(by have:=D4.out.z;have:=D4.out.zw;have:=D4.out.zk;omega);have DA:=D4.out.below hbl;refine(bO kr _ 3 _ DA.r (by omega) (by omega) (by omega)).mono ?_;rintro e y3 ⟨z,rfl,z0,z1,r9,e9⟩;have DB:=ah (DA.pick e9 r9);have kl:∀j,y3.cell? ⟨y2.heap.size,j,none⟩=(#[.int .i64 (-1),.int .i64 1000000,.int .i64 1000001]:Array Value)[j]?:=fun j=>(e9.cell (p:=⟨y2.heap.size,j,none⟩) (by simp) (by show y2.heap.size≠kr;omega)).trans (by simp[go_sem]);have k9:y3.cell? ⟨bm,4,none⟩=some (.int .i64 m.se):=DB.out.b 4;have f9:y3.frozen? ⟨bm,4,none⟩=false:=DB.out.c 4;clear DA r9 e9;obtain rfl|rfl|rfl:z=0\/z=1\/z=2:=by omega
   ·
    have k1:y3.cell? ⟨y2.heap.size,0,none⟩=some (.int .i64 (-1)):=kl 0;clear kl;go_wp2_with fail
    go_meet
    have HS:Dn W0 kr bm B {m with se:=(-1)} (ai a1 m.ws b1) (ai a2 m.rs bb2) (ai a3 m.qs b3) (ai a4 m.gs b4) (q+1+1+1) (y3.setCell ⟨bm,4,none⟩ (.int .i64 (-1))):=DB.out.set 4 (.int .i64 (-1)) (by omega) rfl (DB.out.l.oM rfl rfl rfl rfl) DB.out.nb;exact⟨_,_,_,_,_,HS.up (by omega),zF HF.out.fq⟩
   ·
    have k1:y3.cell? ⟨y2.heap.size,1,none⟩=some (.int .i64 1000000):=kl 1;clear kl;go_wp2_with fail
    go_meet
    have HS:Dn W0 kr bm B {m with se:=1000000} (ai a1 m.ws b1) (ai a2 m.rs bb2) (ai a3 m.qs b3) (ai a4 m.gs b4) (q+1+1+1) (y3.setCell ⟨bm,4,none⟩ (.int .i64 1000000)):=DB.out.set 4 (.int .i64 1000000) (by omega) rfl (DB.out.l.oM rfl rfl rfl rfl) DB.out.nb;exact⟨_,_,_,_,_,HS.up (by omega),zF HF.out.fq⟩
   ·
    have k1:y3.cell? ⟨y2.heap.size,2,none⟩=some (.int .i64 1000001):=kl 2;clear kl;go_wp2_with fail
    go_meet
    have HS:Dn W0 kr bm B {m with se:=1000001} (ai a1 m.ws b1) (ai a2 m.rs bb2) (ai a3 m.qs b3) (ai a4 m.gs b4) (q+1+1+1) (y3.setCell ⟨bm,4,none⟩ (.int .i64 1000001)):=DB.out.set 4 (.int .i64 1000001) (by omega) rfl (DB.out.l.oM rfl rfl rfl rfl) DB.out.nb;exact⟨_,_,_,_,_,HS.up (by omega),zF HF.out.fq⟩
  ·
   have k9:y2.cell? ⟨bm,5,none⟩=some (ai a1 m.ws b1):=D4.out.b 5;cases hws:m.ws with
   |nil=>
    have hs0:¬((0:Int)<(m.ws.length:Int)):=(by rw[hws];simp);clear hws;go_wp2_with fail
    go_meet
    exact⟨m,_,_,_,_,D4.out.up (by omega),HF.out.fq⟩
   |cons r0 ws=>
    have HW:=ah hws;have j1:(0:Int)<(m.ws.length:Int):=(by rw[hws];simp);clear hws;obtain⟨g,cc,hv,-,-,-,-⟩:=W.Ow.blk D4.out.l.a1 (i:=0) (by rw[HW.out];simp);simp only[Value.slice.injEq]at hv;obtain⟨rfl,-,rfl⟩:=hv;go_wp2_with fail
    refine wp_region_any (by kernel_rfl) ?_;refine ja 66 9 9 (Ko kr bm B (.slice (some ⟨g,0,none⟩) m.ws.length b1) g r0) (fun p y=>Dn W0 kr bm B m (.slice (some ⟨g,0,none⟩) m.ws.length b1) (ai a2 m.rs bb2) (ai a3 m.qs b3) (ai a4 m.gs b4) (p) y) (fun y=>∃m' t1 t2 t3 t4,Dn W0 kr bm B m' t1 t2 t3 t4 (q+4300) y/\m'.fq) (q+1+1) (by decide) rfl (lE rfl) (D4.out.below bD) ?F5 ?F6
    case F5=>
     intro l y hl hE;obtain⟨v0,l0,rfl,hl0⟩:=aD hl;obtain⟨v1,l1,rfl,hl1⟩:=aD hl0;obtain⟨v2,l2,rfl,hl2⟩:=aD hl1;obtain⟨v3,l3,rfl,hl3⟩:=aD hl2;obtain⟨v4,l4,rfl,hl4⟩:=aD hl3;obtain⟨v5,l5,rfl,hl5⟩:=aD hl4;obtain⟨v6,l6,rfl,mP⟩:=aD hl5;obtain⟨v7,l7,rfl,uO⟩:=aD mP;obtain⟨v8,l8,rfl,uP⟩:=aD uO;obtain rfl:=fI uP;simp only[Ep,Nat.reduceAdd];go_wp2_with fail
     go_meet
     exact hE
    case F6=>
     intro listed x y i hI hi hlt;have ho:=bQ hi;have ho:=bQ hi;have HJ:=ah hI;have HI:=ah hi;have HO:=ah ho;obtain rfl|rfl|rfl|rfl|rfl|rfl|rfl|rfl|rfl|rfl:i=0\/i=1\/i=2\/i=3\/i=4\/i=5\/i=6\/i=7\/i=8\/i=9:=by omega
     ·
      have hA:listed.getD 9 false=false:=not_true (fun h=>aB ho (hI.tr 1 0 (by rfl) (hI.tr 8 1 (by rfl) (hI.tr 9 8 (by rfl) h))));have hn:=hA;obtain⟨pc,hD,hpc⟩:=hI.v.1 hA;clear hi;refine dy rfl rfl fun K hK=>?_;have e5:x.tmps[5]?.getD undef=.pointer (some ⟨bm,0,none⟩):=ak (hI.out 5 (Or.inl (by omega)));clear hI ho
      go_simp
      have ho:=HO.out;exact hK.out _ _ (HJ.out.put HI.out (by omega) (lE rfl) (rfl) (fun j u _ _ _ _ h=>h) (HJ.out.v.same ho (by omega) (by omega)))
     ·
      have hA:listed.getD 9 false=false:=not_true (fun h=>aB ho (hI.tr 8 1 (by rfl) (hI.tr 9 8 (by rfl) h)));have hn:=hA;obtain⟨pc,hD,hpc⟩:=hI.v.1 hA;have d0:=aK hi (j:=0) (by rfl);clear hi;refine dy rfl rfl fun K hK=>?_;have e1:x.tmps[66]?.getD undef=.pointer (some ⟨bm,5,none⟩):=ak (hI.good 0 (by omega) d0 (Or.inl hA));have k1:y.cell? ⟨bm,5,none⟩=some (.slice (some ⟨g,0,none⟩) m.ws.length b1):=hD.b 5;clear hI ho
      go_simp
      have ho:=HO.out;exact hK.out _ _ (HJ.out.put HI.out (by omega) (lE rfl) (rfl) (fun j u _ _ _ _ h=>h) (HJ.out.v.same ho (by omega) (by omega)))
     ·
      have hA:listed.getD 9 false=false:=not_true (fun h=>aB ho (hI.tr 7 2 (by rfl) (hI.tr 9 7 (by rfl) h)));have hn:=hA;obtain⟨pc,hD,hpc⟩:=hI.v.1 hA;clear hi;refine dy rfl rfl fun K hK=>?_;have e5:x.tmps[0]?.getD undef=.pointer (some ⟨kr,0,none⟩):=ak (hI.out 0 (Or.inl (by omega)));clear hI ho
      go_simp
      have ho:=HO.out;exact hK.out _ _ (HJ.out.put HI.out (by omega) (lE rfl) (rfl) (fun j u _ _ _ _ h=>h) (HJ.out.v.same ho (by omega) (by omega)))
     ·
      have hA:listed.getD 9 false=false:=not_true (fun h=>aB ho (hI.tr 4 3 (by rfl) (hI.tr 5 4 (by rfl) (hI.tr 6 5 (by rfl) (hI.tr 7 6 (by rfl) (hI.tr 9 7 (by rfl) h))))));have hn:=hA;obtain⟨pc,hD,hpc⟩:=hI.v.1 hA;clear hi;refine dy rfl rfl fun K hK=>?_;have e5:x.tmps[5]?.getD undef=.pointer (some ⟨bm,0,none⟩):=ak (hI.out 5 (Or.inl (by omega)));clear hI ho
      go_simp
      have ho:=HO.out;exact hK.out _ _ (HJ.out.put HI.out (by omega) (lE rfl) (rfl) (fun j u _ _ _ _ h=>h) (HJ.out.v.same ho (by omega) (by omega)))
     ·
      have hA:listed.getD 9 false=false:=not_true (fun h=>aB ho (hI.tr 5 4 (by rfl) (hI.tr 6 5 (by rfl) (hI.tr 7 6 (by rfl) (hI.tr 9 7 (by rfl) h)))));have hn:=hA;obtain⟨pc,hD,hpc⟩:=hI.v.1 hA;have d3:=aK hi (j:=3) (by rfl);clear hi;refine dy rfl rfl fun K hK=>?_;have e1:x.tmps[69]?.getD undef=.pointer (some ⟨bm,5,none⟩):=ak (hI.good 3 (by omega) d3 (Or.inl hA));have k1:y.cell? ⟨bm,5,none⟩=some (.slice (some ⟨g,0,none⟩) m.ws.length b1):=hD.b 5;clear hI ho
      go_simp
      have ho:=HO.out;exact hK.out _ _ (HJ.out.put HI.out (by omega) (lE rfl) (rfl) (fun j u _ _ _ _ h=>h) (HJ.out.v.same ho (by omega) (by omega)))
     ·
      have hA:listed.getD 9 false=false:=not_true (fun h=>aB ho (hI.tr 6 5 (by rfl) (hI.tr 7 6 (by rfl) (hI.tr 9 7 (by rfl) h))));have hn:=hA;obtain⟨pc,hD,hpc⟩:=hI.v.1 hA;have d4:=aK hi (j:=4) (by rfl);clear hi;refine dy rfl rfl fun K hK=>?_;have e1:x.tmps[70]?.getD undef=.slice (some ⟨g,0,none⟩) m.ws.length b1:=ak (hI.good 4 (by omega) d4 (Or.inl hA));have j0:(0:Int)<(m.ws.length:Int):=(by rw[HW.out];simp);clear hI ho
      go_simp
      have ho:=HO.out;exact hK.out _ _ (HJ.out.put HI.out (by omega) (lE rfl) (rfl) (fun j u _ _ _ _ h=>h) (HJ.out.v.same ho (by omega) (by omega)))
     ·
      have hA:listed.getD 9 false=false:=not_true (fun h=>aB ho (hI.tr 7 6 (by rfl) (hI.tr 9 7 (by rfl) h)));have hn:=hA;obtain⟨pc,hD,hpc⟩:=hI.v.1 hA;have d5:=aK hi (j:=5) (by rfl);clear hi;refine dy rfl rfl fun K hK=>?_;have e1:x.tmps[71]?.getD undef=.pointer (some ⟨g,0,none⟩):=ak (hI.good 5 (by omega) d5 (Or.inl hA));obtain⟨c0,c1',c2',c3,c4,c5,c6⟩:=W.aG.at (W.Ow.rows hD.l.a1).1 (k:=0) (r:=r0) (by rw[HW.out];rfl);simp only[Nat.zero_mul,Nat.zero_add]at c0 c1' c2' c3 c4 c5 c6;clear hI ho
      go_simp
      have ho:=HO.out;exact hK.out _ _ (HJ.out.put HI.out (by omega) (lE rfl) (rfl) (fun j u _ _ _ _ h=>h) (HJ.out.v.same ho (by omega) (by omega)))
     ·
      have hA:listed.getD 9 false=false:=not_true (fun h=>aB ho (hI.tr 9 7 (by rfl) h));have hn:=hA;obtain⟨pc,hD,hpc⟩:=hI.v.1 hA;have d2:=aK hi (j:=2) (by rfl);have d6:=aK hi (j:=6) (by rfl);clear hi;refine dy rfl rfl fun K hK=>?_;have e1:x.tmps[68]?.getD undef=.pointer (some ⟨kr,0,none⟩):=ak (hI.good 2 (by omega) d2 (Or.inl hA));have e2:x.tmps[72]?.getD undef=.agg r0.cells.toArray:=ak (hI.good 6 (by omega) d6 (Or.inl hA));have h0:r0.fits:=HF.out.w2 r0 (by rw[HW.out];exact List.mem_cons_self ..);clear hI ho
      go_simp
      have ho:=HO.out;refine(kA kr pc r0.c r0.h r0.v r0.p r0.s r0.d r0.g y hD.r (by omega) h0.1 h0.2).mono ?_;rintro e y' ⟨c,h,v,p,s,d,g',rfl,hc,hh,r9,e9⟩;exact hK.out _ _ (HJ.out.put HI.out (by omega) (lE rfl) (⟨⟨c,h,v,p,s,d,g'⟩,rfl,hc,hh⟩) (fun j u hj hne hl hc h=>Ko.keep e9 hk0 j u (fun e'=>by subst e';rw[hA]at hl;cases hl) h) (Vr.turn ho hn (by omega) (hD.pick e9 r9) (by omega)))
     ·
      have hA:listed.getD 9 false=false:=not_true (fun h=>aB ho (hI.tr 9 8 (by rfl) h));have hn:=hA;obtain⟨pc,hD,hpc⟩:=hI.v.1 hA;have d1:=aK hi (j:=1) (by rfl);clear hi;refine dy rfl rfl fun K hK=>?_;have e1:x.tmps[67]?.getD undef=.slice (some ⟨g,0,none⟩) m.ws.length b1:=ak (hI.good 1 (by omega) d1 (Or.inl hA));have j0:(0:Int)<(m.ws.length:Int):=(by rw[HW.out];simp);clear hI ho
      go_simp
      have ho:=HO.out;exact hK.out _ _ (HJ.out.put HI.out (by omega) (lE rfl) (rfl) (fun j u _ _ _ _ h=>h) (HJ.out.v.same ho (by omega) (by omega)))
     ·
      have hA:listed.getD 9 false=false:=not_true (fun h=>aB ho h);have hn:=hA;obtain⟨pc,hD,hpc⟩:=hI.v.1 hA;have d8:=aK hi (j:=8) (by rfl);have d7:=aK hi (j:=7) (by rfl);clear hi;refine dy rfl rfl fun K hK=>?_;obtain⟨⟨c,h,v,p,s,d,gg⟩,hv,hr⟩:=hI.good 7 (by omega) d7 (Or.inl hA);have hv:x.tmps.getD 73 undef=.agg (aX c v h p s d gg):=hv;have e1:x.tmps.getD 74 undef=.pointer (some ⟨g,0,none⟩):=hI.good 8 (by omega) d8 (Or.inl hA);have hA':(listed.setIfInBounds 9 true).getD 9 false=true:=dp (by rw[hI.lz];omega);have hO:W.Ow y (.slice (some ⟨g,0,none⟩) m.ws.length b1) (r0::ws) B:=(by have h:=hD.l.a1;rw[HW.out]at h ⊢;exact h);refine wp_store_mid 37 _ _ rfl g 0 (aX c v h p s d gg) e1 hv (jK (o:=0) (l:=7) (W.Ow.rows hO).2 (by simp;omega)) lT (by simp[Value.oneCell']) ?_;have HE:Dn W0 kr bm B {m with ws:=⟨c,h,v,p,s,d,gg⟩::ws} (.slice (some ⟨g,0,none⟩) m.ws.length b1) (ai a2 m.rs bb2) (ai a3 m.qs b3) (ai a4 m.gs b4) pc (y.setCells g 0 (⟨c,h,v,p,s,d,gg⟩:W.ay).cells):=Dn.Kf hD hO ⟨c,h,v,p,s,d,gg⟩;exact hK.out _ _ (hI.last (u:=undef) HI.out (Or.inl rfl) (Vr.fin hA' ⟨_,_,_,_,_,HE.up (by omega),Kk HF.out.fq HW.out hr⟩))
  ·
   have k9:y2.cell? ⟨bm,6,none⟩=some (ai a2 m.rs bb2):=D4.out.b 6;by_cases hrs:0<m.rs.length
   ·
    have hkl:=hk hrs;have j1:(0:Int)<(m.rs.length:Int):=(by omega);obtain⟨r0,hr0⟩:∃r0,m.rs[k]?=some r0:=⟨m.rs[k],List.getElem?_eq_getElem hkl⟩
    have HK:=ah hr0;clear hr0 hk;obtain⟨g,cc,hv,-,-,-,-⟩:=Ow.blk D4.out.l.a2 hkl;simp only[Value.slice.injEq]at hv;obtain⟨rfl,-,rfl⟩:=hv;go_wp2_with fail
    refine wp_region_any (by kernel_rfl) ?_;refine ja 82 11 11 (F7 kr bm B (.slice (some ⟨g,0,none⟩) m.rs.length bb2) g k r0) (fun p y=>Dn W0 kr bm B m (ai a1 m.ws b1) (.slice (some ⟨g,0,none⟩) m.rs.length bb2) (ai a3 m.qs b3) (ai a4 m.gs b4) (p) y) (fun y=>∃m' t1 t2 t3 t4,Dn W0 kr bm B m' t1 t2 t3 t4 (q+4300) y/\m'.fq) (q+1+1) (by decide) rfl (lE rfl) (D4.out.below bD) ?uT ?uU
    case uT=>
     intro l y hl hE;obtain⟨v0,l0,rfl,hl0⟩:=aD hl;obtain⟨v1,l1,rfl,hl1⟩:=aD hl0;obtain⟨v2,l2,rfl,hl2⟩:=aD hl1;obtain⟨v3,l3,rfl,hl3⟩:=aD hl2;obtain⟨v4,l4,rfl,hl4⟩:=aD hl3;obtain⟨v5,l5,rfl,hl5⟩:=aD hl4;obtain⟨v6,l6,rfl,mP⟩:=aD hl5;obtain⟨v7,l7,rfl,uO⟩:=aD mP;obtain⟨v8,l8,rfl,uP⟩:=aD uO;obtain⟨v9,l9,rfl,uQ⟩:=aD uP;obtain⟨v10,l10,rfl,qG⟩:=aD uQ;obtain rfl:=fI qG;simp only[Ep,Nat.reduceAdd];go_wp2_with fail
     go_meet
     exact hE
    case uU=>
     intro listed x y i hI hi hlt;have ho:=bQ hi;have ho:=bQ hi;have HJ:=ah hI;have HI:=ah hi;have HO:=ah ho;obtain rfl|rfl|rfl|rfl|rfl|rfl|rfl|rfl|rfl|rfl|rfl|rfl:i=0\/i=1\/i=2\/i=3\/i=4\/i=5\/i=6\/i=7\/i=8\/i=9\/i=10\/i=11:=by omega
     ·
      have hA:listed.getD 11 false=false:=not_true (fun h=>aB ho (hI.tr 1 0 (by rfl) (hI.tr 10 1 (by rfl) (hI.tr 11 10 (by rfl) h))));have hn:=hA;obtain⟨pc,hD,hpc⟩:=hI.v.1 hA;clear hi;refine dy rfl rfl fun K hK=>?_;have e5:x.tmps[5]?.getD undef=.pointer (some ⟨bm,0,none⟩):=ak (hI.out 5 (Or.inl (by omega)));clear hI ho
      go_simp
      have ho:=HO.out;exact hK.out _ _ (HJ.out.put HI.out (by omega) (lE rfl) (rfl) (fun j u _ _ _ _ h=>h) (HJ.out.v.same ho (by omega) (by omega)))
     ·
      have hA:listed.getD 11 false=false:=not_true (fun h=>aB ho (hI.tr 10 1 (by rfl) (hI.tr 11 10 (by rfl) h)));have hn:=hA;obtain⟨pc,hD,hpc⟩:=hI.v.1 hA;have d0:=aK hi (j:=0) (by rfl);clear hi;refine dy rfl rfl fun K hK=>?_;have e1:x.tmps[82]?.getD undef=.pointer (some ⟨bm,6,none⟩):=ak (hI.good 0 (by omega) d0 (Or.inl hA));have k1:y.cell? ⟨bm,6,none⟩=some (.slice (some ⟨g,0,none⟩) m.rs.length bb2):=hD.b 6;clear hI ho
      go_simp
      have ho:=HO.out;exact hK.out _ _ (HJ.out.put HI.out (by omega) (lE rfl) (rfl) (fun j u _ _ _ _ h=>h) (HJ.out.v.same ho (by omega) (by omega)))
     ·
      have hA:listed.getD 11 false=false:=not_true (fun h=>aB ho (hI.tr 10 2 (by rfl) (hI.tr 11 10 (by rfl) h)));have hn:=hA;obtain⟨pc,hD,hpc⟩:=hI.v.1 hA;clear hi;refine dy rfl rfl fun K hK=>?_;have e5:x.tmps[6]?.getD undef=.int .i64 (k:Int):=ak (hI.out 6 (Or.inl (by omega)));clear hI ho
      go_simp
      have ho:=HO.out;exact hK.out _ _ (HJ.out.put HI.out (by omega) (lE rfl) (rfl) (fun j u _ _ _ _ h=>h) (HJ.out.v.same ho (by omega) (by omega)))
     ·
      have hA:listed.getD 11 false=false:=not_true (fun h=>aB ho (hI.tr 9 3 (by rfl) (hI.tr 11 9 (by rfl) h)));have hn:=hA;obtain⟨pc,hD,hpc⟩:=hI.v.1 hA;clear hi;refine dy rfl rfl fun K hK=>?_;have e5:x.tmps[0]?.getD undef=.pointer (some ⟨kr,0,none⟩):=ak (hI.out 0 (Or.inl (by omega)));clear hI ho
      go_simp
      have ho:=HO.out;exact hK.out _ _ (HJ.out.put HI.out (by omega) (lE rfl) (rfl) (fun j u _ _ _ _ h=>h) (HJ.out.v.same ho (by omega) (by omega)))
     ·
      have hA:listed.getD 11 false=false:=not_true (fun h=>aB ho (hI.tr 5 4 (by rfl) (hI.tr 7 5 (by rfl) (hI.tr 8 7 (by rfl) (hI.tr 9 8 (by rfl) (hI.tr 11 9 (by rfl) h))))));have hn:=hA;obtain⟨pc,hD,hpc⟩:=hI.v.1 hA;clear hi;refine dy rfl rfl fun K hK=>?_;have e5:x.tmps[5]?.getD undef=.pointer (some ⟨bm,0,none⟩):=ak (hI.out 5 (Or.inl (by omega)));clear hI ho
      go_simp
      have ho:=HO.out;exact hK.out _ _ (HJ.out.put HI.out (by omega) (lE rfl) (rfl) (fun j u _ _ _ _ h=>h) (HJ.out.v.same ho (by omega) (by omega)))
     ·
      have hA:listed.getD 11 false=false:=not_true (fun h=>aB ho (hI.tr 7 5 (by rfl) (hI.tr 8 7 (by rfl) (hI.tr 9 8 (by rfl) (hI.tr 11 9 (by rfl) h)))));have hn:=hA;obtain⟨pc,hD,hpc⟩:=hI.v.1 hA;have d4:=aK hi (j:=4) (by rfl);clear hi;refine dy rfl rfl fun K hK=>?_;have e1:x.tmps[86]?.getD undef=.pointer (some ⟨bm,6,none⟩):=ak (hI.good 4 (by omega) d4 (Or.inl hA));have k1:y.cell? ⟨bm,6,none⟩=some (.slice (some ⟨g,0,none⟩) m.rs.length bb2):=hD.b 6;clear hI ho
      go_simp
      have ho:=HO.out;exact hK.out _ _ (HJ.out.put HI.out (by omega) (lE rfl) (rfl) (fun j u _ _ _ _ h=>h) (HJ.out.v.same ho (by omega) (by omega)))
     ·
      have hA:listed.getD 11 false=false:=not_true (fun h=>aB ho (hI.tr 7 6 (by rfl) (hI.tr 8 7 (by rfl) (hI.tr 9 8 (by rfl) (hI.tr 11 9 (by rfl) h)))));have hn:=hA;obtain⟨pc,hD,hpc⟩:=hI.v.1 hA;clear hi;refine dy rfl rfl fun K hK=>?_;have e5:x.tmps[6]?.getD undef=.int .i64 (k:Int):=ak (hI.out 6 (Or.inl (by omega)));clear hI ho
      go_simp
      have ho:=HO.out;exact hK.out _ _ (HJ.out.put HI.out (by omega) (lE rfl) (rfl) (fun j u _ _ _ _ h=>h) (HJ.out.v.same ho (by omega) (by omega)))
     ·
      have hA:listed.getD 11 false=false:=not_true (fun h=>aB ho (hI.tr 8 7 (by rfl) (hI.tr 9 8 (by rfl) (hI.tr 11 9 (by rfl) h))));have hn:=hA;obtain⟨pc,hD,hpc⟩:=hI.v.1 hA;have d5:=aK hi (j:=5) (by rfl);have d6:=aK hi (j:=6) (by rfl);clear hi;refine dy rfl rfl fun K hK=>?_;have e1:x.tmps[87]?.getD undef=.slice (some ⟨g,0,none⟩) m.rs.length bb2:=ak (hI.good 5 (by omega) d5 (Or.inl hA));have e2:x.tmps[88]?.getD undef=.int .i64 (k:Int):=ak (hI.good 6 (by omega) d6 (Or.inl hA));have j1:(k:Int)<(m.rs.length:Int):=(by omega);clear hI ho
      go_simp
      have ho:=HO.out;exact hK.out _ _ (HJ.out.put HI.out (by omega) (lE rfl) (rfl) (fun j u _ _ _ _ h=>h) (HJ.out.v.same ho (by omega) (by omega)))
     ·
      have hA:listed.getD 11 false=false:=not_true (fun h=>aB ho (hI.tr 9 8 (by rfl) (hI.tr 11 9 (by rfl) h)));have hn:=hA;obtain⟨pc,hD,hpc⟩:=hI.v.1 hA;have d7:=aK hi (j:=7) (by rfl);clear hi;refine dy rfl rfl fun K hK=>?_;have e1:x.tmps[89]?.getD undef=.pointer (some ⟨g,k*11,none⟩):=ak (hI.good 7 (by omega) d7 (Or.inl hA));obtain⟨c0',c1',c2',c3',Od,Oe,Og,Oh,Oi,c9',F8⟩:=aG.at (Ow.rows hD.l.a2).1 HK.out;simp only[Nat.zero_add]at c0' c1' c2' c3' Od Oe Og Oh Oi c9' F8;clear hI ho
      go_simp
      have ho:=HO.out;exact hK.out _ _ (HJ.out.put HI.out (by omega) (lE rfl) (rfl) (fun j u _ _ _ _ h=>h) (HJ.out.v.same ho (by omega) (by omega)))
     ·
      have hA:listed.getD 11 false=false:=not_true (fun h=>aB ho (hI.tr 11 9 (by rfl) h));have hn:=hA;obtain⟨pc,hD,hpc⟩:=hI.v.1 hA;have d3:=aK hi (j:=3) (by rfl);have d8:=aK hi (j:=8) (by rfl);clear hi;refine dy rfl rfl fun K hK=>?_;have e1:x.tmps[85]?.getD undef=.pointer (some ⟨kr,0,none⟩):=ak (hI.good 3 (by omega) d3 (Or.inl hA));have e2:x.tmps[90]?.getD undef=.agg r0.cells.toArray:=ak (hI.good 8 (by omega) d8 (Or.inl hA));have h0:Small r0:=HF.out.r2 r0 (List.mem_of_getElem? HK.out);clear hI ho
      go_simp
      have ho:=HO.out;refine(pH kr pc r0.c r0.h r0.v r0.p r0.s r0.d r0.g r0.a r0.b r0.i r0.u y hD.r (by omega) h0.2.2.1.2 ⟨by have:=h0.2.2.2.1.1;omega,h0.2.2.2.1.2⟩ h0.1 h0.2.1).mono ?_;rintro e y' ⟨c,h,v,p,s,d,g',x1,x2,x3,x4,rfl,k2,k3,hc,hh,r9,e9⟩;exact hK.out _ _ (HJ.out.put HI.out (by omega) (lE rfl) (⟨⟨c,h,v,p,s,d,g',x1,x2,x3,x4⟩,rfl,hc,hh,by show x2<=_;omega,by show _<=x3;omega⟩) (fun j u hj hne hl hc h=>F7.keep e9 hk0 j u (fun e'=>by subst e';rw[hA]at hl;cases hl) h) (Vr.turn ho hn (by omega) (hD.pick e9 r9) (by omega)))
     ·
      have hA:listed.getD 11 false=false:=not_true (fun h=>aB ho (hI.tr 11 10 (by rfl) h));have hn:=hA;obtain⟨pc,hD,hpc⟩:=hI.v.1 hA;have d1:=aK hi (j:=1) (by rfl);have d2:=aK hi (j:=2) (by rfl);clear hi;refine dy rfl rfl fun K hK=>?_;have e1:x.tmps[83]?.getD undef=.slice (some ⟨g,0,none⟩) m.rs.length bb2:=ak (hI.good 1 (by omega) d1 (Or.inl hA));have e2:x.tmps[84]?.getD undef=.int .i64 (k:Int):=ak (hI.good 2 (by omega) d2 (Or.inl hA));have j1:(k:Int)<(m.rs.length:Int):=(by omega);clear hI ho
      go_simp
      have ho:=HO.out;exact hK.out _ _ (HJ.out.put HI.out (by omega) (lE rfl) (rfl) (fun j u _ _ _ _ h=>h) (HJ.out.v.same ho (by omega) (by omega)))
     ·
      have hA:listed.getD 11 false=false:=not_true (fun h=>aB ho h);have hn:=hA;obtain⟨pc,hD,hpc⟩:=hI.v.1 hA;have kQ:=aK hi (j:=10) (by rfl);have d9:=aK hi (j:=9) (by rfl);clear hi;refine dy rfl rfl fun K hK=>?_;obtain⟨⟨c,h,v,p,s,d,gg,x1,x2,x3,x4⟩,hv,hr⟩:=hI.good 9 (by omega) d9 (Or.inl hA);have hv:x.tmps.getD 91 undef=.agg (aL c v h p s d gg x1 x2 x3 x4):=hv;have e1:x.tmps.getD 92 undef=.pointer (some ⟨g,k*11,none⟩):=hI.good 10 (by omega) kQ (Or.inl hA);have hA':(listed.setIfInBounds 11 true).getD 11 false=true:=dp (by rw[hI.lz];omega);have hO:=hD.l.a2;refine wp_store_mid 39 _ _ rfl g (k*11) (aL c v h p s d gg x1 x2 x3 x4) e1 hv (jK (o:=k*11) (l:=11) (Ow.rows hO).2 (by omega)) zG (by simp[Value.oneCell']) ?_;have HE:Dn W0 kr bm B {m with rs:=m.rs.set k ⟨c,h,v,p,s,d,gg,x1,x2,x3,x4⟩} (ai a1 m.ws b1) (.slice (some ⟨g,0,none⟩) m.rs.length bb2) (ai a3 m.qs b3) (ai a4 m.gs b4) pc (y.setCells g (k*11) (⟨c,h,v,p,s,d,gg,x1,x2,x3,x4⟩:aw).cells):=Dn.Kg hD ⟨c,h,v,p,s,d,gg,x1,x2,x3,x4⟩ hkl;exact hK.out _ _ (hI.last (u:=undef) HI.out (Or.inl rfl) (Vr.fin hA' ⟨_,_,_,_,_,HE.up (by omega),EE HF.out.fq hr⟩))
   ·
    have j1:¬((0:Int)<(m.rs.length:Int)):=(by omega);go_wp2_with fail
    go_meet
    exact⟨m,_,_,_,_,D4.out.up (by omega),HF.out.fq⟩
  ·
   have k9:y2.cell? ⟨bm,6,none⟩=some (ai a2 m.rs bb2):=D4.out.b 6;by_cases hrs:0<m.rs.length
   ·
    have hkl:=hk hrs;have j1:(0:Int)<(m.rs.length:Int):=(by omega);obtain⟨r0,hr0⟩:∃r0,m.rs[k]?=some r0:=⟨m.rs[k],List.getElem?_eq_getElem hkl⟩
    have HK:=ah hr0;clear hr0 hk;obtain⟨g,cc,hv,-,-,-,-⟩:=Ow.blk D4.out.l.a2 hkl;simp only[Value.slice.injEq]at hv;obtain⟨rfl,-,rfl⟩:=hv;go_wp2_with fail
    refine wp_region_any (by kernel_rfl) ?_;refine ja 82 11 11 (F7 kr bm B (.slice (some ⟨g,0,none⟩) m.rs.length bb2) g k r0) (fun p y=>Dn W0 kr bm B m (ai a1 m.ws b1) (.slice (some ⟨g,0,none⟩) m.rs.length bb2) (ai a3 m.qs b3) (ai a4 m.gs b4) (p) y) (fun y=>∃m' t1 t2 t3 t4,Dn W0 kr bm B m' t1 t2 t3 t4 (q+4300) y/\m'.fq) (q+1+1) (by decide) rfl (lE rfl) (D4.out.below bD) ?uT ?uU
    case uT=>
     intro l y hl hE;obtain⟨v0,l0,rfl,hl0⟩:=aD hl;obtain⟨v1,l1,rfl,hl1⟩:=aD hl0;obtain⟨v2,l2,rfl,hl2⟩:=aD hl1;obtain⟨v3,l3,rfl,hl3⟩:=aD hl2;obtain⟨v4,l4,rfl,hl4⟩:=aD hl3;obtain⟨v5,l5,rfl,hl5⟩:=aD hl4;obtain⟨v6,l6,rfl,mP⟩:=aD hl5;obtain⟨v7,l7,rfl,uO⟩:=aD mP;obtain⟨v8,l8,rfl,uP⟩:=aD uO;obtain⟨v9,l9,rfl,uQ⟩:=aD uP;obtain⟨v10,l10,rfl,qG⟩:=aD uQ;obtain rfl:=fI qG;simp only[Ep,Nat.reduceAdd];go_wp2_with fail
     go_meet
     exact hE
    case uU=>
     intro listed x y i hI hi hlt;have ho:=bQ hi;have ho:=bQ hi;have HJ:=ah hI;have HI:=ah hi;have HO:=ah ho;obtain rfl|rfl|rfl|rfl|rfl|rfl|rfl|rfl|rfl|rfl|rfl|rfl:i=0\/i=1\/i=2\/i=3\/i=4\/i=5\/i=6\/i=7\/i=8\/i=9\/i=10\/i=11:=by omega
     ·
      have hA:listed.getD 11 false=false:=not_true (fun h=>aB ho (hI.tr 1 0 (by rfl) (hI.tr 10 1 (by rfl) (hI.tr 11 10 (by rfl) h))));have hn:=hA;obtain⟨pc,hD,hpc⟩:=hI.v.1 hA;clear hi;refine dy rfl rfl fun K hK=>?_;have e5:x.tmps[5]?.getD undef=.pointer (some ⟨bm,0,none⟩):=ak (hI.out 5 (Or.inl (by omega)));clear hI ho
      go_simp
      have ho:=HO.out;exact hK.out _ _ (HJ.out.put HI.out (by omega) (lE rfl) (rfl) (fun j u _ _ _ _ h=>h) (HJ.out.v.same ho (by omega) (by omega)))
     ·
      have hA:listed.getD 11 false=false:=not_true (fun h=>aB ho (hI.tr 10 1 (by rfl) (hI.tr 11 10 (by rfl) h)));have hn:=hA;obtain⟨pc,hD,hpc⟩:=hI.v.1 hA;have d0:=aK hi (j:=0) (by rfl);clear hi;refine dy rfl rfl fun K hK=>?_;have e1:x.tmps[82]?.getD undef=.pointer (some ⟨bm,6,none⟩):=ak (hI.good 0 (by omega) d0 (Or.inl hA));have k1:y.cell? ⟨bm,6,none⟩=some (.slice (some ⟨g,0,none⟩) m.rs.length bb2):=hD.b 6;clear hI ho
      go_simp
      have ho:=HO.out;exact hK.out _ _ (HJ.out.put HI.out (by omega) (lE rfl) (rfl) (fun j u _ _ _ _ h=>h) (HJ.out.v.same ho (by omega) (by omega)))
     ·
      have hA:listed.getD 11 false=false:=not_true (fun h=>aB ho (hI.tr 10 2 (by rfl) (hI.tr 11 10 (by rfl) h)));have hn:=hA;obtain⟨pc,hD,hpc⟩:=hI.v.1 hA;clear hi;refine dy rfl rfl fun K hK=>?_;have e5:x.tmps[6]?.getD undef=.int .i64 (k:Int):=ak (hI.out 6 (Or.inl (by omega)));clear hI ho
      go_simp
      have ho:=HO.out;exact hK.out _ _ (HJ.out.put HI.out (by omega) (lE rfl) (rfl) (fun j u _ _ _ _ h=>h) (HJ.out.v.same ho (by omega) (by omega)))
     ·
      have hA:listed.getD 11 false=false:=not_true (fun h=>aB ho (hI.tr 9 3 (by rfl) (hI.tr 11 9 (by rfl) h)));have hn:=hA;obtain⟨pc,hD,hpc⟩:=hI.v.1 hA;clear hi;refine dy rfl rfl fun K hK=>?_;have e5:x.tmps[0]?.getD undef=.pointer (some ⟨kr,0,none⟩):=ak (hI.out 0 (Or.inl (by omega)));clear hI ho
      go_simp
      have ho:=HO.out;exact hK.out _ _ (HJ.out.put HI.out (by omega) (lE rfl) (rfl) (fun j u _ _ _ _ h=>h) (HJ.out.v.same ho (by omega) (by omega)))
     ·
      have hA:listed.getD 11 false=false:=not_true (fun h=>aB ho (hI.tr 5 4 (by rfl) (hI.tr 7 5 (by rfl) (hI.tr 8 7 (by rfl) (hI.tr 9 8 (by rfl) (hI.tr 11 9 (by rfl) h))))));have hn:=hA;obtain⟨pc,hD,hpc⟩:=hI.v.1 hA;clear hi;refine dy rfl rfl fun K hK=>?_;have e5:x.tmps[5]?.getD undef=.pointer (some ⟨bm,0,none⟩):=ak (hI.out 5 (Or.inl (by omega)));clear hI ho
      go_simp
      have ho:=HO.out;exact hK.out _ _ (HJ.out.put HI.out (by omega) (lE rfl) (rfl) (fun j u _ _ _ _ h=>h) (HJ.out.v.same ho (by omega) (by omega)))
     ·
      have hA:listed.getD 11 false=false:=not_true (fun h=>aB ho (hI.tr 7 5 (by rfl) (hI.tr 8 7 (by rfl) (hI.tr 9 8 (by rfl) (hI.tr 11 9 (by rfl) h)))));have hn:=hA;obtain⟨pc,hD,hpc⟩:=hI.v.1 hA;have d4:=aK hi (j:=4) (by rfl);clear hi;refine dy rfl rfl fun K hK=>?_;have e1:x.tmps[86]?.getD undef=.pointer (some ⟨bm,6,none⟩):=ak (hI.good 4 (by omega) d4 (Or.inl hA));have k1:y.cell? ⟨bm,6,none⟩=some (.slice (some ⟨g,0,none⟩) m.rs.length bb2):=hD.b 6;clear hI ho
      go_simp
      have ho:=HO.out;exact hK.out _ _ (HJ.out.put HI.out (by omega) (lE rfl) (rfl) (fun j u _ _ _ _ h=>h) (HJ.out.v.same ho (by omega) (by omega)))
     ·
      have hA:listed.getD 11 false=false:=not_true (fun h=>aB ho (hI.tr 7 6 (by rfl) (hI.tr 8 7 (by rfl) (hI.tr 9 8 (by rfl) (hI.tr 11 9 (by rfl) h)))));have hn:=hA;obtain⟨pc,hD,hpc⟩:=hI.v.1 hA;clear hi;refine dy rfl rfl fun K hK=>?_;have e5:x.tmps[6]?.getD undef=.int .i64 (k:Int):=ak (hI.out 6 (Or.inl (by omega)));clear hI ho
      go_simp
      have ho:=HO.out;exact hK.out _ _ (HJ.out.put HI.out (by omega) (lE rfl) (rfl) (fun j u _ _ _ _ h=>h) (HJ.out.v.same ho (by omega) (by omega)))
     ·
      have hA:listed.getD 11 false=false:=not_true (fun h=>aB ho (hI.tr 8 7 (by rfl) (hI.tr 9 8 (by rfl) (hI.tr 11 9 (by rfl) h))));have hn:=hA;obtain⟨pc,hD,hpc⟩:=hI.v.1 hA;have d5:=aK hi (j:=5) (by rfl);have d6:=aK hi (j:=6) (by rfl);clear hi;refine dy rfl rfl fun K hK=>?_;have e1:x.tmps[87]?.getD undef=.slice (some ⟨g,0,none⟩) m.rs.length bb2:=ak (hI.good 5 (by omega) d5 (Or.inl hA));have e2:x.tmps[88]?.getD undef=.int .i64 (k:Int):=ak (hI.good 6 (by omega) d6 (Or.inl hA));have j1:(k:Int)<(m.rs.length:Int):=(by omega);clear hI ho
      go_simp
      have ho:=HO.out;exact hK.out _ _ (HJ.out.put HI.out (by omega) (lE rfl) (rfl) (fun j u _ _ _ _ h=>h) (HJ.out.v.same ho (by omega) (by omega)))
     ·
      have hA:listed.getD 11 false=false:=not_true (fun h=>aB ho (hI.tr 9 8 (by rfl) (hI.tr 11 9 (by rfl) h)));have hn:=hA;obtain⟨pc,hD,hpc⟩:=hI.v.1 hA;have d7:=aK hi (j:=7) (by rfl);clear hi;refine dy rfl rfl fun K hK=>?_;have e1:x.tmps[89]?.getD undef=.pointer (some ⟨g,k*11,none⟩):=ak (hI.good 7 (by omega) d7 (Or.inl hA));obtain⟨c0',c1',c2',c3',Od,Oe,Og,Oh,Oi,c9',F8⟩:=aG.at (Ow.rows hD.l.a2).1 HK.out;simp only[Nat.zero_add]at c0' c1' c2' c3' Od Oe Og Oh Oi c9' F8;clear hI ho
      go_simp
      have ho:=HO.out;exact hK.out _ _ (HJ.out.put HI.out (by omega) (lE rfl) (rfl) (fun j u _ _ _ _ h=>h) (HJ.out.v.same ho (by omega) (by omega)))
     ·
      have hA:listed.getD 11 false=false:=not_true (fun h=>aB ho (hI.tr 11 9 (by rfl) h));have hn:=hA;obtain⟨pc,hD,hpc⟩:=hI.v.1 hA;have d3:=aK hi (j:=3) (by rfl);have d8:=aK hi (j:=8) (by rfl);clear hi;refine dy rfl rfl fun K hK=>?_;have e1:x.tmps[85]?.getD undef=.pointer (some ⟨kr,0,none⟩):=ak (hI.good 3 (by omega) d3 (Or.inl hA));have e2:x.tmps[90]?.getD undef=.agg r0.cells.toArray:=ak (hI.good 8 (by omega) d8 (Or.inl hA));have h0:Small r0:=HF.out.r2 r0 (List.mem_of_getElem? HK.out);clear hI ho
      go_simp
      have ho:=HO.out;refine(pH kr pc r0.c r0.h r0.v r0.p r0.s r0.d r0.g r0.a r0.b r0.i r0.u y hD.r (by omega) h0.2.2.1.2 ⟨by have:=h0.2.2.2.1.1;omega,h0.2.2.2.1.2⟩ h0.1 h0.2.1).mono ?_;rintro e y' ⟨c,h,v,p,s,d,g',x1,x2,x3,x4,rfl,k2,k3,hc,hh,r9,e9⟩;exact hK.out _ _ (HJ.out.put HI.out (by omega) (lE rfl) (⟨⟨c,h,v,p,s,d,g',x1,x2,x3,x4⟩,rfl,hc,hh,by show x2<=_;omega,by show _<=x3;omega⟩) (fun j u hj hne hl hc h=>F7.keep e9 hk0 j u (fun e'=>by subst e';rw[hA]at hl;cases hl) h) (Vr.turn ho hn (by omega) (hD.pick e9 r9) (by omega)))
     ·
      have hA:listed.getD 11 false=false:=not_true (fun h=>aB ho (hI.tr 11 10 (by rfl) h));have hn:=hA;obtain⟨pc,hD,hpc⟩:=hI.v.1 hA;have d1:=aK hi (j:=1) (by rfl);have d2:=aK hi (j:=2) (by rfl);clear hi;refine dy rfl rfl fun K hK=>?_;have e1:x.tmps[83]?.getD undef=.slice (some ⟨g,0,none⟩) m.rs.length bb2:=ak (hI.good 1 (by omega) d1 (Or.inl hA));have e2:x.tmps[84]?.getD undef=.int .i64 (k:Int):=ak (hI.good 2 (by omega) d2 (Or.inl hA));have j1:(k:Int)<(m.rs.length:Int):=(by omega);clear hI ho
      go_simp
      have ho:=HO.out;exact hK.out _ _ (HJ.out.put HI.out (by omega) (lE rfl) (rfl) (fun j u _ _ _ _ h=>h) (HJ.out.v.same ho (by omega) (by omega)))
     ·
      have hA:listed.getD 11 false=false:=not_true (fun h=>aB ho h);have hn:=hA;obtain⟨pc,hD,hpc⟩:=hI.v.1 hA;have kQ:=aK hi (j:=10) (by rfl);have d9:=aK hi (j:=9) (by rfl);clear hi;refine dy rfl rfl fun K hK=>?_;obtain⟨⟨c,h,v,p,s,d,gg,x1,x2,x3,x4⟩,hv,hr⟩:=hI.good 9 (by omega) d9 (Or.inl hA);have hv:x.tmps.getD 91 undef=.agg (aL c v h p s d gg x1 x2 x3 x4):=hv;have e1:x.tmps.getD 92 undef=.pointer (some ⟨g,k*11,none⟩):=hI.good 10 (by omega) kQ (Or.inl hA);have hA':(listed.setIfInBounds 11 true).getD 11 false=true:=dp (by rw[hI.lz];omega);have hO:=hD.l.a2;refine wp_store_mid 39 _ _ rfl g (k*11) (aL c v h p s d gg x1 x2 x3 x4) e1 hv (jK (o:=k*11) (l:=11) (Ow.rows hO).2 (by omega)) zG (by simp[Value.oneCell']) ?_;have HE:Dn W0 kr bm B {m with rs:=m.rs.set k ⟨c,h,v,p,s,d,gg,x1,x2,x3,x4⟩} (ai a1 m.ws b1) (.slice (some ⟨g,0,none⟩) m.rs.length bb2) (ai a3 m.qs b3) (ai a4 m.gs b4) pc (y.setCells g (k*11) (⟨c,h,v,p,s,d,gg,x1,x2,x3,x4⟩:aw).cells):=Dn.Kg hD ⟨c,h,v,p,s,d,gg,x1,x2,x3,x4⟩ hkl;exact hK.out _ _ (hI.last (u:=undef) HI.out (Or.inl rfl) (Vr.fin hA' ⟨_,_,_,_,_,HE.up (by omega),EE HF.out.fq hr⟩))
   ·
    have j1:¬((0:Int)<(m.rs.length:Int)):=(by omega);go_wp2_with fail
    go_meet
    exact⟨m,_,_,_,_,D4.out.up (by omega),HF.out.fq⟩
  ·
   go_wp2_with fail
   refine wp_region_any (by kernel_rfl) ?_;refine ja 95 20 18 (zH kr bm B (ai a3 m.qs b3) B (fun p y=>Dn W0 kr bm B m (ai a1 m.ws b1) (ai a2 m.rs bb2) (ai a3 m.qs b3) (ai a4 m.gs b4) (p) y) (q+1+1+4200) m.qs) (fun p y=>Dn W0 kr bm B m (ai a1 m.ws b1) (ai a2 m.rs bb2) (ai a3 m.qs b3) (ai a4 m.gs b4) (p) y) (fun y=>∃m' t1 t2 t3 t4,Dn W0 kr bm B m' t1 t2 t3 t4 (q+4300) y/\m'.fq) (q+1+1) (by decide) rfl (lE rfl) (D4.out.below bD) ?uN ?zo
   case uN=>
    intro l y hl hE;obtain⟨v0,l0,rfl,hl0⟩:=aD hl;obtain⟨v1,l1,rfl,hl1⟩:=aD hl0;obtain⟨v2,l2,rfl,hl2⟩:=aD hl1;obtain⟨v3,l3,rfl,hl3⟩:=aD hl2;obtain⟨v4,l4,rfl,hl4⟩:=aD hl3;obtain⟨v5,l5,rfl,hl5⟩:=aD hl4;obtain⟨v6,l6,rfl,mP⟩:=aD hl5;obtain⟨v7,l7,rfl,uO⟩:=aD mP;obtain⟨v8,l8,rfl,uP⟩:=aD uO;obtain⟨v9,l9,rfl,uQ⟩:=aD uP;obtain⟨v10,l10,rfl,qG⟩:=aD uQ;obtain⟨v11,QL,rfl,zq⟩:=aD qG;obtain⟨v12,QM,rfl,hl12⟩:=aD zq;obtain⟨v13,QN,rfl,zt⟩:=aD hl12;obtain⟨v14,TN,rfl,F9⟩:=aD zt;obtain⟨v15,TP,rfl,Ga⟩:=aD F9;obtain⟨v16,Wc,rfl,Oj⟩:=aD Ga;obtain⟨v17,Wg,rfl,Ol⟩:=aD Oj;obtain⟨v18,Wh,rfl,Om⟩:=aD Ol;obtain⟨v19,Wi,rfl,On⟩:=aD Om;obtain rfl:=fI On;simp only[Ep,Nat.reduceAdd];go_wp2_with fail
    go_meet
    exact hE
   case zo=>
    intro listed x y i hI hi hlt;have ho:=bQ hi;have ho:=bQ hi;have HJ:=ah hI;have HI:=ah hi;have HO:=ah ho;obtain rfl|rfl|rfl|rfl|rfl|rfl|rfl|rfl|rfl|rfl|rfl|rfl|rfl|rfl|rfl|rfl|rfl|rfl|rfl|rfl|rfl:i=0\/i=1\/i=2\/i=3\/i=4\/i=5\/i=6\/i=7\/i=8\/i=9\/i=10\/i=11\/i=12\/i=13\/i=14\/i=15\/i=16\/i=17\/i=18\/i=19\/i=20:=by omega
    ·
     have hA:listed.getD 18 false=false:=not_true (fun h=>aB ho (hI.tr 1 0 (by rfl) (hI.tr 18 1 (by rfl) h)));have hn:listed.getD 20 false=false:=not_true (fun h=>by rw[hI.tr 20 18 (by rfl) h]at hA;cases hA);obtain⟨pc,hD,hpc⟩:=hI.v.1 hA;clear hi;refine dy rfl rfl fun K hK=>?_;have e5:x.tmps[5]?.getD undef=.pointer (some ⟨bm,0,none⟩):=ak (hI.out 5 (Or.inl (by omega)));clear hI ho
     go_simp
     have ho:=HO.out;exact hK.out _ _ (HJ.out.put HI.out (by omega) (lE rfl) (rfl) (fun j u _ _ _ _ h=>h) (HJ.out.v.same ho (by omega) (by omega)))
    ·
     have hA:listed.getD 18 false=false:=not_true (fun h=>aB ho (hI.tr 18 1 (by rfl) h));have hn:listed.getD 20 false=false:=not_true (fun h=>by rw[hI.tr 20 18 (by rfl) h]at hA;cases hA);obtain⟨pc,hD,hpc⟩:=hI.v.1 hA;have d0:=aK hi (j:=0) (by rfl);clear hi;refine dy rfl rfl fun K hK=>?_;have e1:x.tmps[95]?.getD undef=.pointer (some ⟨bm,7,none⟩):=ak (hI.good 0 (by omega) d0 (Or.inl hA));have k1:y.cell? ⟨bm,7,none⟩=some ((ai a3 m.qs b3)):=hD.b 7;clear hI ho
     go_simp
     have ho:=HO.out;exact hK.out _ _ (HJ.out.put HI.out (by omega) (lE rfl) (rfl) (fun j u _ _ _ _ h=>h) (HJ.out.v.same ho (by omega) (by omega)))
    ·
     have hA:listed.getD 18 false=false:=not_true (fun h=>aB ho (hI.tr 5 2 (by rfl) (hI.tr 6 5 (by rfl) (hI.tr 16 6 (by rfl) (hI.tr 17 16 (by rfl) (hI.tr 18 17 (by rfl) h))))));have hn:listed.getD 20 false=false:=not_true (fun h=>by rw[hI.tr 20 18 (by rfl) h]at hA;cases hA);obtain⟨pc,hD,hpc⟩:=hI.v.1 hA;clear hi;refine dy rfl rfl fun K hK=>?_;have hb:=Kd {data:=#[]} {data:=#[118,111,108]} {data:=#[122,122]} {data:=#[42]};clear hI ho
     go_simp
     have ho:=HO.out;have hbl:Below y.heap.size y (y.alloc (.cells (zA {data:=#[]} {data:=#[118,111,108]} {data:=#[122,122]} {data:=#[42]}) 9)):=ae bR _;have lU:lR mE B bm 4 (y.alloc (.cells (zA {data:=#[]} {data:=#[118,111,108]} {data:=#[122,122]} {data:=#[42]}) 9)) (.slice (some ⟨y.heap.size,0,none⟩) 4 4):=nz (cs:=[.string ⟨#[]⟩,.string ⟨#[118,111,108]⟩,.string ⟨#[122,122]⟩,.string ⟨#[42]⟩]) (by have:=hD.z;omega) hD.z (fun v hv=>by simp only[List.mem_cons,List.not_mem_nil,or_false]at hv;rcases hv with rfl|rfl|rfl|rfl<;>exact⟨_,rfl,by decide⟩);exact hK.out _ _ (HJ.out.put HI.out (by omega) (lE rfl) (lU) (fun j u hj hne hl hc h=>zH.keep (Ex.of_below hbl) hk0 j u (fun e'=>by subst e';rw[hA]at hl;cases hl) h) (Vr.turn ho hn (by omega) (hD.below hbl) (by omega)))
    ·
     have hA:listed.getD 18 false=false:=not_true (fun h=>aB ho (hI.tr 4 3 (by rfl) (hI.tr 5 4 (by rfl) (hI.tr 6 5 (by rfl) (hI.tr 16 6 (by rfl) (hI.tr 17 16 (by rfl) (hI.tr 18 17 (by rfl) h)))))));have hn:listed.getD 20 false=false:=not_true (fun h=>by rw[hI.tr 20 18 (by rfl) h]at hA;cases hA);obtain⟨pc,hD,hpc⟩:=hI.v.1 hA;clear hi;refine dy rfl rfl fun K hK=>?_;have e5:x.tmps[0]?.getD undef=.pointer (some ⟨kr,0,none⟩):=ak (hI.out 0 (Or.inl (by omega)));clear hI ho
     go_simp
     have ho:=HO.out;exact hK.out _ _ (HJ.out.put HI.out (by omega) (lE rfl) (rfl) (fun j u _ _ _ _ h=>h) (HJ.out.v.same ho (by omega) (by omega)))
    ·
     have hA:listed.getD 18 false=false:=not_true (fun h=>aB ho (hI.tr 5 4 (by rfl) (hI.tr 6 5 (by rfl) (hI.tr 16 6 (by rfl) (hI.tr 17 16 (by rfl) (hI.tr 18 17 (by rfl) h))))));have hn:listed.getD 20 false=false:=not_true (fun h=>by rw[hI.tr 20 18 (by rfl) h]at hA;cases hA);obtain⟨pc,hD,hpc⟩:=hI.v.1 hA;have d3:=aK hi (j:=3) (by rfl);clear hi;refine dy rfl rfl fun K hK=>?_;have e1:x.tmps[98]?.getD undef=.pointer (some ⟨kr,0,none⟩):=ak (hI.good 3 (by omega) d3 (Or.inl hA));clear hI ho
     go_simp
     have ho:=HO.out;refine(bO kr pc 4 y hD.r (by omega) (by omega) (by omega)).mono ?_;rintro e y' ⟨z,rfl,z0,z1,r9,e9⟩;exact hK.out _ _ (HJ.out.put HI.out (by omega) (lE rfl) (⟨z,rfl,z0,by omega⟩) (fun j u hj hne hl hc h=>zH.keep e9 hk0 j u (fun e'=>by subst e';rw[hA]at hl;cases hl) h) (Vr.turn ho hn (by omega) (hD.pick e9 r9) (by omega)))
    ·
     have hA:listed.getD 18 false=false:=not_true (fun h=>aB ho (hI.tr 6 5 (by rfl) (hI.tr 16 6 (by rfl) (hI.tr 17 16 (by rfl) (hI.tr 18 17 (by rfl) h)))));have hn:listed.getD 20 false=false:=not_true (fun h=>by rw[hI.tr 20 18 (by rfl) h]at hA;cases hA);obtain⟨pc,hD,hpc⟩:=hI.v.1 hA;have d2:=aK hi (j:=2) (by rfl);have d4:=aK hi (j:=4) (by rfl);clear hi;refine dy rfl rfl fun K hK=>?_;obtain⟨g,hg,g0,g1,g2,gc⟩:=hI.good 2 (by omega) d2 (Or.inl hA);obtain⟨z,hm,m0,m1⟩:=hI.good 4 (by omega) d4 (Or.inl hA);have e1:x.tmps[97]?.getD undef=_:=ak hg;have e2:x.tmps[99]?.getD undef=_:=ak hm;obtain⟨j,rfl⟩:=Int.eq_ofNat_of_zero_le m0;obtain⟨u,hu,hP⟩:=gc j (by omega);have j0:(j:Int)<4:=(by omega);clear gc hm hg;clear hI ho
     go_simp
     have ho:=HO.out;exact hK.out _ _ (HJ.out.put HI.out (by omega) (lE rfl) (⟨g,j,u,rfl,g0,g1,g2,hu,hP⟩) (fun j u _ _ _ _ h=>h) (HJ.out.v.same ho (by omega) (by omega)))
    ·
     have hA:listed.getD 18 false=false:=not_true (fun h=>aB ho (hI.tr 16 6 (by rfl) (hI.tr 17 16 (by rfl) (hI.tr 18 17 (by rfl) h))));have hn:listed.getD 20 false=false:=not_true (fun h=>by rw[hI.tr 20 18 (by rfl) h]at hA;cases hA);obtain⟨pc,hD,hpc⟩:=hI.v.1 hA;have d5:=aK hi (j:=5) (by rfl);clear hi;refine dy rfl rfl fun K hK=>?_;obtain⟨g,j,u,hv,g0,g1,g2,hu,hP⟩:=hI.good 5 (by omega) d5 (Or.inl hA);have e1:x.tmps[100]?.getD undef=_:=ak hv;obtain⟨s,rfl,hs⟩:=hP;clear hv;clear hI ho
     go_simp
     have ho:=HO.out;exact hK.out _ _ (HJ.out.put HI.out (by omega) (lE rfl) (⟨s,rfl,hs⟩) (fun j u _ _ _ _ h=>h) (HJ.out.v.same ho (by omega) (by omega)))
    ·
     have hA:listed.getD 18 false=false:=not_true (fun h=>aB ho (hI.tr 10 7 (by rfl) (hI.tr 11 10 (by rfl) (hI.tr 16 11 (by rfl) (hI.tr 17 16 (by rfl) (hI.tr 18 17 (by rfl) h))))));have hn:listed.getD 20 false=false:=not_true (fun h=>by rw[hI.tr 20 18 (by rfl) h]at hA;cases hA);obtain⟨pc,hD,hpc⟩:=hI.v.1 hA;clear hi;refine dy rfl rfl fun K hK=>?_;have hb:=Ka {data:=#[]} {data:=#[99]};clear hI ho
     go_simp
     have ho:=HO.out;have hbl:Below y.heap.size y (y.alloc (.cells (zv {data:=#[]} {data:=#[99]}) 9)):=ae bR _;have lU:lR mE B bm 2 (y.alloc (.cells (zv {data:=#[]} {data:=#[99]}) 9)) (.slice (some ⟨y.heap.size,0,none⟩) 2 2):=nz (cs:=[.string ⟨#[]⟩,.string ⟨#[99]⟩]) (by have:=hD.z;omega) hD.z (fun v hv=>by simp only[List.mem_cons,List.not_mem_nil,or_false]at hv;rcases hv with rfl|rfl<;>exact⟨_,rfl,by decide⟩);exact hK.out _ _ (HJ.out.put HI.out (by omega) (lE rfl) (lU) (fun j u hj hne hl hc h=>zH.keep (Ex.of_below hbl) hk0 j u (fun e'=>by subst e';rw[hA]at hl;cases hl) h) (Vr.turn ho hn (by omega) (hD.below hbl) (by omega)))
    ·
     have hA:listed.getD 18 false=false:=not_true (fun h=>aB ho (hI.tr 9 8 (by rfl) (hI.tr 10 9 (by rfl) (hI.tr 11 10 (by rfl) (hI.tr 16 11 (by rfl) (hI.tr 17 16 (by rfl) (hI.tr 18 17 (by rfl) h)))))));have hn:listed.getD 20 false=false:=not_true (fun h=>by rw[hI.tr 20 18 (by rfl) h]at hA;cases hA);obtain⟨pc,hD,hpc⟩:=hI.v.1 hA;clear hi;refine dy rfl rfl fun K hK=>?_;have e5:x.tmps[0]?.getD undef=.pointer (some ⟨kr,0,none⟩):=ak (hI.out 0 (Or.inl (by omega)));clear hI ho
     go_simp
     have ho:=HO.out;exact hK.out _ _ (HJ.out.put HI.out (by omega) (lE rfl) (rfl) (fun j u _ _ _ _ h=>h) (HJ.out.v.same ho (by omega) (by omega)))
    ·
     have hA:listed.getD 18 false=false:=not_true (fun h=>aB ho (hI.tr 10 9 (by rfl) (hI.tr 11 10 (by rfl) (hI.tr 16 11 (by rfl) (hI.tr 17 16 (by rfl) (hI.tr 18 17 (by rfl) h))))));have hn:listed.getD 20 false=false:=not_true (fun h=>by rw[hI.tr 20 18 (by rfl) h]at hA;cases hA);obtain⟨pc,hD,hpc⟩:=hI.v.1 hA;have d8:=aK hi (j:=8) (by rfl);clear hi;refine dy rfl rfl fun K hK=>?_;have e1:x.tmps[103]?.getD undef=.pointer (some ⟨kr,0,none⟩):=ak (hI.good 8 (by omega) d8 (Or.inl hA));clear hI ho
     go_simp
     have ho:=HO.out;refine(bO kr pc 2 y hD.r (by omega) (by omega) (by omega)).mono ?_;rintro e y' ⟨z,rfl,z0,z1,r9,e9⟩;exact hK.out _ _ (HJ.out.put HI.out (by omega) (lE rfl) (⟨z,rfl,z0,by omega⟩) (fun j u hj hne hl hc h=>zH.keep e9 hk0 j u (fun e'=>by subst e';rw[hA]at hl;cases hl) h) (Vr.turn ho hn (by omega) (hD.pick e9 r9) (by omega)))
    ·
     have hA:listed.getD 18 false=false:=not_true (fun h=>aB ho (hI.tr 11 10 (by rfl) (hI.tr 16 11 (by rfl) (hI.tr 17 16 (by rfl) (hI.tr 18 17 (by rfl) h)))));have hn:listed.getD 20 false=false:=not_true (fun h=>by rw[hI.tr 20 18 (by rfl) h]at hA;cases hA);obtain⟨pc,hD,hpc⟩:=hI.v.1 hA;have d7:=aK hi (j:=7) (by rfl);have d9:=aK hi (j:=9) (by rfl);clear hi;refine dy rfl rfl fun K hK=>?_;obtain⟨g,hg,g0,g1,g2,gc⟩:=hI.good 7 (by omega) d7 (Or.inl hA);obtain⟨z,hm,m0,m1⟩:=hI.good 9 (by omega) d9 (Or.inl hA);have e1:x.tmps[102]?.getD undef=_:=ak hg;have e2:x.tmps[104]?.getD undef=_:=ak hm;obtain⟨j,rfl⟩:=Int.eq_ofNat_of_zero_le m0;obtain⟨u,hu,hP⟩:=gc j (by omega);have j0:(j:Int)<2:=(by omega);clear gc hm hg;clear hI ho
     go_simp
     have ho:=HO.out;exact hK.out _ _ (HJ.out.put HI.out (by omega) (lE rfl) (⟨g,j,u,rfl,g0,g1,g2,hu,hP⟩) (fun j u _ _ _ _ h=>h) (HJ.out.v.same ho (by omega) (by omega)))
    ·
     have hA:listed.getD 18 false=false:=not_true (fun h=>aB ho (hI.tr 16 11 (by rfl) (hI.tr 17 16 (by rfl) (hI.tr 18 17 (by rfl) h))));have hn:listed.getD 20 false=false:=not_true (fun h=>by rw[hI.tr 20 18 (by rfl) h]at hA;cases hA);obtain⟨pc,hD,hpc⟩:=hI.v.1 hA;have kQ:=aK hi (j:=10) (by rfl);clear hi;refine dy rfl rfl fun K hK=>?_;obtain⟨g,j,u,hv,g0,g1,g2,hu,hP⟩:=hI.good 10 (by omega) kQ (Or.inl hA);have e1:x.tmps[105]?.getD undef=_:=ak hv;obtain⟨s,rfl,hs⟩:=hP;clear hv;clear hI ho
     go_simp
     have ho:=HO.out;exact hK.out _ _ (HJ.out.put HI.out (by omega) (lE rfl) (⟨s,rfl,hs⟩) (fun j u _ _ _ _ h=>h) (HJ.out.v.same ho (by omega) (by omega)))
    ·
     have hA:listed.getD 18 false=false:=not_true (fun h=>aB ho (hI.tr 13 12 (by rfl) (hI.tr 16 13 (by rfl) (hI.tr 17 16 (by rfl) (hI.tr 18 17 (by rfl) h)))));have hn:listed.getD 20 false=false:=not_true (fun h=>by rw[hI.tr 20 18 (by rfl) h]at hA;cases hA);obtain⟨pc,hD,hpc⟩:=hI.v.1 hA;clear hi;refine dy rfl rfl fun K hK=>?_;have e5:x.tmps[0]?.getD undef=.pointer (some ⟨kr,0,none⟩):=ak (hI.out 0 (Or.inl (by omega)));clear hI ho
     go_simp
     have ho:=HO.out;exact hK.out _ _ (HJ.out.put HI.out (by omega) (lE rfl) (rfl) (fun j u _ _ _ _ h=>h) (HJ.out.v.same ho (by omega) (by omega)))
    ·
     have hA:listed.getD 18 false=false:=not_true (fun h=>aB ho (hI.tr 16 13 (by rfl) (hI.tr 17 16 (by rfl) (hI.tr 18 17 (by rfl) h))));have hn:listed.getD 20 false=false:=not_true (fun h=>by rw[hI.tr 20 18 (by rfl) h]at hA;cases hA);obtain⟨pc,hD,hpc⟩:=hI.v.1 hA;have gR:=aK hi (j:=12) (by rfl);clear hi;refine dy rfl rfl fun K hK=>?_;have e1:x.tmps[107]?.getD undef=.pointer (some ⟨kr,0,none⟩):=ak (hI.good 12 (by omega) gR (Or.inl hA));clear hI ho
     go_simp
     have ho:=HO.out;refine(bO kr pc 3 y hD.r (by omega) (by omega) (by omega)).mono ?_;rintro e y' ⟨z,rfl,z0,z1,r9,e9⟩;exact hK.out _ _ (HJ.out.put HI.out (by omega) (lE rfl) (⟨z,rfl,z0,by omega⟩) (fun j u hj hne hl hc h=>zH.keep e9 hk0 j u (fun e'=>by subst e';rw[hA]at hl;cases hl) h) (Vr.turn ho hn (by omega) (hD.pick e9 r9) (by omega)))
    ·
     have hA:listed.getD 18 false=false:=not_true (fun h=>aB ho (hI.tr 15 14 (by rfl) (hI.tr 16 15 (by rfl) (hI.tr 17 16 (by rfl) (hI.tr 18 17 (by rfl) h)))));have hn:listed.getD 20 false=false:=not_true (fun h=>by rw[hI.tr 20 18 (by rfl) h]at hA;cases hA);obtain⟨pc,hD,hpc⟩:=hI.v.1 hA;clear hi;refine dy rfl rfl fun K hK=>?_;have e5:x.tmps[0]?.getD undef=.pointer (some ⟨kr,0,none⟩):=ak (hI.out 0 (Or.inl (by omega)));clear hI ho
     go_simp
     have ho:=HO.out;exact hK.out _ _ (HJ.out.put HI.out (by omega) (lE rfl) (rfl) (fun j u _ _ _ _ h=>h) (HJ.out.v.same ho (by omega) (by omega)))
    ·
     have hA:listed.getD 18 false=false:=not_true (fun h=>aB ho (hI.tr 16 15 (by rfl) (hI.tr 17 16 (by rfl) (hI.tr 18 17 (by rfl) h))));have hn:listed.getD 20 false=false:=not_true (fun h=>by rw[hI.tr 20 18 (by rfl) h]at hA;cases hA);obtain⟨pc,hD,hpc⟩:=hI.v.1 hA;have iq:=aK hi (j:=14) (by rfl);clear hi;refine dy rfl rfl fun K hK=>?_;have e1:x.tmps[109]?.getD undef=.pointer (some ⟨kr,0,none⟩):=ak (hI.good 14 (by omega) iq (Or.inl hA));clear hI ho
     go_simp
     have ho:=HO.out;refine(bO kr pc 70 y hD.r (by omega) (by omega) (by omega)).mono ?_;rintro e y' ⟨z,rfl,z0,z1,r9,e9⟩;exact hK.out _ _ (HJ.out.put HI.out (by omega) (lE rfl) (⟨z,rfl,z0,by omega⟩) (fun j u hj hne hl hc h=>zH.keep e9 hk0 j u (fun e'=>by subst e';rw[hA]at hl;cases hl) h) (Vr.turn ho hn (by omega) (hD.pick e9 r9) (by omega)))
    ·
     have hA:listed.getD 18 false=false:=not_true (fun h=>aB ho (hI.tr 17 16 (by rfl) (hI.tr 18 17 (by rfl) h)));have hn:listed.getD 20 false=false:=not_true (fun h=>by rw[hI.tr 20 18 (by rfl) h]at hA;cases hA);obtain⟨pc,hD,hpc⟩:=hI.v.1 hA;have d6:=aK hi (j:=6) (by rfl);have J5:=aK hi (j:=11) (by rfl);have im:=aK hi (j:=13) (by rfl);have Oo:=aK hi (j:=15) (by rfl);clear hi;refine dy rfl rfl fun K hK=>?_;obtain⟨h,h1,hh⟩:=hI.good 6 (by omega) d6 (Or.inl hA);obtain⟨c,h2,hc⟩:=hI.good 11 (by omega) J5 (Or.inl hA);obtain⟨f,h3,f0,f1⟩:=hI.good 13 (by omega) im (Or.inl hA);obtain⟨a,h4,a0',a1'⟩:=hI.good 15 (by omega) Oo (Or.inl hA);have e0:x.tmps[101]?.getD undef=_:=ak h1;have e1:x.tmps[106]?.getD undef=_:=ak h2;have e2:x.tmps[108]?.getD undef=_:=ak h3;have e3:x.tmps[110]?.getD undef=_:=ak h4;clear h1 h2 h3 h4;clear hI ho
     go_simp
     have ho:=HO.out;exact hK.out _ _ (HJ.out.put HI.out (by omega) (lE rfl) (⟨h,_,f,a,rfl,hh,hc⟩) (fun j u _ _ _ _ h=>h) (HJ.out.v.same ho (by omega) (by omega)))
    ·
     have hA:listed.getD 18 false=false:=not_true (fun h=>aB ho (hI.tr 18 17 (by rfl) h));have hn:listed.getD 20 false=false:=not_true (fun h=>by rw[hI.tr 20 18 (by rfl) h]at hA;cases hA);obtain⟨pc,hD,hpc⟩:=hI.v.1 hA;have TQ:=aK hi (j:=16) (by rfl);clear hi;refine dy rfl rfl fun K hK=>?_;obtain⟨h,c,f,a,hv,hh,hc⟩:=hI.good 16 (by omega) TQ (Or.inl hA);have e1:x.tmps[111]?.getD undef=_:=ak hv;have hb:=ED h c f a;clear hv;clear hI ho
     go_simp
     have ho:=HO.out;have hbl:Below y.heap.size y (y.alloc (.cells (zC h c f a) 64)):=ae bR _;have lU:mQ B (y.alloc (.cells (zC h c f a) 64)) (.slice (some ⟨y.heap.size,0,none⟩) 1 1):=⟨h,c,f,a,y.heap.size,rfl,(by have:=hD.z;omega),by simp,da rfl,hh,hc⟩
     exact hK.out _ _ (HJ.out.put HI.out (by omega) (lE rfl) (lU) (fun j u hj hne hl hc h=>zH.keep (Ex.of_below hbl) hk0 j u (fun e'=>by subst e';rw[hA]at hl;cases hl) h) (Vr.turn ho hn (by omega) (hD.below hbl) (by omega)))
    ·
     have hA:listed.getD 18 false=false:=not_true (fun h=>aB ho h);have hn:listed.getD 20 false=false:=not_true (fun h=>by rw[hI.tr 20 18 (by rfl) h]at hA;cases hA);obtain⟨pc,hD,hpc⟩:=hI.v.1 hA;have d1:=aK hi (j:=1) (by rfl);have NU:=aK hi (j:=17) (by rfl);clear hi;refine dy rfl rfl fun K hK=>?_;have e1:x.tmps.getD 96 undef=(ai a3 m.qs b3):=hI.good 1 (by omega) d1 (Or.inl hA);have hN:mQ B y (x.tmps.getD 112 undef):=hI.good 17 (by omega) NU (Or.inl hA);refine zI B (.tmp 96) (.tmp 112) rfl m.qs (ai a3 m.qs b3) _ e1 hD.l.a3 (by have:=hD.z;omega) rfl hN (by have:=HF.out.q1;omega) ?_;intro s' w' hh c f a o1 g1 hat h20 c20;exact hK.out _ _ (hI.put HI.out (by omega) (lE rfl) ⟨y,pc,hh,c,f,a,hD,by omega,g1,o1,hat,h20,c20⟩ (fun j u hj hne hl hc h=>by
      rcases hc with hc|hc
      ·
       rw[dp (by rw[hI.lz];omega)]at hc;cases hc
      ·
       obtain rfl:j=19:=by omega
       exact h) (Vr.past (dp (by rw[hI.lz];omega)) (by rw[dZ (by omega)];exact hn)))
    ·
     clear hi;refine dy rfl rfl fun K hK=>?_;have e5:x.tmps[5]?.getD undef=.pointer (some ⟨bm,0,none⟩):=ak (hI.out 5 (Or.inl (by omega)));clear hI ho
     go_simp
     have ho:=HO.out;exact hK.out _ _ (HJ.out.put HI.out (by omega) (lE rfl) (rfl) (fun j u _ _ _ _ h=>h) (HJ.out.v.same ho (by omega) (by omega)))
    ·
     have hn:listed.getD 20 false=false:=not_true (fun h=>aB ho h);have NV:=aK hi (j:=19) (by rfl);have Oq:=aK hi (j:=18) (by rfl);clear hi;refine dy rfl rfl fun K hK=>?_;obtain⟨x0,p0,hh,c,f,a,hD,hp,hg,ho1,hat,h20,c20⟩:=hI.good 18 (by omega) Oq (Or.inr ⟨by omega,hn⟩);have e1:x.tmps[114]?.getD undef=.pointer (some ⟨bm,7,none⟩):=ak (hI.good 19 (by omega) NV (Or.inr ⟨by omega,hn⟩));obtain⟨aa,pp,hv⟩:=A.Ow.shape ho1;generalize hnn:List.length _=nn at hv;have e2:x.tmps[113]?.getD undef=_:=ak hv;rw[hv]at ho1 hat;obtain⟨kb,kc,-⟩:=gX hD hg (fun k hk=>⟨by have h1:=(hD.l.a3.lt k hk).1;have h2:=hD.zb;omega,fun e=>hD.nb.2.2.1 (by rw[hk,e])⟩);have k1:y.cell? ⟨bm,7,none⟩=some (ai a3 m.qs b3):=kb 7;have k2:y.frozen? ⟨bm,7,none⟩=false:=kc 7;have HE:=Dn.Ck hD hg ho1 hat;have hA':(listed.setIfInBounds 20 true).getD 18 false=true:=(by rw[dZ (by omega)];exact Oq);clear kb kc hv hnn;clear hI ho
     go_simp
     have ho:=HO.out;exact hK.out _ _ (HJ.out.last (u:=undef) HI.out (Or.inr Oq) (Vr.fin hA' ⟨_,_,_,_,_,HE.up (by omega),Ki HF.out.fq (by have:=HF.out.q1;omega) ⟨by show hh.size<=maxLen;unfold maxLen;omega,by show c.size<=maxLen;unfold maxLen;omega⟩⟩))
  ·
   go_wp2_with fail
   refine wp_region_any (by kernel_rfl) ?_;refine ja 117 16 14 (CH kr bm B (ai a4 m.gs b4) B (fun p y=>Dn W0 kr bm B m (ai a1 m.ws b1) (ai a2 m.rs bb2) (ai a3 m.qs b3) (ai a4 m.gs b4) (p) y) (q+1+1+3400) m.gs) (fun p y=>Dn W0 kr bm B m (ai a1 m.ws b1) (ai a2 m.rs bb2) (ai a3 m.qs b3) (ai a4 m.gs b4) (p) y) (fun y=>∃m' t1 t2 t3 t4,Dn W0 kr bm B m' t1 t2 t3 t4 (q+4300) y/\m'.fq) (q+1+1) (by decide) rfl (lE rfl) (D4.out.below bD) ?Gb ?Gc
   case Gb=>
    intro l y hl hE;obtain⟨v0,l0,rfl,hl0⟩:=aD hl;obtain⟨v1,l1,rfl,hl1⟩:=aD hl0;obtain⟨v2,l2,rfl,hl2⟩:=aD hl1;obtain⟨v3,l3,rfl,hl3⟩:=aD hl2;obtain⟨v4,l4,rfl,hl4⟩:=aD hl3;obtain⟨v5,l5,rfl,hl5⟩:=aD hl4;obtain⟨v6,l6,rfl,mP⟩:=aD hl5;obtain⟨v7,l7,rfl,uO⟩:=aD mP;obtain⟨v8,l8,rfl,uP⟩:=aD uO;obtain⟨v9,l9,rfl,uQ⟩:=aD uP;obtain⟨v10,l10,rfl,qG⟩:=aD uQ;obtain⟨v11,QL,rfl,zq⟩:=aD qG;obtain⟨v12,QM,rfl,hl12⟩:=aD zq;obtain⟨v13,QN,rfl,zt⟩:=aD hl12;obtain⟨v14,TN,rfl,F9⟩:=aD zt;obtain⟨v15,TP,rfl,Ga⟩:=aD F9;obtain rfl:=fI Ga;simp only[Ep,Nat.reduceAdd];go_wp2_with fail
    go_meet
    exact hE
   case Gc=>
    intro listed x y i hI hi hlt;have ho:=bQ hi;have ho:=bQ hi;have HJ:=ah hI;have HI:=ah hi;have HO:=ah ho;obtain rfl|rfl|rfl|rfl|rfl|rfl|rfl|rfl|rfl|rfl|rfl|rfl|rfl|rfl|rfl|rfl|rfl:i=0\/i=1\/i=2\/i=3\/i=4\/i=5\/i=6\/i=7\/i=8\/i=9\/i=10\/i=11\/i=12\/i=13\/i=14\/i=15\/i=16:=by omega
    ·
     have hA:listed.getD 14 false=false:=not_true (fun h=>aB ho (hI.tr 1 0 (by rfl) (hI.tr 14 1 (by rfl) h)));have hn:listed.getD 16 false=false:=not_true (fun h=>by rw[hI.tr 16 14 (by rfl) h]at hA;cases hA);obtain⟨pc,hD,hpc⟩:=hI.v.1 hA;clear hi;refine dy rfl rfl fun K hK=>?_;have e5:x.tmps[5]?.getD undef=.pointer (some ⟨bm,0,none⟩):=ak (hI.out 5 (Or.inl (by omega)));clear hI ho
     go_simp
     have ho:=HO.out;exact hK.out _ _ (HJ.out.put HI.out (by omega) (lE rfl) (rfl) (fun j u _ _ _ _ h=>h) (HJ.out.v.same ho (by omega) (by omega)))
    ·
     have hA:listed.getD 14 false=false:=not_true (fun h=>aB ho (hI.tr 14 1 (by rfl) h));have hn:listed.getD 16 false=false:=not_true (fun h=>by rw[hI.tr 16 14 (by rfl) h]at hA;cases hA);obtain⟨pc,hD,hpc⟩:=hI.v.1 hA;have d0:=aK hi (j:=0) (by rfl);clear hi;refine dy rfl rfl fun K hK=>?_;have e1:x.tmps[117]?.getD undef=.pointer (some ⟨bm,8,none⟩):=ak (hI.good 0 (by omega) d0 (Or.inl hA));have k1:y.cell? ⟨bm,8,none⟩=some ((ai a4 m.gs b4)):=hD.b 8;clear hI ho
     go_simp
     have ho:=HO.out;exact hK.out _ _ (HJ.out.put HI.out (by omega) (lE rfl) (rfl) (fun j u _ _ _ _ h=>h) (HJ.out.v.same ho (by omega) (by omega)))
    ·
     have hA:listed.getD 14 false=false:=not_true (fun h=>aB ho (hI.tr 5 2 (by rfl) (hI.tr 6 5 (by rfl) (hI.tr 12 6 (by rfl) (hI.tr 13 12 (by rfl) (hI.tr 14 13 (by rfl) h))))));have hn:listed.getD 16 false=false:=not_true (fun h=>by rw[hI.tr 16 14 (by rfl) h]at hA;cases hA);obtain⟨pc,hD,hpc⟩:=hI.v.1 hA;clear hi;refine dy rfl rfl fun K hK=>?_;have hb:=Kc {data:=#[]} {data:=#[118,111,108]} {data:=#[122,122]};clear hI ho
     go_simp
     have ho:=HO.out;have hbl:Below y.heap.size y (y.alloc (.cells (zz {data:=#[]} {data:=#[118,111,108]} {data:=#[122,122]}) 9)):=ae bR _;have lU:lR mE B bm 3 (y.alloc (.cells (zz {data:=#[]} {data:=#[118,111,108]} {data:=#[122,122]}) 9)) (.slice (some ⟨y.heap.size,0,none⟩) 3 3):=nz (cs:=[.string ⟨#[]⟩,.string ⟨#[118,111,108]⟩,.string ⟨#[122,122]⟩]) (by have:=hD.z;omega) hD.z (fun v hv=>by simp only[List.mem_cons,List.not_mem_nil,or_false]at hv;rcases hv with rfl|rfl|rfl<;>exact⟨_,rfl,by decide⟩);exact hK.out _ _ (HJ.out.put HI.out (by omega) (lE rfl) (lU) (fun j u hj hne hl hc h=>CH.keep (Ex.of_below hbl) hk0 j u (fun e'=>by subst e';rw[hA]at hl;cases hl) h) (Vr.turn ho hn (by omega) (hD.below hbl) (by omega)))
    ·
     have hA:listed.getD 14 false=false:=not_true (fun h=>aB ho (hI.tr 4 3 (by rfl) (hI.tr 5 4 (by rfl) (hI.tr 6 5 (by rfl) (hI.tr 12 6 (by rfl) (hI.tr 13 12 (by rfl) (hI.tr 14 13 (by rfl) h)))))));have hn:listed.getD 16 false=false:=not_true (fun h=>by rw[hI.tr 16 14 (by rfl) h]at hA;cases hA);obtain⟨pc,hD,hpc⟩:=hI.v.1 hA;clear hi;refine dy rfl rfl fun K hK=>?_;have e5:x.tmps[0]?.getD undef=.pointer (some ⟨kr,0,none⟩):=ak (hI.out 0 (Or.inl (by omega)));clear hI ho
     go_simp
     have ho:=HO.out;exact hK.out _ _ (HJ.out.put HI.out (by omega) (lE rfl) (rfl) (fun j u _ _ _ _ h=>h) (HJ.out.v.same ho (by omega) (by omega)))
    ·
     have hA:listed.getD 14 false=false:=not_true (fun h=>aB ho (hI.tr 5 4 (by rfl) (hI.tr 6 5 (by rfl) (hI.tr 12 6 (by rfl) (hI.tr 13 12 (by rfl) (hI.tr 14 13 (by rfl) h))))));have hn:listed.getD 16 false=false:=not_true (fun h=>by rw[hI.tr 16 14 (by rfl) h]at hA;cases hA);obtain⟨pc,hD,hpc⟩:=hI.v.1 hA;have d3:=aK hi (j:=3) (by rfl);clear hi;refine dy rfl rfl fun K hK=>?_;have e1:x.tmps[120]?.getD undef=.pointer (some ⟨kr,0,none⟩):=ak (hI.good 3 (by omega) d3 (Or.inl hA));clear hI ho
     go_simp
     have ho:=HO.out;refine(bO kr pc 3 y hD.r (by omega) (by omega) (by omega)).mono ?_;rintro e y' ⟨z,rfl,z0,z1,r9,e9⟩;exact hK.out _ _ (HJ.out.put HI.out (by omega) (lE rfl) (⟨z,rfl,z0,by omega⟩) (fun j u hj hne hl hc h=>CH.keep e9 hk0 j u (fun e'=>by subst e';rw[hA]at hl;cases hl) h) (Vr.turn ho hn (by omega) (hD.pick e9 r9) (by omega)))
    ·
     have hA:listed.getD 14 false=false:=not_true (fun h=>aB ho (hI.tr 6 5 (by rfl) (hI.tr 12 6 (by rfl) (hI.tr 13 12 (by rfl) (hI.tr 14 13 (by rfl) h)))));have hn:listed.getD 16 false=false:=not_true (fun h=>by rw[hI.tr 16 14 (by rfl) h]at hA;cases hA);obtain⟨pc,hD,hpc⟩:=hI.v.1 hA;have d2:=aK hi (j:=2) (by rfl);have d4:=aK hi (j:=4) (by rfl);clear hi;refine dy rfl rfl fun K hK=>?_;obtain⟨g,hg,g0,g1,g2,gc⟩:=hI.good 2 (by omega) d2 (Or.inl hA);obtain⟨z,hm,m0,m1⟩:=hI.good 4 (by omega) d4 (Or.inl hA);have e1:x.tmps[119]?.getD undef=_:=ak hg;have e2:x.tmps[121]?.getD undef=_:=ak hm;obtain⟨j,rfl⟩:=Int.eq_ofNat_of_zero_le m0;obtain⟨u,hu,hP⟩:=gc j (by omega);have j0:(j:Int)<3:=(by omega);clear gc hm hg;clear hI ho
     go_simp
     have ho:=HO.out;exact hK.out _ _ (HJ.out.put HI.out (by omega) (lE rfl) (⟨g,j,u,rfl,g0,g1,g2,hu,hP⟩) (fun j u _ _ _ _ h=>h) (HJ.out.v.same ho (by omega) (by omega)))
    ·
     have hA:listed.getD 14 false=false:=not_true (fun h=>aB ho (hI.tr 12 6 (by rfl) (hI.tr 13 12 (by rfl) (hI.tr 14 13 (by rfl) h))));have hn:listed.getD 16 false=false:=not_true (fun h=>by rw[hI.tr 16 14 (by rfl) h]at hA;cases hA);obtain⟨pc,hD,hpc⟩:=hI.v.1 hA;have d5:=aK hi (j:=5) (by rfl);clear hi;refine dy rfl rfl fun K hK=>?_;obtain⟨g,j,u,hv,g0,g1,g2,hu,hP⟩:=hI.good 5 (by omega) d5 (Or.inl hA);have e1:x.tmps[122]?.getD undef=_:=ak hv;obtain⟨s,rfl,hs⟩:=hP;clear hv;clear hI ho
     go_simp
     have ho:=HO.out;exact hK.out _ _ (HJ.out.put HI.out (by omega) (lE rfl) (⟨s,rfl,hs⟩) (fun j u _ _ _ _ h=>h) (HJ.out.v.same ho (by omega) (by omega)))
    ·
     have hA:listed.getD 14 false=false:=not_true (fun h=>aB ho (hI.tr 8 7 (by rfl) (hI.tr 9 8 (by rfl) (hI.tr 12 9 (by rfl) (hI.tr 13 12 (by rfl) (hI.tr 14 13 (by rfl) h))))));have hn:listed.getD 16 false=false:=not_true (fun h=>by rw[hI.tr 16 14 (by rfl) h]at hA;cases hA);obtain⟨pc,hD,hpc⟩:=hI.v.1 hA;clear hi;refine dy rfl rfl fun K hK=>?_;have e5:x.tmps[0]?.getD undef=.pointer (some ⟨kr,0,none⟩):=ak (hI.out 0 (Or.inl (by omega)));clear hI ho
     go_simp
     have ho:=HO.out;exact hK.out _ _ (HJ.out.put HI.out (by omega) (lE rfl) (rfl) (fun j u _ _ _ _ h=>h) (HJ.out.v.same ho (by omega) (by omega)))
    ·
     have hA:listed.getD 14 false=false:=not_true (fun h=>aB ho (hI.tr 9 8 (by rfl) (hI.tr 12 9 (by rfl) (hI.tr 13 12 (by rfl) (hI.tr 14 13 (by rfl) h)))));have hn:listed.getD 16 false=false:=not_true (fun h=>by rw[hI.tr 16 14 (by rfl) h]at hA;cases hA);obtain⟨pc,hD,hpc⟩:=hI.v.1 hA;have d7:=aK hi (j:=7) (by rfl);clear hi;refine dy rfl rfl fun K hK=>?_;have e1:x.tmps[124]?.getD undef=.pointer (some ⟨kr,0,none⟩):=ak (hI.good 7 (by omega) d7 (Or.inl hA));clear hI ho
     go_simp
     have ho:=HO.out;refine(bO kr pc 3 y hD.r (by omega) (by omega) (by omega)).mono ?_;rintro e y' ⟨z,rfl,z0,z1,r9,e9⟩;exact hK.out _ _ (HJ.out.put HI.out (by omega) (lE rfl) (⟨z,rfl,z0,by omega⟩) (fun j u hj hne hl hc h=>CH.keep e9 hk0 j u (fun e'=>by subst e';rw[hA]at hl;cases hl) h) (Vr.turn ho hn (by omega) (hD.pick e9 r9) (by omega)))
    ·
     have hA:listed.getD 14 false=false:=not_true (fun h=>aB ho (hI.tr 12 9 (by rfl) (hI.tr 13 12 (by rfl) (hI.tr 14 13 (by rfl) h))));have hn:listed.getD 16 false=false:=not_true (fun h=>by rw[hI.tr 16 14 (by rfl) h]at hA;cases hA);obtain⟨pc,hD,hpc⟩:=hI.v.1 hA;have d8:=aK hi (j:=8) (by rfl);clear hi;refine dy rfl rfl fun K hK=>?_;obtain⟨z,hz,z0,z1⟩:=hI.good 8 (by omega) d8 (Or.inl hA);have e1:x.tmps[125]?.getD undef=_:=ak hz;clear hI ho
     go_simp
     have ho:=HO.out;exact hK.out _ _ (HJ.out.put HI.out (by omega) (lE rfl) (⟨_,rfl⟩) (fun j u _ _ _ _ h=>h) (HJ.out.v.same ho (by omega) (by omega)))
    ·
     have hA:listed.getD 14 false=false:=not_true (fun h=>aB ho (hI.tr 11 10 (by rfl) (hI.tr 12 11 (by rfl) (hI.tr 13 12 (by rfl) (hI.tr 14 13 (by rfl) h)))));have hn:listed.getD 16 false=false:=not_true (fun h=>by rw[hI.tr 16 14 (by rfl) h]at hA;cases hA);obtain⟨pc,hD,hpc⟩:=hI.v.1 hA;clear hi;refine dy rfl rfl fun K hK=>?_;have e5:x.tmps[0]?.getD undef=.pointer (some ⟨kr,0,none⟩):=ak (hI.out 0 (Or.inl (by omega)));clear hI ho
     go_simp
     have ho:=HO.out;exact hK.out _ _ (HJ.out.put HI.out (by omega) (lE rfl) (rfl) (fun j u _ _ _ _ h=>h) (HJ.out.v.same ho (by omega) (by omega)))
    ·
     have hA:listed.getD 14 false=false:=not_true (fun h=>aB ho (hI.tr 12 11 (by rfl) (hI.tr 13 12 (by rfl) (hI.tr 14 13 (by rfl) h))));have hn:listed.getD 16 false=false:=not_true (fun h=>by rw[hI.tr 16 14 (by rfl) h]at hA;cases hA);obtain⟨pc,hD,hpc⟩:=hI.v.1 hA;have kQ:=aK hi (j:=10) (by rfl);clear hi;refine dy rfl rfl fun K hK=>?_;have e1:x.tmps[127]?.getD undef=.pointer (some ⟨kr,0,none⟩):=ak (hI.good 10 (by omega) kQ (Or.inl hA));clear hI ho
     go_simp
     have ho:=HO.out;refine(bO kr pc 5 y hD.r (by omega) (by omega) (by omega)).mono ?_;rintro e y' ⟨z,rfl,z0,z1,r9,e9⟩;exact hK.out _ _ (HJ.out.put HI.out (by omega) (lE rfl) (⟨z,rfl,z0,by omega⟩) (fun j u hj hne hl hc h=>CH.keep e9 hk0 j u (fun e'=>by subst e';rw[hA]at hl;cases hl) h) (Vr.turn ho hn (by omega) (hD.pick e9 r9) (by omega)))
    ·
     have hA:listed.getD 14 false=false:=not_true (fun h=>aB ho (hI.tr 13 12 (by rfl) (hI.tr 14 13 (by rfl) h)));have hn:listed.getD 16 false=false:=not_true (fun h=>by rw[hI.tr 16 14 (by rfl) h]at hA;cases hA);obtain⟨pc,hD,hpc⟩:=hI.v.1 hA;have d6:=aK hi (j:=6) (by rfl);have d9:=aK hi (j:=9) (by rfl);have J5:=aK hi (j:=11) (by rfl);clear hi;refine dy rfl rfl fun K hK=>?_;obtain⟨h,h1,hh⟩:=hI.good 6 (by omega) d6 (Or.inl hA);obtain⟨f,h3⟩:=hI.good 9 (by omega) d9 (Or.inl hA);obtain⟨a,h4,a0',a1'⟩:=hI.good 11 (by omega) J5 (Or.inl hA);have e0:x.tmps[123]?.getD undef=_:=ak h1;have e2:x.tmps[126]?.getD undef=_:=ak h3;have e3:x.tmps[128]?.getD undef=_:=ak h4;clear h1 h3 h4;clear hI ho
     go_simp
     have ho:=HO.out;exact hK.out _ _ (HJ.out.put HI.out (by omega) (lE rfl) (⟨h,_,f,a,rfl,hh,(by decide)⟩) (fun j u _ _ _ _ h=>h) (HJ.out.v.same ho (by omega) (by omega)))
    ·
     have hA:listed.getD 14 false=false:=not_true (fun h=>aB ho (hI.tr 14 13 (by rfl) h));have hn:listed.getD 16 false=false:=not_true (fun h=>by rw[hI.tr 16 14 (by rfl) h]at hA;cases hA);obtain⟨pc,hD,hpc⟩:=hI.v.1 hA;have gR:=aK hi (j:=12) (by rfl);clear hi;refine dy rfl rfl fun K hK=>?_;obtain⟨h,c,f,a,hv,hh,hc⟩:=hI.good 12 (by omega) gR (Or.inl hA);have e1:x.tmps[129]?.getD undef=_:=ak hv;have hb:=ED h c f a;clear hv;clear hI ho
     go_simp
     have ho:=HO.out;have hbl:Below y.heap.size y (y.alloc (.cells (zC h c f a) 64)):=ae bR _;have lU:mQ B (y.alloc (.cells (zC h c f a) 64)) (.slice (some ⟨y.heap.size,0,none⟩) 1 1):=⟨h,c,f,a,y.heap.size,rfl,(by have:=hD.z;omega),by simp,da rfl,hh,hc⟩
     exact hK.out _ _ (HJ.out.put HI.out (by omega) (lE rfl) (lU) (fun j u hj hne hl hc h=>CH.keep (Ex.of_below hbl) hk0 j u (fun e'=>by subst e';rw[hA]at hl;cases hl) h) (Vr.turn ho hn (by omega) (hD.below hbl) (by omega)))
    ·
     have hA:listed.getD 14 false=false:=not_true (fun h=>aB ho h);have hn:listed.getD 16 false=false:=not_true (fun h=>by rw[hI.tr 16 14 (by rfl) h]at hA;cases hA);obtain⟨pc,hD,hpc⟩:=hI.v.1 hA;have d1:=aK hi (j:=1) (by rfl);have im:=aK hi (j:=13) (by rfl);clear hi;refine dy rfl rfl fun K hK=>?_;have e1:x.tmps.getD 118 undef=(ai a4 m.gs b4):=hI.good 1 (by omega) d1 (Or.inl hA);have hN:mQ B y (x.tmps.getD 130 undef):=hI.good 13 (by omega) im (Or.inl hA);refine zI B (.tmp 118) (.tmp 130) rfl m.gs (ai a4 m.gs b4) _ e1 hD.l.a4 (by have:=hD.z;omega) rfl hN (by have:=HF.out.g1;omega) ?_;intro s' w' hh c f a o1 g1 hat h20 c20;exact hK.out _ _ (hI.put HI.out (by omega) (lE rfl) ⟨y,pc,hh,c,f,a,hD,by omega,g1,o1,hat,h20,c20⟩ (fun j u hj hne hl hc h=>by
      rcases hc with hc|hc
      ·
       rw[dp (by rw[hI.lz];omega)]at hc;cases hc
      ·
       obtain rfl:j=15:=by omega
       exact h) (Vr.past (dp (by rw[hI.lz];omega)) (by rw[dZ (by omega)];exact hn)))
    ·
     clear hi;refine dy rfl rfl fun K hK=>?_;have e5:x.tmps[5]?.getD undef=.pointer (some ⟨bm,0,none⟩):=ak (hI.out 5 (Or.inl (by omega)));clear hI ho
     go_simp
     have ho:=HO.out;exact hK.out _ _ (HJ.out.put HI.out (by omega) (lE rfl) (rfl) (fun j u _ _ _ _ h=>h) (HJ.out.v.same ho (by omega) (by omega)))
    ·
     have hn:listed.getD 16 false=false:=not_true (fun h=>aB ho h);have Oo:=aK hi (j:=15) (by rfl);have iq:=aK hi (j:=14) (by rfl);clear hi;refine dy rfl rfl fun K hK=>?_;obtain⟨x0,p0,hh,c,f,a,hD,hp,hg,ho1,hat,h20,c20⟩:=hI.good 14 (by omega) iq (Or.inr ⟨by omega,hn⟩);have e1:x.tmps[132]?.getD undef=.pointer (some ⟨bm,8,none⟩):=ak (hI.good 15 (by omega) Oo (Or.inr ⟨by omega,hn⟩));obtain⟨aa,pp,hv⟩:=A.Ow.shape ho1;generalize hnn:List.length _=nn at hv;have e2:x.tmps[131]?.getD undef=_:=ak hv;rw[hv]at ho1 hat;obtain⟨kb,kc,-⟩:=gX hD hg (fun k hk=>⟨by have h1:=(hD.l.a4.lt k hk).1;have h2:=hD.zb;omega,fun e=>hD.nb.2.2.2 (by rw[hk,e])⟩);have k1:y.cell? ⟨bm,8,none⟩=some (ai a4 m.gs b4):=kb 8;have k2:y.frozen? ⟨bm,8,none⟩=false:=kc 8;have HE:=Dn.FJ hD hg ho1 hat;have hA':(listed.setIfInBounds 16 true).getD 14 false=true:=(by rw[dZ (by omega)];exact iq);clear kb kc hv hnn;clear hI ho
     go_simp
     have ho:=HO.out;exact hK.out _ _ (HJ.out.last (u:=undef) HI.out (Or.inr iq) (Vr.fin hA' ⟨_,_,_,_,_,HE.up (by omega),Kj HF.out.fq (by have:=HF.out.g1;omega) ⟨by show hh.size<=maxLen;unfold maxLen;omega,by show c.size<=maxLen;unfold maxLen;omega⟩⟩))
  ·
   go_wp2_with fail
   refine wp_region_any (by kernel_rfl) ?_;refine ja 135 10 8 (IZ kr bm B (ai a2 m.rs bb2) B (fun p y=>Dn W0 kr bm B m (ai a1 m.ws b1) (ai a2 m.rs bb2) (ai a3 m.qs b3) (ai a4 m.gs b4) (p) y) (q+1+1+2200) m.rs) (fun p y=>Dn W0 kr bm B m (ai a1 m.ws b1) (ai a2 m.rs bb2) (ai a3 m.qs b3) (ai a4 m.gs b4) (p) y) (fun y=>∃m' t1 t2 t3 t4,Dn W0 kr bm B m' t1 t2 t3 t4 (q+4300) y/\m'.fq) (q+1+1) (by decide) rfl (lE rfl) (D4.out.below bD) ?Gd ?Ge
   case Gd=>
    intro l y hl hE;obtain⟨v0,l0,rfl,hl0⟩:=aD hl;obtain⟨v1,l1,rfl,hl1⟩:=aD hl0;obtain⟨v2,l2,rfl,hl2⟩:=aD hl1;obtain⟨v3,l3,rfl,hl3⟩:=aD hl2;obtain⟨v4,l4,rfl,hl4⟩:=aD hl3;obtain⟨v5,l5,rfl,hl5⟩:=aD hl4;obtain⟨v6,l6,rfl,mP⟩:=aD hl5;obtain⟨v7,l7,rfl,uO⟩:=aD mP;obtain⟨v8,l8,rfl,uP⟩:=aD uO;obtain⟨v9,l9,rfl,uQ⟩:=aD uP;obtain rfl:=fI uQ;simp only[Ep,Nat.reduceAdd];go_wp2_with fail
    go_meet
    exact hE
   case Ge=>
    intro listed x y i hI hi hlt;have ho:=bQ hi;have ho:=bQ hi;have HJ:=ah hI;have HI:=ah hi;have HO:=ah ho;obtain rfl|rfl|rfl|rfl|rfl|rfl|rfl|rfl|rfl|rfl|rfl:i=0\/i=1\/i=2\/i=3\/i=4\/i=5\/i=6\/i=7\/i=8\/i=9\/i=10:=by omega
    ·
     have hA:listed.getD 8 false=false:=not_true (fun h=>aB ho (hI.tr 1 0 (by rfl) (hI.tr 8 1 (by rfl) h)));have hn:listed.getD 10 false=false:=not_true (fun h=>by rw[hI.tr 10 8 (by rfl) h]at hA;cases hA);obtain⟨pc,hD,hpc⟩:=hI.v.1 hA;clear hi;refine dy rfl rfl fun K hK=>?_;have e5:x.tmps[5]?.getD undef=.pointer (some ⟨bm,0,none⟩):=ak (hI.out 5 (Or.inl (by omega)));clear hI ho
     go_simp
     have ho:=HO.out;exact hK.out _ _ (HJ.out.put HI.out (by omega) (lE rfl) (rfl) (fun j u _ _ _ _ h=>h) (HJ.out.v.same ho (by omega) (by omega)))
    ·
     have hA:listed.getD 8 false=false:=not_true (fun h=>aB ho (hI.tr 8 1 (by rfl) h));have hn:listed.getD 10 false=false:=not_true (fun h=>by rw[hI.tr 10 8 (by rfl) h]at hA;cases hA);obtain⟨pc,hD,hpc⟩:=hI.v.1 hA;have d0:=aK hi (j:=0) (by rfl);clear hi;refine dy rfl rfl fun K hK=>?_;have e1:x.tmps[135]?.getD undef=.pointer (some ⟨bm,6,none⟩):=ak (hI.good 0 (by omega) d0 (Or.inl hA));have k1:y.cell? ⟨bm,6,none⟩=some ((ai a2 m.rs bb2)):=hD.b 6;clear hI ho
     go_simp
     have ho:=HO.out;exact hK.out _ _ (HJ.out.put HI.out (by omega) (lE rfl) (rfl) (fun j u _ _ _ _ h=>h) (HJ.out.v.same ho (by omega) (by omega)))
    ·
     have hA:listed.getD 8 false=false:=not_true (fun h=>aB ho (hI.tr 6 2 (by rfl) (hI.tr 7 6 (by rfl) (hI.tr 8 7 (by rfl) h))));have hn:listed.getD 10 false=false:=not_true (fun h=>by rw[hI.tr 10 8 (by rfl) h]at hA;cases hA);obtain⟨pc,hD,hpc⟩:=hI.v.1 hA;clear hi;refine dy rfl rfl fun K hK=>?_;clear hI ho
     go_simp
     have ho:=HO.out;exact hK.out _ _ (HJ.out.put HI.out (by omega) (lE rfl) (rfl) (fun j u _ _ _ _ h=>h) (HJ.out.v.same ho (by omega) (by omega)))
    ·
     have hA:listed.getD 8 false=false:=not_true (fun h=>aB ho (hI.tr 4 3 (by rfl) (hI.tr 5 4 (by rfl) (hI.tr 6 5 (by rfl) (hI.tr 7 6 (by rfl) (hI.tr 8 7 (by rfl) h))))));have hn:listed.getD 10 false=false:=not_true (fun h=>by rw[hI.tr 10 8 (by rfl) h]at hA;cases hA);obtain⟨pc,hD,hpc⟩:=hI.v.1 hA;clear hi;refine dy rfl rfl fun K hK=>?_;have e5:x.tmps[0]?.getD undef=.pointer (some ⟨kr,0,none⟩):=ak (hI.out 0 (Or.inl (by omega)));clear hI ho
     go_simp
     have ho:=HO.out;exact hK.out _ _ (HJ.out.put HI.out (by omega) (lE rfl) (rfl) (fun j u _ _ _ _ h=>h) (HJ.out.v.same ho (by omega) (by omega)))
    ·
     have hA:listed.getD 8 false=false:=not_true (fun h=>aB ho (hI.tr 5 4 (by rfl) (hI.tr 6 5 (by rfl) (hI.tr 7 6 (by rfl) (hI.tr 8 7 (by rfl) h)))));have hn:listed.getD 10 false=false:=not_true (fun h=>by rw[hI.tr 10 8 (by rfl) h]at hA;cases hA);obtain⟨pc,hD,hpc⟩:=hI.v.1 hA;have d3:=aK hi (j:=3) (by rfl);clear hi;refine dy rfl rfl fun K hK=>?_;have e1:x.tmps[138]?.getD undef=.pointer (some ⟨kr,0,none⟩):=ak (hI.good 3 (by omega) d3 (Or.inl hA));clear hI ho
     go_simp
     have ho:=HO.out;refine(bO kr pc 6 y hD.r (by omega) (by omega) (by omega)).mono ?_;rintro e y' ⟨z,rfl,z0,z1,r9,e9⟩;exact hK.out _ _ (HJ.out.put HI.out (by omega) (lE rfl) (⟨z,rfl,z0,by omega⟩) (fun j u hj hne hl hc h=>IZ.keep e9 hk0 j u (fun e'=>by subst e';rw[hA]at hl;cases hl) h) (Vr.turn ho hn (by omega) (hD.pick e9 r9) (by omega)))
    ·
     have hA:listed.getD 8 false=false:=not_true (fun h=>aB ho (hI.tr 6 5 (by rfl) (hI.tr 7 6 (by rfl) (hI.tr 8 7 (by rfl) h))));have hn:listed.getD 10 false=false:=not_true (fun h=>by rw[hI.tr 10 8 (by rfl) h]at hA;cases hA);obtain⟨pc,hD,hpc⟩:=hI.v.1 hA;have d4:=aK hi (j:=4) (by rfl);clear hi;refine dy rfl rfl fun K hK=>?_;obtain⟨z,hz,z0,z1⟩:=hI.good 4 (by omega) d4 (Or.inl hA);have e1:x.tmps[139]?.getD undef=_:=ak hz;clear hI ho
     go_simp
     have ho:=HO.out;exact hK.out _ _ (HJ.out.put HI.out (by omega) (lE rfl) (⟨_,rfl⟩) (fun j u _ _ _ _ h=>h) (HJ.out.v.same ho (by omega) (by omega)))
    ·
     have hA:listed.getD 8 false=false:=not_true (fun h=>aB ho (hI.tr 7 6 (by rfl) (hI.tr 8 7 (by rfl) h)));have hn:listed.getD 10 false=false:=not_true (fun h=>by rw[hI.tr 10 8 (by rfl) h]at hA;cases hA);obtain⟨pc,hD,hpc⟩:=hI.v.1 hA;have d2:=aK hi (j:=2) (by rfl);have d5:=aK hi (j:=5) (by rfl);clear hi;refine dy rfl rfl fun K hK=>?_;have e1:x.tmps[137]?.getD undef=.agg (aX ⟨#[122,122]⟩ 1 ⟨#[]⟩ 0 0 0 0):=ak (hI.good 2 (by omega) d2 (Or.inl hA));obtain⟨z,hz⟩:=hI.good 5 (by omega) d5 (Or.inl hA);have e2:x.tmps[140]?.getD undef=_:=ak hz;clear hz;clear hI ho
     go_simp
     have ho:=HO.out;exact hK.out _ _ (HJ.out.put HI.out (by omega) (lE rfl) (⟨z,rfl⟩) (fun j u _ _ _ _ h=>h) (HJ.out.v.same ho (by omega) (by omega)))
    ·
     have hA:listed.getD 8 false=false:=not_true (fun h=>aB ho (hI.tr 8 7 (by rfl) h));have hn:listed.getD 10 false=false:=not_true (fun h=>by rw[hI.tr 10 8 (by rfl) h]at hA;cases hA);obtain⟨pc,hD,hpc⟩:=hI.v.1 hA;have d6:=aK hi (j:=6) (by rfl);clear hi;refine dy rfl rfl fun K hK=>?_;obtain⟨a,hv⟩:=hI.good 6 (by omega) d6 (Or.inl hA);have e1:x.tmps[141]?.getD undef=.agg (aL ⟨#[122,122]⟩ 1 ⟨#[]⟩ 0 0 0 0 a 0 0 0):=ak hv;have hb:=CJ a;clear hv;clear hI ho
     go_simp
     have ho:=HO.out;have hbl:Below y.heap.size y (y.alloc (.cells (fN a).cells.toArray 39)):=ae bR _;have lU:sN B (y.alloc (.cells (fN a).cells.toArray 39)) (.slice (some ⟨y.heap.size,0,none⟩) 1 1):=⟨a,y.heap.size,rfl,(by have:=hD.z;omega),by simp,da rfl⟩
     exact hK.out _ _ (HJ.out.put HI.out (by omega) (lE rfl) (lU) (fun j u hj hne hl hc h=>IZ.keep (Ex.of_below hbl) hk0 j u (fun e'=>by subst e';rw[hA]at hl;cases hl) h) (Vr.turn ho hn (by omega) (hD.below hbl) (by omega)))
    ·
     have hA:listed.getD 8 false=false:=not_true (fun h=>aB ho h);have hn:listed.getD 10 false=false:=not_true (fun h=>by rw[hI.tr 10 8 (by rfl) h]at hA;cases hA);obtain⟨pc,hD,hpc⟩:=hI.v.1 hA;have d1:=aK hi (j:=1) (by rfl);have d7:=aK hi (j:=7) (by rfl);clear hi;refine dy rfl rfl fun K hK=>?_;have e1:x.tmps.getD 136 undef=(ai a2 m.rs bb2):=hI.good 1 (by omega) d1 (Or.inl hA);have hN:sN B y (x.tmps.getD 142 undef):=hI.good 7 (by omega) d7 (Or.inl hA);refine Gf B (.tmp 136) (.tmp 142) rfl m.rs (ai a2 m.rs bb2) _ e1 hD.l.a2 (by have:=hD.z;omega) rfl hN (by have:=HF.out.r1;omega) ?_;intro s' w' st o1 g1 hat;exact hK.out _ _ (hI.put HI.out (by omega) (lE rfl) ⟨y,pc,st,hD,by omega,g1,o1,hat⟩ (fun j u hj hne hl hc h=>by
      rcases hc with hc|hc
      ·
       rw[dp (by rw[hI.lz];omega)]at hc;cases hc
      ·
       obtain rfl:j=9:=by omega
       exact h) (Vr.past (dp (by rw[hI.lz];omega)) (by rw[dZ (by omega)];exact hn)))
    ·
     clear hi;refine dy rfl rfl fun K hK=>?_;have e5:x.tmps[5]?.getD undef=.pointer (some ⟨bm,0,none⟩):=ak (hI.out 5 (Or.inl (by omega)));clear hI ho
     go_simp
     have ho:=HO.out;exact hK.out _ _ (HJ.out.put HI.out (by omega) (lE rfl) (rfl) (fun j u _ _ _ _ h=>h) (HJ.out.v.same ho (by omega) (by omega)))
    ·
     have hn:listed.getD 10 false=false:=not_true (fun h=>aB ho h);have d9:=aK hi (j:=9) (by rfl);have d8:=aK hi (j:=8) (by rfl);clear hi;refine dy rfl rfl fun K hK=>?_;obtain⟨x0,p0,st,hD,hp,hg,ho1,hat⟩:=hI.good 8 (by omega) d8 (Or.inr ⟨by omega,hn⟩);have e1:x.tmps[144]?.getD undef=.pointer (some ⟨bm,6,none⟩):=ak (hI.good 9 (by omega) d9 (Or.inr ⟨by omega,hn⟩));obtain⟨aa,pp,hv⟩:=Ow.shape ho1;generalize hnn:List.length _=nn at hv;have e2:x.tmps[143]?.getD undef=_:=ak hv;rw[hv]at ho1 hat;obtain⟨kb,kc,-⟩:=gX hD hg (fun k hk=>⟨by have h1:=(hD.l.a2.lt k hk).1;have h2:=hD.zb;omega,fun e=>hD.nb.2.1 (by rw[hk,e])⟩);have k1:y.cell? ⟨bm,6,none⟩=some (ai a2 m.rs bb2):=kb 6;have k2:y.frozen? ⟨bm,6,none⟩=false:=kc 6;have HE:=Dn.Ff hD hg ho1 hat;have hA':(listed.setIfInBounds 10 true).getD 8 false=true:=(by rw[dZ (by omega)];exact d8);clear kb kc hv hnn;clear hI ho
     go_simp
     have ho:=HO.out;exact hK.out _ _ (HJ.out.last (u:=undef) HI.out (Or.inr d8) (Vr.fin hA' ⟨_,_,_,_,_,HE.up (by omega),FW HF.out.fq (by have:=HF.out.r1;omega)⟩))
  ·
   have Qm:=fS;have k9:y2.cell? ⟨bm,7,none⟩=some (ai a3 m.qs b3):=D4.out.b 7;have kz:=D4.out.z;go_wp2_with (at_builtin;refine A.gl y2 rfl (.tmp 16) (.tmp 18) rfl m.qs a3 b3 (by first|rfl|simp[Act.eval]) (by first|rfl|simp[Act.eval]) D4.out.l.a3.sl.src HF.out.fits.k3 ?_;intro s9 w9 r9 b9;obtain⟨a9,p9,jq⟩:=A.Ow.shape r9;subst jq;have DB:Hid (Dn W0 kr bm B m (ai a1 m.ws b1) (ai a2 m.rs bb2) (ai a3 m.qs b3) (ai a4 m.gs b4) (q+1+1) w9):=D4.out.below b9;have k8:w9.cell? ⟨bm,8,none⟩=some (ai a4 m.gs b4):=DB.out.b 8;have f8:w9.frozen? ⟨bm,8,none⟩=false:=DB.out.c 8;have HG:Hid (Dn W0 kr bm B {m with gs:=m.qs} (ai a1 m.ws b1) (ai a2 m.rs bb2) (ai a3 m.qs b3) (ai a9 m.qs p9) (q+1+1) (w9.setCell ⟨bm,8,none⟩ (ai a9 m.qs p9))):=Dn.gives D4.out b9 r9 (by have:=D4.out.z;omega);clear r9 b9)
   go_meet
   exact⟨_,_,_,_,_,HG.out.up (by omega),FX HF.out.fq⟩
 case rest=>
  obtain⟨m',t1,t2,t3,t4,hK,hfit⟩:=hcut;have HK:=ah hK;have HT:=ah hfit;clear hK hfit;generalize hrb:w.heap.size+1=rb at hz0 ⊢;obtain⟨e1,o1,hs1⟩:=HK.out.l.a1.shape;obtain⟨e2,o2,hs2⟩:=HK.out.l.a2.shape;obtain⟨e3,o3,hs3⟩:=HK.out.l.a3.shape;obtain⟨e4,o4,hs4⟩:=HK.out.l.a4.shape;subst hs1 hs2 hs3 hs4;have ho:=ones m' HK.out.l.a1.sl HK.out.l.a2.sl HK.out.l.a3.sl HK.out.l.a4.sl;have kb:=HK.out.b;have kw:=HK.out.zw;have kz:=HK.out.z;have kk:=HK.out.zk;have hdd:wc.there rb 0 9:=by have h:=HK.out.d;rw[hz0]at h;exact h
  have Ot:=ah hdd;have HE:Hid (Ex rb wc (wc.setCells rb 0 (dP m'.nm m'.up m'.ck m'.kn m'.se (ai e1 m'.ws o1) (ai e2 m'.rs o2) (ai e3 m'.qs o3) (ai e4 m'.gs o4)))):=(Ex.refl _ _).cells _ _;have Hg:=ah (A.av HE.out);have Ho:=ah ho;have hcw:m'.ws.length<=o1:=qA HK.out.l.a1;have HZ:Hid (W0.heap.size=rb/\w.heap.size+1=rb/\B=w.heap.size+2/\B<=bm):=⟨hz0,hrb,Oc,hB2⟩
  clear ho hdd hrb hz0 Oc hB2 hk0 hk z0 z1;go_wp2_with (refine wpList_store_mid (by rfl) 27 _ _ (by rfl) rb 0 (bY m'.nm m'.up m'.ck m'.kn m'.se (ai e1 m'.ws o1) (ai e2 m'.rs o2) (ai e3 m'.qs o3) (ai e4 m'.gs o4)) (by rfl) (by rfl) (by exact Ot.out) hinfo (by exact all_oneCell_toArray Ho.out) ?_)
  have hrg:=World.rangeAt_setCells_same wc rb 0 (dP m'.nm m'.up m'.ck m'.kn m'.se (ai e1 m'.ws o1) (ai e2 m'.rs o2) (ai e3 m'.qs o3) (ai e4 m'.gs o4)) Ot.out;obtain⟨hz0,hrb,Oc,hB2⟩:=HZ.out;have HL:Hid (dI (wc.setCells rb 0 (dP m'.nm m'.up m'.ck m'.kn m'.se (ai e1 m'.ws o1) (ai e2 m'.rs o2) (ai e3 m'.qs o3) (ai e4 m'.gs o4))) m' (ai e1 m'.ws o1) (ai e2 m'.rs o2) (ai e3 m'.qs o3) (ai e4 m'.gs o4) w.heap.size):=(HK.out.l.ex HE.out (by omega)).sl.low (by omega);have oL:Hid (Rq (wc.setCells rb 0 (dP m'.nm m'.up m'.ck m'.kn m'.se (ai e1 m'.ws o1) (ai e2 m'.rs o2) (ai e3 m'.qs o3) (ai e4 m'.gs o4))) kr (q+4500)):=(HK.out.r.grown Hg.out (fun a ha=>by cases ha;omega)).up (by omega);have mG:Hid (Ex kr w (wc.setCells rb 0 (dP m'.nm m'.up m'.ck m'.kn m'.se (ai e1 m'.ws o1) (ai e2 m'.rs o2) (ai e3 m'.qs o3) (ai e4 m'.gs o4)))):=(E0.out.trans HK.out.e).grown Hg.out (fun a ha=>by cases ha;omega);clear HE Hg Ho Ot kb;generalize (wc.setCells rb 0 (dP m'.nm m'.up m'.ck m'.kn m'.se (ai e1 m'.ws o1) (ai e2 m'.rs o2) (ai e3 m'.qs o3) (ai e4 m'.gs o4)))=X at hrg HL oL mG ⊢;obtain⟨d0,d1,d2,d3,d4,d5,d6,d7,d8⟩:=d9 hrg;refine bodyPost_ret (v:=.agg (bY m'.nm m'.up m'.ck m'.kn m'.se (ai e1 m'.ws o1) (ai e2 m'.rs o2) (ai e3 m'.qs o3) (ai e4 m'.gs o4))) ?_ rfl ?_
  ·
   simp[results,results61,go_sem,d0,d1,d2,d3,d4,d5,d6,d7,d8]
  ·
   exact⟨m',_,_,_,_,rfl,HL.out,⟨_,_,rfl,hcw⟩,HT.out,oL.out,mG.out⟩
end Go.Proofs.YtlfnpjcjapljpaaGreatDoor
