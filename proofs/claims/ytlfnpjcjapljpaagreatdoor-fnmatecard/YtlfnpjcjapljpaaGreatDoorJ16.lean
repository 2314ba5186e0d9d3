import Derived.Test.YtlfnpjcjapljpaaGreatDoorJ03
import Derived.Test.YtlfnpjcjapljpaaGreatDoorJ04
namespace Go.Proofs.YtlfnpjcjapljpaaGreatDoor
open Go.Proofs.Tryz Go.RowKit
set_option maxHeartbeats 1000000
set_option linter.unusedVariables false
def Code(w:World)(kr:Nat)(a:Option Addr)(n:Nat)(zs:List Int):Prop:=
 n<=2000/\(n=0\/∃b off,a=some ⟨b,off,none⟩/\b≠kr/\b<w.heap.size/\∀i,i<n->w.cell? ⟨b,off+i,none⟩=some (.int .u8 (zs.getD i 0))/\0<=zs.getD i 0/\zs.getD i 0<=255)
theorem Code.keep{w w':World}{kr:Nat}{a:Option Addr}{n:Nat}{zs:List Int}(h:Code w kr a n zs)(he:Ex kr w w'):Code w' kr a n zs:=by obtain⟨hn,h⟩:=h;refine⟨hn,h.imp id ?_⟩;rintro⟨b,off,ha,hne,hb,hc⟩;exact⟨b,off,ha,hne,Nat.lt_of_lt_of_le hb he.size,fun i hi=>⟨(he.cell (p:=⟨b,off+i,none⟩) hb hne).trans (hc i hi).1,(hc i hi).2⟩⟩
structure Rd(w:World)(kr:Nat)(a:Option Addr)(n cap:Nat)(zs:List Int)(p:Int):Prop where
 sl:w.cell? ⟨kr,0,none⟩=some (.slice a n cap)
 at_:w.cell? ⟨kr,1,none⟩=some (.int .i64 p)
 open_:w.frozen? ⟨kr,1,none⟩=false
 lt:kr<w.heap.size
 code:Code w kr a n zs
 p0:0<=p
 p1:p<=1000000
theorem Cc(a b:Nat)(ha:a<4611686018427387904)(hb:b<4611686018427387904):bits .xor .i64 (a:Int) (b:Int)=((a ^^^ b:Nat):Int):=by
 have hx:a ^^^ b<2 ^ 62:=Nat.xor_lt_two_pow (by omega) (by omega);have h1:(BitVec.ofInt 64 (a:Int)).toNat=a:=by rw[BitVec.ofInt_natCast,BitVec.toNat_ofNat];exact Nat.mod_eq_of_lt (by omega)
 have h2:(BitVec.ofInt 64 (b:Int)).toNat=b:=by rw[BitVec.ofInt_natCast,BitVec.toNat_ofNat];exact Nat.mod_eq_of_lt (by omega)
 show IntKind.i64.wrap ((BitVec.ofInt 64 (a:Int) ^^^ BitVec.ofInt 64 (b:Int)).toNat:Int)=_;rw[BitVec.toNat_xor,h1,h2,IntKind.wrap_i64];omega
theorem Cd(x:Int)(h0:0<=x)(h1:x<4611686018427387904):∃y:Int,bits .xor .i64 x (x / 64)=y/\0<=y/\y<4611686018427387904:=by obtain⟨m,rfl⟩:=Int.eq_ofNat_of_zero_le h0;have hx:m ^^^ (m / 64)<2 ^ 62:=Nat.xor_lt_two_pow (by omega) (by omega);refine⟨((m ^^^ (m / 64):Nat):Int),?_,by omega,by omega⟩;have:=Cc m (m / 64) (by omega) (by omega);simpa using this
theorem za(kr:Nat)(a:Option Addr)(n cap:Nat)(zs:List Int)(p k:Int)(w:World)(h:Rd w kr a n cap zs p)(hp:p<1000000)(k0:1<=k)(k1:k<=1000000):
  Calls prog 18 #[.pointer (some ⟨kr,0,none⟩),.int .i64 k] w fun e w'=>∃(m:Int)(nq:Nat),e=.returned (.int .i64 m)/\0<=m/\m<k/\w'=(w.setCell ⟨kr,1,none⟩ (.int .i64 (p+1))).drewN nq:=by
 obtain⟨c0,c1,c2,hlt,⟨hn,hc⟩,p0,p1⟩:=h;rcases Nat.eq_zero_or_pos n with hz|hz
 ·
  subst hz;clear hc;go_enter func18,ntmps18
  go_wp2
  go_ret
  exact⟨0,0,rfl,by omega,by omega,rfl⟩
 ·
  obtain⟨b,off,rfl,hne,hb,hcell⟩:=hc.resolve_left (by omega);have hn0:((n:Int)==0)=false:=by simp;omega
  by_cases hin:p<(n:Int)
  ·
   obtain⟨cb,z0,z1⟩:=hcell p.toNat (by omega);generalize zs.getD p.toNat 0=z at cb z0 z1;clear hcell hc;have hne':kr≠b:=fun e=>hne e.symm;go_enter func18,ntmps18
   go_wp2
   go_ret
   exact⟨z % k,0,rfl,Int.emod_nonneg _ (by omega),Int.emod_lt_of_pos _ (by omega),rfl⟩
  have r0:0<=p % (n:Int):=Int.emod_nonneg _ (by omega);have r1:p % (n:Int)<(n:Int):=Int.emod_lt_of_pos _ (by omega);have s0:0<=(p*7+3) % (n:Int):=Int.emod_nonneg _ (by omega);have s1:(p*7+3) % (n:Int)<(n:Int):=Int.emod_lt_of_pos _ (by omega);have q0:0<=p / (n:Int):=Int.ediv_nonneg p0 (by omega);have q1:p / (n:Int)<=1000000:=Int.le_trans (Int.ediv_le_self _ p0) p1;obtain⟨cy,y0,y1⟩:=hcell (p % (n:Int)).toNat (by omega);obtain⟨cz,z0,z1⟩:=hcell ((p*7+3) % (n:Int)).toNat (by omega);generalize zs.getD (p % (n:Int)).toNat 0=y at cy y0 y1;generalize zs.getD ((p*7+3) % (n:Int)).toNat 0=z at cz z0 z1;clear hcell hc;have hne':kr≠b:=fun e=>hne e.symm;have hnp:(0:Int)<(n:Int):=by omega
  obtain⟨m,hm,m0,m1⟩:=Cd (y*131+z*1117+p*29+p / (n:Int)*53) (by omega) (by omega);go_enter func18,ntmps18
  go_wp2_with fail
  go_quiet (fail)
  go_wp2
  go_ret
  exact⟨m % k,nq,rfl,Int.emod_nonneg _ (by omega),Int.emod_lt_of_pos _ (by omega),rfl⟩
theorem Rd.step{w:World}{kr:Nat}{a:Option Addr}{n cap:Nat}{zs:List Int}{p:Int}(h:Rd w kr a n cap zs p)(hp:p<1000000)(nq:Nat):Rd ((w.setCell ⟨kr,1,none⟩ (.int .i64 (p+1))).drewN nq) kr a n cap zs (p+1):=by have he:Ex kr w ((w.setCell ⟨kr,1,none⟩ (.int .i64 (p+1))).drewN nq):=((Ex.refl kr w).set 1 _).drewN nq;have c0:=h.sl;have c1:=h.at_;have c2:=h.open_;have:=h.p0;exact⟨by go_simp,by go_simp,by go_simp,Nat.lt_of_lt_of_le h.lt he.size,h.code.keep he,by omega,by omega⟩
theorem eY(kr:Nat)(a:Option Addr)(n cap:Nat)(zs:List Int)(p k:Int)(w:World)(h:Rd w kr a n cap zs p)(hp:p<1000000)(k0:1<=k)(k1:k<=1000000):
  Calls prog 18 #[.pointer (some ⟨kr,0,none⟩),.int .i64 k] w fun e w'=>∃m:Int,e=.returned (.int .i64 m)/\0<=m/\m<k/\Rd w' kr a n cap zs (p+1)/\Ex kr w w':=by
 refine(za kr a n cap zs p k w h hp k0 k1).mono ?_;rintro e w' ⟨m,nq,rfl,m0,m1,rfl⟩;exact⟨m,rfl,m0,m1,h.step hp nq,((Ex.refl kr w).set 1 _).drewN nq⟩
def ie(w:World)(a:Option Addr)(n:Nat)(zs:List Int):Prop:=
 n=0\/∃b off,a=some ⟨b,off,none⟩/\b<w.heap.size/\∀i,i<n->w.cell? ⟨b,off+i,none⟩=some (.int .u8 (zs.getD i 0))/\0<=zs.getD i 0/\zs.getD i 0<=255
theorem ze{w:World}{a:Option Addr}{n cap m:Nat}{zs:List Int}(h:ie w a n zs)(hm:m<=n)(hm2:m<=2000):
  Rd (w.alloc (.cells #[.slice a m cap,.int .i64 0] 92)) w.heap.size a m cap zs 0:=by
 refine⟨by simp[go_sem],by simp[go_sem],by simp[go_sem],by simp,⟨hm2,?_⟩,by omega,by omega⟩;rcases h with rfl|⟨b,off,ha,hb,hc⟩;·exact Or.inl (by omega)
 ·
  refine Or.inr ⟨b,off,ha,by omega,by simp;omega,fun i hi=>?_⟩;obtain⟨h1,h2⟩:=hc i (by omega);exact⟨by rw[World.cell?_alloc_past _ _ _ (by exact hb)];exact h1,h2⟩
theorem FF(w:World):Calls prog 148 #[.string ⟨#[110]⟩,.int .i64 20] w fun e w'=>∃x:ByteArray,e=.returned (.string x)/\x.size<=maxLen/\w'=w:=by
 go_enter func148,ntmps148
 go_wp2
 refine wp_loop_rounds 6 ?_;rw[rounds_succ];go_wp2
 rw[rounds_succ];go_wp2
 rw[rounds_succ];go_wp2
 rw[rounds_succ];go_wp2
 rw[rounds_succ];go_wp2
 rw[rounds_succ];go_wp2
 go_ret
 exact⟨_,rfl,by unfold maxLen;decide,rfl⟩
theorem FG(w:World):Calls prog 148 #[.string ⟨#[110]⟩,.int .i64 21] w fun e w'=>∃x:ByteArray,e=.returned (.string x)/\x.size<=maxLen/\w'=w:=by
 go_enter func148,ntmps148
 go_wp2
 refine wp_loop_rounds 6 ?_;rw[rounds_succ];go_wp2
 rw[rounds_succ];go_wp2
 rw[rounds_succ];go_wp2
 rw[rounds_succ];go_wp2
 rw[rounds_succ];go_wp2
 rw[rounds_succ];go_wp2
 go_ret
 exact⟨_,rfl,by unfold maxLen;decide,rfl⟩
def lR(P:Value->Prop)(B rb m:Nat)(w:World)(v:Value):Prop:=∃g,v=.slice (some ⟨g,0,none⟩) m m/\B<=g/\g≠rb/\g<w.heap.size/\∀j,j<m->∃u,w.cell? ⟨g,j,none⟩=some u/\P u
def Cell(P:Value->Prop)(B rb:Nat)(w:World)(v:Value):Prop:=∃g j u,v=.pointer (some ⟨g,j,none⟩)/\B<=g/\g≠rb/\g<w.heap.size/\w.cell? ⟨g,j,none⟩=some u/\P u
def Num(lo hi:Int)(v:Value):Prop:=∃x,v=.int .i64 x/\lo<=x/\x<=hi
def mE(v:Value):Prop:=∃s:ByteArray,v=.string s/\s.size<=20
theorem lR.keep{P:Value->Prop}{B rb m kr:Nat}{w w':World}{v:Value}(h:lR P B rb m w v)(he:Ex kr w w')(hk:kr<B):lR P B rb m w' v:=by obtain⟨g,rfl,h1,h2,h3,h4⟩:=h;exact⟨g,rfl,h1,h2,Nat.lt_of_lt_of_le h3 he.size,fun j hj=>by rw[he.cell (p:=⟨g,j,none⟩) h3 (by show g≠kr;omega)];exact h4 j hj⟩
theorem Cell.keep{P:Value->Prop}{B rb kr:Nat}{w w':World}{v:Value}(h:Cell P B rb w v)(he:Ex kr w w')(hk:kr<B):Cell P B rb w' v:=by obtain⟨g,j,u,rfl,h1,h2,h3,h4,h5⟩:=h;exact⟨g,j,u,rfl,h1,h2,Nat.lt_of_lt_of_le h3 he.size,by rw[he.cell (p:=⟨g,j,none⟩) h3 (by show g≠kr;omega)];exact h4,h5⟩
theorem Rd.below{w w':World}{kr:Nat}{a:Option Addr}{n cap:Nat}{zs:List Int}{p:Int}(h:Rd w kr a n cap zs p)(hb:Below w.heap.size w w'):Rd w' kr a n cap zs p:=
 ⟨(hb.cell (p:=⟨kr,0,none⟩) h.lt).trans h.sl,(hb.cell (p:=⟨kr,1,none⟩) h.lt).trans h.at_,(hb.frozen (p:=⟨kr,1,none⟩) h.lt).trans h.open_,Nat.lt_of_lt_of_le h.lt hb.size,h.code.keep (Ex.of_below hb),h.p0,h.p1⟩
theorem Rd.other{W w w':World}{kr rb:Nat}{a:Option Addr}{n cap:Nat}{zs:List Int}{p q:Int}(h0:Rd W kr a n cap zs q)(h:Rd w kr a n cap zs p)(he:Ex rb w w')(hk:kr≠rb)(hW:Ex kr W w'):Rd w' kr a n cap zs p:=
 ⟨(he.cell (p:=⟨kr,0,none⟩) h.lt hk).trans h.sl,(he.cell (p:=⟨kr,1,none⟩) h.lt hk).trans h.at_,(he.frozen (p:=⟨kr,1,none⟩) h.lt hk).trans h.open_,Nat.lt_of_lt_of_le h.lt he.size,h0.code.keep hW,h.p0,h.p1⟩
theorem Ex.other{kr rb:Nat}{W w w':World}(h:Ex kr W w)(he:Ex rb w w')(hrb:W.heap.size<=rb):Ex kr W w':=
 ⟨he.os.trans h.os,he.tape.trans h.tape,he.output.trans h.output,Nat.le_trans h.size he.size,fun k hk hne=>(he.block k (Nat.lt_of_lt_of_le hk h.size) (by omega)).trans (h.block k hk hne)⟩
theorem lR.res{P:Value->Prop}{B rb m:Nat}{w w':World}{v:Value}(h:lR P B rb m w v)(he:Ex rb w w'):lR P B rb m w' v:=by obtain⟨g,rfl,h1,h2,h3,h4⟩:=h;exact⟨g,rfl,h1,h2,Nat.lt_of_lt_of_le h3 he.size,fun j hj=>by rw[he.cell (p:=⟨g,j,none⟩) h3 h2];exact h4 j hj⟩
theorem Cell.res{P:Value->Prop}{B rb:Nat}{w w':World}{v:Value}(h:Cell P B rb w v)(he:Ex rb w w'):Cell P B rb w' v:=by obtain⟨g,j,u,rfl,h1,h2,h3,h4,h5⟩:=h;exact⟨g,j,u,rfl,h1,h2,Nat.lt_of_lt_of_le h3 he.size,by rw[he.cell (p:=⟨g,j,none⟩) h3 h2];exact h4,h5⟩
section
variable (kr rb:Nat) (W:World) (c:ByteArray) (a0:Option Addr) (n cap:Nat) (zs:List Int) (p0:Int)
def Good(w:World)(i:Nat)(v:Value):Prop:=
 match i with
 |0=>v=.string c
 |1|5|9|11|14|18=>v=.pointer (some ⟨kr,0,none⟩)
 |2|12=>Num 0 2 v
 |3=>Num 1 3 v
 |6|10|19=>Num 0 3 v
 |15=>Num 0 5 v
 |4=>lR mE W.heap.size rb 4 w v
 |7=>Cell mE W.heap.size rb w v
 |8=>mE v
 |13=>lR (Num 0 8) W.heap.size rb 6 w v
 |16=>Cell (Num 0 8) W.heap.size rb w v
 |17=>Num 0 8 v
 |20=>∃(h:ByteArray)(v1 p s d g:Int),v=.agg (aX c v1 h p s d g)/\h.size<=20/\(0<=v1/\v1<=100)/\(0<=p/\p<=100)/\(0<=s/\s<=100)/\(0<=d/\d<=100)/\(0<=g/\g<=100)
 |_=>True
theorem Good.keep{w w':World}{i:Nat}{v:Value}(h:Good kr rb W c w i v)(he:Ex kr w w')(hk:kr<W.heap.size):Good kr rb W c w' i v:=by
 by_cases e4:i=4;·subst e4;exact lR.keep (P:=mE) h he hk
 by_cases e7:i=7;·subst e7;exact Cell.keep (P:=mE) h he hk
 by_cases e13:i=13;·subst e13;exact lR.keep (P:=Num 0 8) h he hk
 by_cases e16:i=16;·subst e16;exact Cell.keep (P:=Num 0 8) h he hk
 have e:Good kr rb W c w i v=Good kr rb W c w' i v:=by unfold Good;split<;>first|rfl|(exfalso;omega)
 rw[<-e];exact h
theorem Good.res{w w':World}{i:Nat}{v:Value}(h:Good kr rb W c w i v)(he:Ex rb w w'):Good kr rb W c w' i v:=by
 by_cases e4:i=4;·subst e4;exact lR.res (P:=mE) h he
 by_cases e7:i=7;·subst e7;exact Cell.res (P:=mE) h he
 by_cases e13:i=13;·subst e13;exact lR.res (P:=Num 0 8) h he
 by_cases e16:i=16;·subst e16;exact Cell.res (P:=Num 0 8) h he
 have e:Good kr rb W c w i v=Good kr rb W c w' i v:=by unfold Good;split<;>first|rfl|(exfalso;omega)
 rw[<-e];exact h
structure Wd(left:Nat)(w:World):Prop where
 rd:∃p,Rd w kr a0 n cap zs p/\p+(left:Int)<=p0+22
 ex:Ex kr W w
 lt:rb<w.heap.size
 th:w.there rb 0 7
def Fin(w:World):Prop:=∃(h:ByteArray)(v1 p s d g:Int),w.rangeAt rb 0 (iT c v1 h p s d g)/\h.size<=20/\(0<=v1/\v1<=100)/\(0<=p/\p<=100)/\(0<=s/\s<=100)/\(0<=d/\d<=100)/\(0<=g/\g<=100)
structure Iw(listed:Array Bool)(a:Act)(w:World):Prop where
 df:a.defers=[]
 sz:a.tmps.size=26
 s0:a.tmps.getD 0 undef=.pointer (some ⟨kr,0,none⟩)
 s1:a.tmps.getD 1 undef=.string c
 s4:a.tmps.getD 4 undef=.pointer (some ⟨rb,0,none⟩)
 good:∀i,i<21->listed.getD i false=true->Good kr rb W c w i (a.tmps.getD (5+i) undef)
 wd:Wd kr rb W a0 n cap zs p0 (dG listed) w
 lz:listed.size=22
 fin:listed.getD 21 false=true->Fin rb c w
theorem Iw.put{listed:Array Bool}{a:Act}{w w':World}{i:Nat}{v:Value}(h:Iw kr rb W c a0 n cap zs p0 listed a w)(hi:i<21)(ho:listed.getD i true=false)(hk:kr<W.heap.size)(hkr:kr≠rb)
  (hg:Good kr rb W c w' i v) (he:Ex kr w w') (hr:∃p,Rd w' kr a0 n cap zs p/\p+(dG (listed.setIfInBounds i true):Int)<=p0+22):
  Iw kr rb W c a0 n cap zs p0 (listed.setIfInBounds i true) (a.put (some (5+i)) v) w':=by
 have hsz:i<a.tmps.size:=by rw[h.sz];omega
 refine⟨h.df,?_,?_,?_,?_,?_,⟨hr,h.wd.ex.trans he,Nat.lt_of_lt_of_le h.wd.lt he.size,bh h.wd.th h.wd.lt he (fun e=>hkr e.symm)⟩,by simp[h.lz],?_⟩;·simp[Act.put,h.sz]
 ·have:=h.s0;simp only[Act.put,Array.getD_eq_getD_getElem?]at this ⊢;rw[Array.getElem?_setIfInBounds_ne (by omega)];exact this
 ·have:=h.s1;simp only[Act.put,Array.getD_eq_getD_getElem?]at this ⊢;rw[Array.getElem?_setIfInBounds_ne (by omega)];exact this
 ·have:=h.s4;simp only[Act.put,Array.getD_eq_getD_getElem?]at this ⊢;rw[Array.getElem?_setIfInBounds_ne (by omega)];exact this
 ·
  intro j hj hl;by_cases e:j=i
  ·
   subst e;simp only[Act.put,Array.getD_eq_getD_getElem?];rw[Array.getElem?_setIfInBounds_self_of_lt (by rw[h.sz];omega)];exact hg
  have h1:=h.good j hj (by
   simp only[Array.getD_eq_getD_getElem?]at hl ⊢
   rwa [Array.getElem?_setIfInBounds_ne (fun x=>e x.symm)]at hl)
  have h2:=h1.keep kr rb W c he hk;simp only[Act.put,Array.getD_eq_getD_getElem?]at h2 ⊢;rw[Array.getElem?_setIfInBounds_ne (by omega)];exact h2
 ·
  intro hl;have h1:=h.fin (by
   simp only[Array.getD_eq_getD_getElem?]at hl ⊢
   rwa [Array.getElem?_setIfInBounds_ne (by omega)]at hl)
  obtain⟨hh,v1,p,s,d,g,hr,hb⟩:=h1;exact⟨hh,v1,p,s,d,g,fun j u hj=>(he.cell (p:=⟨rb,0+j,none⟩) h.wd.lt (fun e=>hkr e.symm)).trans (hr j u hj),hb⟩
theorem Iw.last{listed:Array Bool}{a:Act}{w:World}{u:Value}{vs:List Value}{q:Int}(h:Iw kr rb W c a0 n cap zs p0 listed a w)(ho:listed.getD 21 true=false)(hrb:W.heap.size<=rb)(hkr:kr≠rb)(h0:Rd W kr a0 n cap zs q)
  (hf:Fin rb c (w.setCells rb 0 vs)):Iw kr rb W c a0 n cap zs p0 (listed.setIfInBounds 21 true) (a.put none u) (w.setCells rb 0 vs):=by
 have he:Ex rb w (w.setCells rb 0 vs):=(Ex.refl rb w).cells vs 0;have hW:Ex kr W (w.setCells rb 0 vs):=h.wd.ex.other he hrb;obtain⟨p,hr,hp⟩:=h.wd.rd;have hop:=et ho;refine⟨h.df,h.sz,h.s0,h.s1,h.s4,fun i hi hl=>?_,⟨⟨p,h0.other hr he hkr hW,by omega⟩,hW,Nat.lt_of_lt_of_le h.wd.lt he.size,World.there_setCells h.wd.th _ _ _⟩,by simp[h.lz],fun _=>hf⟩;refine Good.res kr rb W c (h.good i hi ?_) he;simp only[Array.getD_eq_getD_getElem?]at hl ⊢
 rwa [Array.getElem?_setIfInBounds_ne (by omega)]at hl
end
set_option maxRecDepth 4000
set_option maxHeartbeats 2000000
theorem Ce{i:Nat}(h:i<22):i=0\/i=1\/i=2\/i=3\/i=4\/i=5\/i=6\/i=7\/i=8\/i=9\/i=10\/i=11\/i=12\/i=13\/i=14\/i=15\/i=16\/i=17\/i=18\/i=19\/i=20\/i=21:=by omega
theorem FH(w:World)(t:TypeId):(w.alloc (.cells (aX ⟨#[]⟩ 0 ⟨#[]⟩ 0 0 0 0) t)).there w.heap.size 0 7:=
 fun j hj=>⟨by simp[go_sem];omega,by simp[go_sem]⟩
def strs:Array Value:=#[.string ⟨#[]⟩,.string ⟨#[118,111,108]⟩,.string ⟨#[105,112]⟩,.string ⟨#[118,111,108,50]⟩]
def nums:Array Value:=#[.int .i64 0,.int .i64 0,.int .i64 0,.int .i64 1,.int .i64 3,.int .i64 8]
theorem uG(w:World):Sem.run prog (Instr.buildSlice 87 4 #[(0,.string ⟨#[]⟩),(1,.string ⟨#[118,111,108]⟩),(2,.string ⟨#[105,112]⟩),(3,.string ⟨#[118,111,108,50]⟩)]) w=.ok (.slice (some ⟨w.heap.size,0,none⟩) 4 4) (w.alloc (.cells strs 9)):=by kernel_rfl
theorem uH(w:World):Sem.run prog (Instr.buildSlice 51 6 #[(0,.int .i64 0),(1,.int .i64 0),(2,.int .i64 0),(3,.int .i64 1),(4,.int .i64 3),(5,.int .i64 8)]) w=.ok (.slice (some ⟨w.heap.size,0,none⟩) 6 6) (w.alloc (.cells nums 3)):=by kernel_rfl
theorem Cf(w:World):∀j,j<4->∃u,(w.alloc (.cells strs 9)).cell? ⟨w.heap.size,j,none⟩=some u/\mE u:=by
 intro j hj;rw[World.cell?_alloc_new];obtain rfl|rfl|rfl|rfl:j=0\/j=1\/j=2\/j=3:=by omega
 all_goals exact⟨_,rfl,_,rfl,by decide⟩
theorem Cg(w:World):∀j,j<6->∃u,(w.alloc (.cells nums 3)).cell? ⟨w.heap.size,j,none⟩=some u/\Num 0 8 u:=by
 intro j hj;rw[World.cell?_alloc_new];obtain rfl|rfl|rfl|rfl|rfl|rfl:j=0\/j=1\/j=2\/j=3\/j=4\/j=5:=by omega
 all_goals exact⟨_,rfl,_,rfl,by decide,by decide⟩
theorem sK(kr:Nat)(a:Option Addr)(n cap:Nat)(zs:List Int)(p:Int)(c:ByteArray)(w:World)(hr:Rd w kr a n cap zs p)(hp:p<900000):
  Calls prog 147 #[.pointer (some ⟨kr,0,none⟩),.string c] w fun e w'=>∃(h:ByteArray)(v1 p1 s d g:Int),e=.returned (.agg (aX c v1 h p1 s d g))/\h.size<=20/\(0<=v1/\v1<=100)/\(0<=p1/\p1<=100)/\(0<=s/\s<=100)/\(0<=d/\d<=100)/\(0<=g/\g<=100)/\(∃q,Rd w' kr a n cap zs q/\q<=p+22)/\Ex kr w w':=by
 have hkr:=hr.lt;have hinfo:(prog.info? 37).map (·.size)=some 7:=by kernel_rfl
 go_enter func147,ntmps147
 go_wp2_with fail
 refine wp_region_any (by kernel_rfl) ?_;refine iB (Iw kr w.heap.size w c a n cap zs p) ?step ?done _ _ _ _ ?fuel ?init;case fuel=>decide
 case init=>
  have hbl:Below w.heap.size w (World.drew (w.alloc (.cells (aX ⟨#[]⟩ 0 ⟨#[]⟩ 0 0 0 0) 37))):=au (ae bR _);refine⟨rfl,rfl,rfl,rfl,rfl,?_,⟨⟨p,hr.below hbl,?_⟩,Ex.of_below hbl,?_,?_⟩,rfl,?_⟩
  ·
   intro i hi hl;exact absurd hl (by simp[Array.getD])
  ·
   have h22:dG (Array.replicate 22 false)=22:=(by decide);show p+((dG (Array.replicate 22 false):Nat):Int)<=p+22;rw[h22];omega
  ·
   show w.heap.size<(w.alloc _).heap.size;simp
  ·exact fun j hj=>FH w 37 j hj
  intro hl;exact absurd hl (by simp[Array.getD])
 case done=>
  intro listed x y hI hd;have hf:=hI.fin (i6 (by decide) hd hI.lz 21 (by decide));obtain⟨hh,v1,v3,v4,v5,v6,hrg,a2,bb⟩:=hf;have c0:=hrg 0 _ rfl;have c1:=hrg 1 _ rfl;have c2:=hrg 2 _ rfl;have c3:=hrg 3 _ rfl;have c4:=hrg 4 _ rfl;have c5:=hrg 5 _ rfl;have c6:=hrg 6 _ rfl;have e4:=ak hI.s4;have df:=hI.df;go_wp2
  obtain⟨q,hq,hq1⟩:=hI.wd.rd;exact bodyPost_ret (v:=.agg (aX c v1 hh v3 v4 v5 v6)) (by simp[results,results147,go_sem, *]) df ⟨hh,v1,v3,v4,v5,v6,rfl,a2,bb.1,bb.2.1,bb.2.2.1,bb.2.2.2.1,bb.2.2.2.2,⟨q,hq,by omega⟩,hI.wd.ex⟩
 case step=>
  intro listed x y i hI hi;have ho:=bQ hi;have hlt:i<22:=List.mem_range.1 (List.mem_filter.1 hi).1;have hop:=et ho;obtain⟨pc,hrd,hpc⟩:=hI.wd.rd;have stay:∃q,Rd y kr a n cap zs q/\q+(dG (listed.setIfInBounds i true):Int)<=p+22:=⟨pc,hrd,by omega⟩
  have gS:kr≠w.heap.size:=by omega
  rcases Ce hlt with rfl|rfl|rfl|rfl|rfl|rfl|rfl|rfl|rfl|rfl|rfl|rfl|rfl|rfl|rfl|rfl|rfl|rfl|rfl|rfl|rfl|rfl
  ·
   refine aO rfl rfl ?_;have e1:=ak hI.s1
   go_simp
   exact hI.put kr _ w c a n cap zs p (by omega) ho hkr gS rfl (Ex.refl _ _) stay
  ·
   refine aO rfl rfl ?_;have e1:=ak hI.s0
   go_simp
   exact hI.put kr _ w c a n cap zs p (by omega) ho hkr gS rfl (Ex.refl _ _) stay
  ·
   have d1:=bL (j:=1) hi rfl (by decide);clear hi;refine aO rfl rfl ?_;have e1:x.tmps[6]?.getD undef=.pointer (some ⟨kr,0,none⟩):=ak (hI.good 1 (by omega) d1)
   go_simp
   refine(eY kr a n cap zs pc 3 y hrd (by omega) (by omega) (by omega)).mono ?_;rintro e y' ⟨m,rfl,m0,m1,nr,hex⟩;exact hI.put kr _ w c a n cap zs p (by omega) ho hkr gS ⟨m,rfl,m0,by omega⟩ hex ⟨pc+1,nr,by omega⟩
  ·
   have d1:=bL (j:=2) hi rfl (by decide);clear hi;refine aO rfl rfl ?_;obtain⟨m,hm,m0,m1⟩:=hI.good 2 (by omega) d1;have e1:=ak hm;have iw:IntKind.i64.wrap (1+m)=1+m:=by rw[IntKind.wrap_i64];omega
   go_simp
   exact hI.put kr _ w c a n cap zs p (by omega) ho hkr gS ⟨1+m,rfl,by omega,by omega⟩ (Ex.refl _ _) stay
  ·
   clear hi;refine aO rfl rfl ?_;have hb:=uG
   go_simp
   have hbl:Below y.heap.size y (y.alloc (.cells strs 9)):=ae bR _;exact hI.put kr _ w c a n cap zs p (by omega) ho hkr gS ⟨y.heap.size,rfl,hI.wd.ex.size,by have:=hI.wd.lt;omega,by simp,Cf y⟩ (Ex.of_below hbl) ⟨pc,hrd.below hbl,by omega⟩
  ·
   refine aO rfl rfl ?_;have e1:=ak hI.s0
   go_simp
   exact hI.put kr _ w c a n cap zs p (by omega) ho hkr gS rfl (Ex.refl _ _) stay
  ·
   have d1:=bL (j:=5) hi rfl (by decide);clear hi;refine aO rfl rfl ?_;have e1:x.tmps[10]?.getD undef=.pointer (some ⟨kr,0,none⟩):=ak (hI.good 5 (by omega) d1)
   go_simp
   refine(eY kr a n cap zs pc 4 y hrd (by omega) (by omega) (by omega)).mono ?_;rintro e y' ⟨m,rfl,m0,m1,nr,hex⟩;exact hI.put kr _ w c a n cap zs p (by omega) ho hkr gS ⟨m,rfl,m0,by omega⟩ hex ⟨pc+1,nr,by omega⟩
  ·
   have d1:=bL (j:=4) hi rfl (by decide);have d2:=bL (j:=6) hi rfl (by decide);clear hi;refine aO rfl rfl ?_;obtain⟨g,hg,g0,g1,g2,gc⟩:=hI.good 4 (by omega) d1;obtain⟨m,hm,m0,m1⟩:=hI.good 6 (by omega) d2;have e1:=ak hg;have e2:=ak hm;obtain⟨j,rfl⟩:=Int.eq_ofNat_of_zero_le m0;obtain⟨u,hu,hP⟩:=gc j (by omega);have j0:(j:Int)<4:=(by omega);clear gc
   go_simp
   exact hI.put kr _ w c a n cap zs p (by omega) ho hkr gS ⟨g,j,u,rfl,g0,g1,g2,hu,hP⟩ (Ex.refl _ _) stay
  ·
   have d1:=bL (j:=7) hi rfl (by decide);clear hi;refine aO rfl rfl ?_;obtain⟨g,j,u,hv,g0,g1,g2,hu,hP⟩:=hI.good 7 (by omega) d1;have e1:=ak hv;obtain⟨s,rfl,hs⟩:=hP
   go_simp
   exact hI.put kr _ w c a n cap zs p (by omega) ho hkr gS ⟨s,rfl,hs⟩ (Ex.refl _ _) stay
  ·
   refine aO rfl rfl ?_;have e1:=ak hI.s0
   go_simp
   exact hI.put kr _ w c a n cap zs p (by omega) ho hkr gS rfl (Ex.refl _ _) stay
  ·
   have d1:=bL (j:=9) hi rfl (by decide);clear hi;refine aO rfl rfl ?_;have e1:x.tmps[14]?.getD undef=.pointer (some ⟨kr,0,none⟩):=ak (hI.good 9 (by omega) d1)
   go_simp
   refine(eY kr a n cap zs pc 4 y hrd (by omega) (by omega) (by omega)).mono ?_;rintro e y' ⟨m,rfl,m0,m1,nr,hex⟩;exact hI.put kr _ w c a n cap zs p (by omega) ho hkr gS ⟨m,rfl,m0,by omega⟩ hex ⟨pc+1,nr,by omega⟩
  ·
   refine aO rfl rfl ?_;have e1:=ak hI.s0
   go_simp
   exact hI.put kr _ w c a n cap zs p (by omega) ho hkr gS rfl (Ex.refl _ _) stay
  ·
   have d1:=bL (j:=11) hi rfl (by decide);clear hi;refine aO rfl rfl ?_;have e1:x.tmps[16]?.getD undef=.pointer (some ⟨kr,0,none⟩):=ak (hI.good 11 (by omega) d1)
   go_simp
   refine(eY kr a n cap zs pc 3 y hrd (by omega) (by omega) (by omega)).mono ?_;rintro e y' ⟨m,rfl,m0,m1,nr,hex⟩;exact hI.put kr _ w c a n cap zs p (by omega) ho hkr gS ⟨m,rfl,m0,by omega⟩ hex ⟨pc+1,nr,by omega⟩
  ·
   clear hi;refine aO rfl rfl ?_;have hb:=uH
   go_simp
   have hbl:Below y.heap.size y (y.alloc (.cells nums 3)):=ae bR _;exact hI.put kr _ w c a n cap zs p (by omega) ho hkr gS ⟨y.heap.size,rfl,hI.wd.ex.size,by have:=hI.wd.lt;omega,by simp,Cg y⟩ (Ex.of_below hbl) ⟨pc,hrd.below hbl,by omega⟩
  ·
   refine aO rfl rfl ?_;have e1:=ak hI.s0
   go_simp
   exact hI.put kr _ w c a n cap zs p (by omega) ho hkr gS rfl (Ex.refl _ _) stay
  ·
   have d1:=bL (j:=14) hi rfl (by decide);clear hi;refine aO rfl rfl ?_;have e1:x.tmps[19]?.getD undef=.pointer (some ⟨kr,0,none⟩):=ak (hI.good 14 (by omega) d1)
   go_simp
   refine(eY kr a n cap zs pc 6 y hrd (by omega) (by omega) (by omega)).mono ?_;rintro e y' ⟨m,rfl,m0,m1,nr,hex⟩;exact hI.put kr _ w c a n cap zs p (by omega) ho hkr gS ⟨m,rfl,m0,by omega⟩ hex ⟨pc+1,nr,by omega⟩
  ·
   have d1:=bL (j:=13) hi rfl (by decide);have d2:=bL (j:=15) hi rfl (by decide);clear hi;refine aO rfl rfl ?_;obtain⟨g,hg,g0,g1,g2,gc⟩:=hI.good 13 (by omega) d1;obtain⟨m,hm,m0,m1⟩:=hI.good 15 (by omega) d2;have e1:=ak hg;have e2:=ak hm;obtain⟨j,rfl⟩:=Int.eq_ofNat_of_zero_le m0;obtain⟨u,hu,hP⟩:=gc j (by omega);have j0:(j:Int)<6:=(by omega);clear gc
   go_simp
   exact hI.put kr _ w c a n cap zs p (by omega) ho hkr gS ⟨g,j,u,rfl,g0,g1,g2,hu,hP⟩ (Ex.refl _ _) stay
  ·
   have d1:=bL (j:=16) hi rfl (by decide);clear hi;refine aO rfl rfl ?_;obtain⟨g,j,u,hv,g0,g1,g2,hu,hP⟩:=hI.good 16 (by omega) d1;have e1:=ak hv;obtain⟨z,rfl,z0,z1⟩:=hP
   go_simp
   exact hI.put kr _ w c a n cap zs p (by omega) ho hkr gS ⟨z,rfl,z0,z1⟩ (Ex.refl _ _) stay
  ·
   refine aO rfl rfl ?_;have e1:=ak hI.s0
   go_simp
   exact hI.put kr _ w c a n cap zs p (by omega) ho hkr gS rfl (Ex.refl _ _) stay
  ·
   have d1:=bL (j:=18) hi rfl (by decide);clear hi;refine aO rfl rfl ?_;have e1:x.tmps[23]?.getD undef=.pointer (some ⟨kr,0,none⟩):=ak (hI.good 18 (by omega) d1)
   go_simp
   refine(eY kr a n cap zs pc 4 y hrd (by omega) (by omega) (by omega)).mono ?_;rintro e y' ⟨m,rfl,m0,m1,nr,hex⟩;exact hI.put kr _ w c a n cap zs p (by omega) ho hkr gS ⟨m,rfl,m0,by omega⟩ hex ⟨pc+1,nr,by omega⟩
  ·
   have d0:=bL (j:=0) hi rfl (by decide);have d3:=bL (j:=3) hi rfl (by decide);have d8:=bL (j:=8) hi rfl (by decide);have kQ:=bL (j:=10) hi rfl (by decide);have gR:=bL (j:=12) hi rfl (by decide);have NU:=bL (j:=17) hi rfl (by decide);have NV:=bL (j:=19) hi rfl (by decide);clear hi;refine aO rfl rfl ?_;have e0:x.tmps[5]?.getD undef=.string c:=ak (hI.good 0 (by omega) d0);have g3:Num 1 3 (x.tmps.getD 8 undef):=hI.good 3 (by omega) d3;obtain⟨v1,h3,a1,b1⟩:=g3;have g8:mE (x.tmps.getD 13 undef):=hI.good 8 (by omega) d8;obtain⟨hh,h8,a2⟩:=g8;have g10:Num 0 3 (x.tmps.getD 15 undef):=hI.good 10 (by omega) kQ;obtain⟨v3,h10,a3,b3⟩:=g10;have g12:Num 0 2 (x.tmps.getD 17 undef):=hI.good 12 (by omega) gR;obtain⟨v4,h12,a4,b4⟩:=g12;have g17:Num 0 8 (x.tmps.getD 22 undef):=hI.good 17 (by omega) NU;obtain⟨v5,Tl,a5,b5⟩:=g17;have g19:Num 0 3 (x.tmps.getD 24 undef):=hI.good 19 (by omega) NV;obtain⟨v6,h19,a6,b6⟩:=g19;have e3:=ak h3;have e8:=ak h8;have e10:=ak h10;have e12:=ak h12;have e17:=ak Tl;have e19:=ak h19
   go_simp
   exact hI.put kr _ w c a n cap zs p (by omega) ho hkr gS ⟨hh,v1,v3,v4,v5,v6,rfl,a2,⟨by omega,by omega⟩,⟨by omega,by omega⟩,⟨by omega,by omega⟩,⟨by omega,by omega⟩,⟨by omega,by omega⟩⟩ (Ex.refl _ _) stay
  have d1:=bL (j:=20) hi rfl (by decide);clear hi;refine aO rfl rfl ?_;obtain⟨hh,v1,v3,v4,v5,v6,hv,a2,bb⟩:=hI.good 20 (by omega) d1;refine wp_store_mid 37 _ _ rfl w.heap.size 0 (aX c v1 hh v3 v4 v5 v6) hI.s4 hv hI.wd.th hinfo (by simp[Value.oneCell']) ?_;exact hI.last kr _ w c a n cap zs p ho (Nat.le_refl _) gS hr ⟨hh,v1,v3,v4,v5,v6,World.rangeAt_setCells_same _ _ _ _ hI.wd.th,a2,bb⟩
end Go.Proofs.YtlfnpjcjapljpaaGreatDoor
