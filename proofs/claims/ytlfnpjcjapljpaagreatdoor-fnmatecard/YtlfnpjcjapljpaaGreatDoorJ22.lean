import Derived.Test.YtlfnpjcjapljpaaGreatDoorJ17
import Derived.Test.YtlfnpjcjapljpaaGreatDoorJ18
namespace Go.Proofs.YtlfnpjcjapljpaaGreatDoor
open Go.Proofs.Tryz Go.RowKit
set_option linter.unusedVariables false
theorem kS(w:World):Sem.run prog (Instr.buildSlice 23 0 #[]) w=.ok (.slice (some ⟨w.heap.size,0,none⟩) 0 0) (w.alloc (.cells #[] 37)):=by kernel_rfl
theorem jH(w:World):Sem.run prog (Instr.buildSlice 24 0 #[]) w=.ok (.slice (some ⟨w.heap.size,0,none⟩) 0 0) (w.alloc (.cells #[] 39)):=by kernel_rfl
theorem fS(w:World):Sem.run prog (Instr.buildSlice 25 0 #[]) w=.ok (.slice (some ⟨w.heap.size,0,none⟩) 0 0) (w.alloc (.cells #[] 64)):=by kernel_rfl
structure Sc(w:World)(O:Array Value)(x:World):Prop where
 b:∀k,x.cell? ⟨w.heap.size,k,none⟩=O[k]?
 c:∀k,x.frozen? ⟨w.heap.size,k,none⟩=false
 d:x.there (w.heap.size+1) 0 9
 e:Below w.heap.size w x
 f:w.heap.size+1<x.heap.size
theorem Sc.below{w x y:World}{O:Array Value}(h:Sc w O x)(hb:Below x.heap.size x y):Sc w O y:=
 have hf:=h.f
 ⟨fun k=>(hb.cell (p:=⟨w.heap.size,k,none⟩) (by show w.heap.size<_;omega)).trans (h.b k),fun k=>(hb.frozen (p:=⟨w.heap.size,k,none⟩) (by show w.heap.size<_;omega)).trans (h.c k),bd h.d (by omega) hb,af h.e hb,Nat.lt_of_lt_of_le hf hb.size⟩
theorem Sc.set{w x:World}{O:Array Value}(h:Sc w O x)(j:Nat)(hj:j<O.size)(u:Value):Sc w (O.setIfInBounds j u) (x.setCell ⟨w.heap.size,j,none⟩ u):=by
 have he:Ex w.heap.size x (x.setCell ⟨w.heap.size,j,none⟩ u):=(Ex.refl _ _).set j u;have hf:=h.f;refine⟨fun k=>?_,fun k=>?_,bh h.d (by omega) he (by omega),iY (p:=⟨w.heap.size,j,none⟩) h.e (Nat.le_refl _) u,Nat.lt_of_lt_of_le hf he.size⟩
 ·
  by_cases e:k=j
  ·
   subst e;have h1:=h.b k;rw[Array.getElem?_eq_getElem hj]at h1;rw[Array.getElem?_setIfInBounds_self_of_lt hj];exact World.cell?_setCell_same _ _ _ h1
  rw[Array.getElem?_setIfInBounds_ne (fun h'=>e h'.symm),<-h.b k];exact World.cell?_setCell_other _ _ _ _ (fun h'=>e (by have:=congrArg Addr.off h';exact this.symm))
 rw[World.frozen?_setCell];exact h.c k
theorem vI(qs gs:List A.aC):(∀r∈gs,(!Maps.has (A.mapD qs) (A.ji r.h))=true)↔∀r∈qs,¬A.jt gs r.h:=by
 constructor
 ·
  rintro h r hr ⟨g,hg,he⟩;have h1:=h g hg;have h2:Maps.has (A.mapD qs) (A.ji g.h)=true:=(A.tE qs g.h).2 ⟨r,hr,by rw[beq_iff_eq]at he ⊢;exact he.symm⟩;rw[h2]at h1;cases h1
 intro h g hg;cases hh:Maps.has (A.mapD qs) (A.ji g.h);·rfl
 obtain⟨r,hr,he⟩:=(A.tE qs g.h).1 hh;exact absurd ⟨g,hg,by rw[beq_iff_eq]at he ⊢;exact he.symm⟩ (h r hr)
theorem tZ(w:World):Sem.run prog (Instr.buildSlice 75 6 #[(0,.func (.func 44) #[] #[]),(1,.func (.func 45) #[] #[]),(2,.func (.func 46) #[] #[]),(3,.func (.func 47) #[] #[]),(4,.func (.func 48) #[] #[]),(5,.func (.func 49) #[] #[])]) w=.ok (.slice (some ⟨w.heap.size,0,none⟩) 6 6) (w.alloc (.cells #[.func (.func 44) #[] #[],.func (.func 45) #[] #[],.func (.func 46) #[] #[],.func (.func 47) #[] #[],.func (.func 48) #[] #[],.func (.func 49) #[] #[]] 35)):=by kernel_rfl
def ju:aj:=⟨{data:=#[]},false,0,false,0,[],[],[],[]⟩
theorem jw(w:World)(B:Nat):dI w ju (.slice none 0 0) (.slice none 0 0) (.slice none 0 0) (.slice none 0 0) B:=
 ⟨Or.inl ⟨rfl,rfl⟩,Or.inl ⟨rfl,rfl⟩,Or.inl ⟨rfl,rfl⟩,Or.inl ⟨rfl,rfl⟩,Or.inl rfl,Or.inl rfl,Or.inl rfl,Or.inl rfl,Or.inl rfl,Or.inl rfl⟩
theorem Sc.all{w x:World}{O:Array Value}(h:Sc w O x)(hO:O.size=9)(l:List Value)(hl:l.length=9):Sc w l.toArray (x.setCells w.heap.size 0 l):=by
 have he:Ex w.heap.size x (x.setCells w.heap.size 0 l):=(Ex.refl _ _).cells _ _;have hf:=h.f;have hth:x.there w.heap.size 0 l.length:=fun j hj=>by
  have h1:=h.b j;have h2:j<O.size:=by omega
  rw[Array.getElem?_eq_getElem h2]at h1;exact⟨by rw[Nat.zero_add,h1];rfl,by rw[Nat.zero_add];exact h.c j⟩
 refine⟨fun k=>?_,fun k=>?_,bh h.d (by omega) he (by omega),Ex.mono h.e he (Nat.le_refl _),Nat.lt_of_lt_of_le hf he.size⟩
 ·
  by_cases e:k<l.length
  ·
   have h1:=World.rangeAt_setCells_same x w.heap.size 0 l hth k l[k] (List.getElem?_eq_getElem e);rw[Nat.zero_add]at h1;rw[h1];simp[e]
  rw[World.cell?_setCells_out _ _ _ _ _ (fun _ _=>Or.inr (by show 0+l.length<=k;omega)),h.b k,Array.getElem?_eq_none (by omega),Array.getElem?_eq_none (by simp;omega)]
 rw[World.frozen?_setCells];exact h.c k
theorem Sc.box{w x:World}{O:Array Value}(h:Sc w O x)(hO:O.size=9):x.there w.heap.size 0 9:=fun j hj=>by
 have h1:=h.b j;have h2:j<O.size:=by omega
 rw[Array.getElem?_eq_getElem h2]at h1;exact⟨by rw[Nat.zero_add,h1];rfl,by rw[Nat.zero_add];exact h.c j⟩
theorem iH:∀u∈((dP ⟨#[]⟩ false 0 false 0 (.slice none 0 0) (.slice none 0 0) (.slice none 0 0) (.slice none 0 0)):List Value),u.oneCell'=true:=by intro u hu;simp only[List.mem_cons,List.not_mem_nil,or_false]at hu;rcases hu with rfl|rfl|rfl|rfl|rfl|rfl|rfl|rfl|rfl<;>rfl
theorem dI.ex{w w':World}{m:aj}{s1 s2 s3 s4:Value}{B k:Nat}(h:dI w m s1 s2 s3 s4 B)(he:Ex k w w')(hk:k<B):dI w' m s1 s2 s3 s4 B:=
 ⟨h.a1.grown (W.av he) (bC (N:=k) (fun g hg=>Nat.lt_of_lt_of_le hk (h.a1.lt g hg).1) (Nat.le_refl _)),h.a2.grown (av he) (bC (N:=k) (fun g hg=>Nat.lt_of_lt_of_le hk (h.a2.lt g hg).1) (Nat.le_refl _)),h.a3.grown (A.av he) (bC (N:=k) (fun g hg=>Nat.lt_of_lt_of_le hk (h.a3.lt g hg).1) (Nat.le_refl _)),h.a4.grown (A.av he) (bC (N:=k) (fun g hg=>Nat.lt_of_lt_of_le hk (h.a4.lt g hg).1) (Nat.le_refl _)),h.gR,h.im,h.iq,h.iu,h.iV,h.jo⟩
theorem dI.low{w:World}{m:aj}{s1 s2 s3 s4:Value}{B B':Nat}(h:dI w m s1 s2 s3 s4 B)(hB:B'<=B):dI w m s1 s2 s3 s4 B':=
 ⟨h.a1.low hB,h.a2.low hB,h.a3.low hB,h.a4.low hB,h.gR,h.im,h.iq,h.iu,h.iV,h.jo⟩
theorem Sc.put{w x:World}{O:Array Value}(h:Sc w O x)(l:List Value):Below w.heap.size w (x.setCells (w.heap.size+1) 0 l):=
 Ex.mono h.e ((Ex.refl (w.heap.size+1) x).cells l 0) (Nat.le_succ _)
theorem dA{m:aj}(h:tT false m):¬Valid m:=fun hv=>by have:=h.2 hv;cases this
end Go.Proofs.YtlfnpjcjapljpaaGreatDoor
namespace Go.Proofs.YtlfnpjcjapljpaaGreatDoor.A
open Go.Proofs.Tryz Go.RowKit
set_option maxHeartbeats 1000000
set_option linter.unusedVariables false
def db(x:ByteArray)(rs:List aC):List aC:=rs.filter (fun r=>!(r.h.toList==x.toList))
theorem pI(x:ByteArray)(rs:List aC):db x rs=Ord.out aM x.data.toList rs:=by unfold db Ord.out;refine congrArg (fun f=>List.filter f rs) (funext fun r=>?_);show _=!(r.h.data.toList==x.data.toList);rw[ByteArray.toList_eq,ByteArray.toList_eq]
theorem nB{x:ByteArray}{rs:List aC}{k:Nat}{r:aC}(hr:rs[k]?=some r):db x (rs.take (k+1))=db x (rs.take k)++db x [r]:=by
 have hlt:k<rs.length:=(List.getElem?_eq_some_iff.1 hr).1;have he:rs[k]=r:=by rw[List.getElem?_eq_getElem hlt]at hr;exact Option.some.inj hr
 rw[List.take_succ_eq_append_getElem hlt,he];unfold db;rw[List.filter_append]
theorem sQ{x:ByteArray}{rs:List aC}{k:Nat}{r:aC}(hr:rs[k]?=some r)(h:(r.h.toList==x.toList)=true):db x (rs.take (k+1))=db x (rs.take k):=by rw[nB hr,show db x [r]=[] by simp[db]at h ⊢;exact h,List.append_nil]
theorem pJ{x:ByteArray}{rs:List aC}{k:Nat}{r:aC}(hr:rs[k]?=some r)(h:(r.h.toList==x.toList)=false):db x (rs.take (k+1))=db x (rs.take k)++[r]:=by rw[nB hr,show db x [r]=[r] by simp[db]at h ⊢;exact h]
theorem zQ(b off cap:Nat)(rs:List aC)(x:ByteArray)(w:World)(hR:aG w b off rs)(hb:b<w.heap.size)(hl:rs.length<=1048576):
  Calls prog 59 #[.slice (some ⟨b,off,none⟩) rs.length cap,.string x] w fun e w'=>(∃v,e=.returned v/\Sl w' v (db x rs) w.heap.size)/\Below w.heap.size w w':=by
 obtain⟨i0,hi,hz0,hz1,hz2⟩:=info_parts cE;have hbn:=fS;go_enter func59,ntmps59
 go_wp2
 clear hbn
 go_loopw [5,6] (fun v i wx=>∃(k:Nat),k<=rs.length/\i=.int .i64 k/\wx.ownsRow w.heap.size 64 4 v (db x (rs.take k)).length (aA (db x (rs.take k)))/\Below w.heap.size w wx) (fun _ i _=>rs.length-(intOf i).toNat)
 case atStart=>exact⟨0,Nat.zero_le _,rfl,World.ownsRow_made w #[] 0 (Nat.le_refl _) (Nat.zero_le _) rfl,ae bR _⟩
 case round=>
  obtain⟨k,hk,rfl,hown,hB⟩:=hrel;by_cases hlt:k<rs.length
  ·
   obtain⟨r,hr⟩:∃r,rs[k]?=some r:=⟨rs[k],List.getElem?_eq_getElem hlt⟩
   have Hr:=ah hr;have Ho:=ah hown;have hdl:(db x (rs.take k)).length<=k:=Nat.le_trans (List.length_filter_le _ _) (by simp;omega);obtain⟨c0,c1,c2,c3⟩:=(hR.keep hb hB).at hr;clear hr hown;cases he:(r.h.toList==x.toList)
   ·
    go_wp2_with (first|(at_builtin;(refine wpList_append_own _ rfl _ _ 25 rfl w.heap.size 64 i0 _ 4 48 underlying25 hi hz0 hz1 hz2 rfl (by decide) _ (db x (rs.take k)).length _ rfl (by exact aN Ho.out (by repeat (first|exact bR|refine ae ?_ _))) ⟨_,0,none⟩ 1 1 r.cells rfl rfl (bG _ _ (by simp) _ _ _ rfl) (aU _) (by unfold maxLen;omega) (by omega) (by have:=hB.size;simp;omega) ?_);intro v' w1 ho1 hg1 hn1))
    exact⟨⟨k+1,by omega,by go_num,by rw[pJ Hr.out he,List.length_append,cP];exact ho1,Below.grown (by repeat (first|exact hB|refine ae ?_ _)) hg1 (by have:=hB.size;simp;omega) (br Ho.out)⟩,by simp[intOf];omega⟩
   go_wp2_with fail
   exact⟨⟨k+1,by omega,by go_num,by rw[sQ Hr.out he];exact Ho.out,hB⟩,by simp[intOf];omega⟩
  go_wp2
  go_ret
  have hk':k=rs.length:=by omega
  subst hk';rw[List.take_of_length_le (Nat.le_refl _)]at hown;exact⟨⟨_,rfl,Sl.bE hown⟩,hB⟩
end Go.Proofs.YtlfnpjcjapljpaaGreatDoor.A
namespace Go.Proofs.YtlfnpjcjapljpaaGreatDoor
open Go.Proofs.Tryz Go.RowKit
set_option maxHeartbeats 1000000
set_option linter.unusedVariables false
theorem W.all_zero(a:Option Addr)(cap:Nat)(v:Value)(w:World):
  Calls prog 157 #[.slice a 0 cap,v] w fun e w'=>e=.returned (.bool true)/\w'=w:=by
 go_enter func157,ntmps157
 go_wp2
 refine wp_loop_rounds 1 ?_;rw[rounds_succ];go_wp2
 go_ret
 exact⟨rfl,rfl⟩
theorem W.jz(a:Option Addr)(cap:Nat)(v:Value)(w:World):
  Calls prog 159 #[.slice a 0 cap,v] w fun e w'=>e=.returned (.bool true)/\w'=w:=by
 go_enter func159,ntmps159
 go_wp2
 refine wp_loop_rounds 1 ?_;rw[rounds_succ];go_wp2
 go_ret
 exact⟨rfl,rfl⟩
theorem all_zero(a:Option Addr)(cap:Nat)(v:Value)(w:World):
  Calls prog 95 #[.slice a 0 cap,v] w fun e w'=>e=.returned (.bool true)/\w'=w:=by
 go_enter func95,ntmps95
 go_wp2
 refine wp_loop_rounds 1 ?_;rw[rounds_succ];go_wp2
 go_ret
 exact⟨rfl,rfl⟩
theorem jz(a:Option Addr)(cap:Nat)(v:Value)(w:World):
  Calls prog 127 #[.slice a 0 cap,v] w fun e w'=>e=.returned (.bool true)/\w'=w:=by
 go_enter func127,ntmps127
 go_wp2
 refine wp_loop_rounds 1 ?_;rw[rounds_succ];go_wp2
 go_ret
 exact⟨rfl,rfl⟩
theorem A.all_zero(a:Option Addr)(cap:Nat)(v:Value)(w:World):
  Calls prog 93 #[.slice a 0 cap,v] w fun e w'=>e=.returned (.bool true)/\w'=w:=by
 go_enter func93,ntmps93
 go_wp2
 refine wp_loop_rounds 1 ?_;rw[rounds_succ];go_wp2
 go_ret
 exact⟨rfl,rfl⟩
theorem A.jz(a:Option Addr)(cap:Nat)(v:Value)(w:World):
  Calls prog 130 #[.slice a 0 cap,v] w fun e w'=>e=.returned (.bool true)/\w'=w:=by
 go_enter func130,ntmps130
 go_wp2
 refine wp_loop_rounds 1 ?_;rw[rounds_succ];go_wp2
 go_ret
 exact⟨rfl,rfl⟩
theorem vh(P:aw->Bool)(a:Option Addr)(cap:Nat)(rs:List aw)(w:World)(h:Gv w a rs)(hl:rs.length<=1048576)
  (hF:∀r∈rs,∀x,Below w.heap.size w x->Calls prog 96 #[.agg (aL r.c r.v r.h r.p r.s r.d r.g r.a r.b r.i r.u)] x fun e x'=>e=.returned (.bool (P r))/\Below x.heap.size x x'):
  Calls prog 95 #[.slice a rs.length cap,.func (.func 96) #[] #[]] w fun e w'=>(∃q:Bool,e=.returned (.bool q)/\(q=true↔∀r∈rs,P r=true))/\Below w.heap.size w w':=by
 rcases h with rfl|⟨b,rfl,hb,hR⟩
 ·
  refine mr (all_zero a cap _ w) ?_;exact⟨⟨true,rfl,⟨fun _ r hr=>(by cases hr),fun _=>rfl⟩⟩,Below.refl _ _⟩
 ·exact CW P b 0 cap rs w hR hb hl hF
theorem A.td(bk:Nat)(P:A.aC->Bool)(a:Option Addr)(cap:Nat)(rs:List A.aC)(w:World)(h:A.Gv w a rs)(hl:rs.length<=1048576)
  (hF:∀r∈rs,∀x,Below w.heap.size w x->Calls prog 94 #[.agg (cZ r.h r.c r.f r.t),.pointer (some ⟨bk,0,none⟩)] x fun e x'=>e=.returned (.bool (P r))/\Below x.heap.size x x'):
  Calls prog 93 #[.slice a rs.length cap,.func (.func 94) #[] #[.pointer (some ⟨bk,0,none⟩)]] w fun e w'=>(∃q:Bool,e=.returned (.bool q)/\(q=true↔∀r∈rs,P r=true))/\Below w.heap.size w w':=by
 rcases h with rfl|⟨b,rfl,hb,hR⟩
 ·
  refine mr (A.all_zero a cap _ w) ?_;exact⟨⟨true,rfl,⟨fun _ r hr=>(by cases hr),fun _=>rfl⟩⟩,Below.refl _ _⟩
 ·exact A.zX bk P b 0 cap rs w hR hb hl hF
theorem oQ(a:Option Addr)(cap:Nat)(rs:List aw)(clock:Int)(w:World)(h:Gv w a rs)(hfit:∀r∈rs,r.fits)(hl:rs.length<=1048576):
  Calls prog 91 #[.slice a rs.length cap,.int .i64 clock] w fun e w'=>(∃q:Bool,e=.returned (.bool q)/\(q=true↔rs.length<=20/\dW clock rs rs.length))/\Below w.heap.size w w':=by
 rcases h with rfl|⟨b,rfl,hb,hR⟩
 ·
  show Calls prog _ #[.slice a 0 cap,.int .i64 clock] w _;go_enter func91,ntmps91
  go_wp2_with (first|(go_at_call 127;refine mr (jz _ _ _ _) ?_)|(go_at_call 95;refine mr (all_zero _ _ _ _) ?_))
  go_ret
  exact⟨⟨true,rfl,⟨fun _=>⟨by simp,(fun j r hj hr=>by simp at hr)⟩,fun _=>rfl⟩⟩,ae bR _⟩
 ·exact vj b 0 cap rs clock w hR hb hfit hl
theorem A.ki(a:Option Addr)(cap:Nat)(rs:List A.aC)(clock:Int)(w:World)(h:A.Gv w a rs)(hfit:∀r∈rs,r.fits)(hl:rs.length<=1048576):
  Calls prog 92 #[.slice a rs.length cap,.int .i64 clock] w fun e w'=>(∃q:Bool,e=.returned (.bool q)/\A.sD q clock rs)/\Below w.heap.size w w':=by
 rcases h with rfl|⟨b,rfl,hb,hR⟩
 ·
  show Calls prog _ #[.slice a 0 cap,.int .i64 clock] w _;go_enter func92,ntmps92
  go_wp2_with (first|(go_at_call 130;refine mr (A.jz _ _ _ _) ?_)|(go_at_call 93;refine mr (A.all_zero _ _ _ _) ?_))
  go_ret
  exact⟨⟨true,rfl,⟨fun _=>⟨by simp,(fun j q r hj hq hr=>by simp at hq),(fun r hr=>by cases hr)⟩,fun _=>rfl⟩⟩,ae bR _⟩
 ·exact A.uC b 0 cap rs clock w hR hb hfit hl
theorem A.xu(a:Option Addr)(cap:Nat)(rs:List A.aC)(w:World)(h:A.Gv w a rs)(hfit:∀r∈rs,r.fits)(hl:rs.length<=1048576):
  Calls prog 73 #[.slice a rs.length cap,.func (.func 74) #[] #[]] w fun e w'=>e=.returned (.map (some w.heap.size))/\w'.ownsMap prog 9 A.RU w.heap.size rs.length (A.mapD rs)/\Below w.heap.size w w':=by
 rcases h with rfl|⟨b,rfl,hb,hR⟩
 ·
  have hmm:∀w:World,Sem.run prog (Instr.makeMap 108 (some (.int .i64 0))) w=.ok (.map (some w.heap.size)) (w.alloc (.map #[] 0)):=fun w=>A.tf 0 w;show Calls prog _ #[.slice a 0 cap,.func (.func 74) #[] #[]] w _;go_enter func73,ntmps73
  go_wp2
  refine wp_loop_rounds 1 ?_;rw[rounds_succ];go_wp2
  go_ret
  exact⟨rfl,World.ownsMap_made _ _ _ _,ae bR _⟩
 ·exact A.byName b 0 cap rs w hR hb hfit hl
end Go.Proofs.YtlfnpjcjapljpaaGreatDoor
namespace Go.Proofs.YtlfnpjcjapljpaaGreatDoor.W
open Go.Proofs.Tryz Go.RowKit
theorem tj(a:Option Addr)(cap:Nat)(ws:List ay)(w:World)(h:Gv w a ws)(hfit:∀r∈ws,r.fits)(hl:ws.length<=10):
  Calls prog 124 #[.slice a ws.length cap] w fun e w'=>(∃q:Bool,e=.returned (.bool q)/\(q=true↔Each ws ws.length))/\Below w.heap.size w w':=by
 rcases h with rfl|⟨b,rfl,hb,hR⟩
 ·
  show Calls prog _ #[.slice a 0 cap] w _;go_enter func124,ntmps124
  go_wp2_with (go_at_call 157;refine mr (all_zero _ _ _ _) ?_)
  go_ret
  exact⟨⟨true,rfl,⟨fun _ j r hj hr=>(by simp at hr),fun _=>rfl⟩⟩,Below.refl _ _⟩
 ·exact zY b 0 cap ws w hR hb hfit hl
theorem nH(a:Option Addr)(cap:Nat)(ws:List ay)(w:World)(h:Gv w a ws)(hl:ws.length<=10):
  Calls prog 125 #[.slice a ws.length cap] w fun e w'=>(∃q:Bool,e=.returned (.bool q)/\(q=true↔Asc ws ws.length))/\Below w.heap.size w w':=by
 rcases h with rfl|⟨b,rfl,hb,hR⟩
 ·
  show Calls prog _ #[.slice a 0 cap] w _;go_enter func125,ntmps125
  go_wp2_with (go_at_call 159;refine mr (jz _ _ _ _) ?_)
  go_ret
  exact⟨⟨true,rfl,⟨fun _ j q r hj hq hr=>(by simp at hq),fun _=>rfl⟩⟩,Below.refl _ _⟩
 ·exact tm b 0 cap ws w hR hb hl
theorem gp(a:Option Addr)(cap:Nat)(ws:List ay)(w:World)(hG:Gv w a ws)(hc:ws.length<=cap)(hfit:∀r∈ws,r.fits)(hl:ws.length<=1048576):
  Calls prog 90 #[.slice a ws.length cap] w fun e w'=>(∃q:Bool,e=.returned (.bool q)/\Says q ws)/\Below w.heap.size w w':=by
 have hba:=xw;by_cases h10:ws.length<=10
 ·
  go_enter func90,ntmps90
  go_wp2_with go_in
  clear hba;refine wp_loop_rounds 5 ?_;rw[rounds_succ];go_wp2_with fail
  refine(li _ _ _ _).mono ?_;rintro e w1 ⟨rfl,rfl⟩;have kQ:decide (ws.length<=10)=true:=by simpa using h10
  go_wp2_with fail
  rw[rounds_succ];go_wp2_with fail
  have R0:=hG.keep (ae bR (.cells #[.func (.func 123) #[] #[],.func (.func 124) #[] #[],.func (.func 125) #[] #[],.func (.func 126) #[] #[]] 70));refine(tj a _ ws _ R0 hfit h10).mono ?_;rintro e w2 ⟨⟨q2,rfl,h2⟩,b2⟩;have k2:=aJ b2;cases q2
  ·
   go_wp2
   go_ret
   exact⟨⟨false,rfl,gZ (fun _ h=>by have:=h2.2 h.1;cases this)⟩,af (ae bR _) b2⟩
  have e2:=ah (h2.1 rfl);clear h2;go_wp2_with fail
  rw[rounds_succ];go_wp2_with fail
  have R2:=R0.keep b2;refine(nH a _ ws _ R2 h10).mono ?_;rintro e w3 ⟨⟨q3,rfl,h3⟩,b3⟩;have b3':=af b2 b3;clear k2;have k3:=aJ b3';cases q3
  ·
   go_wp2
   go_ret
   exact⟨⟨false,rfl,gZ (fun _ h=>by have:=h3.2 h.2.1;cases this)⟩,af (ae bR _) b3'⟩
  have e3:=ah (h3.1 rfl);clear h3;go_wp2_with fail
  rw[rounds_succ];go_wp2_with fail
  have R3:=R2.keep b3;refine(qO a cap ws _ R3 hc (by omega)).mono ?_;rintro e w4 ⟨⟨q4,rfl,h4⟩,b4⟩;have Rm:=af b3' b4;clear k3;cases q4
  ·
   go_wp2
   go_ret
   exact⟨⟨false,rfl,gZ (fun _ h=>by have:=h4.2 h.2.2;cases this)⟩,af (ae bR _) Rm⟩
  have e4:=ah (h4.1 rfl);clear h4;go_wp2_with fail
  rw[rounds_succ];go_wp2
  go_ret
  exact⟨⟨true,rfl,tq ⟨e2.out,e3.out,e4.out⟩ (Nat.le_refl _) h10⟩,af (ae bR _) Rm⟩
 ·
  go_enter func90,ntmps90
  go_wp2_with go_in
  clear hba;refine wp_loop_rounds 1 ?_;rw[rounds_succ];go_wp2_with fail
  refine(li _ _ _ _).mono ?_;rintro e w1 ⟨rfl,rfl⟩;have kQ:decide (ws.length<=10)=false:=by simpa using h10
  go_wp2
  go_ret
  exact⟨⟨false,rfl,gZ (fun h _=>h10 h)⟩,ae bR _⟩
end Go.Proofs.YtlfnpjcjapljpaaGreatDoor.W
