import Derived.Test.YtlfnpjcjapljpaaGreatDoorJ01
import Derived.BigQuiet
namespace Go.Proofs.YtlfnpjcjapljpaaGreatDoor
open Go.Proofs.Tryz Go.RowKit
set_option linter.unusedVariables false
theorem bM(fn:Fn)(x y:Array Value)(w:World):Sem.run prog (binOp BinOp.neq 171 (Value.func fn x y) Value.nilFunc) w=.ok (.bool true) w:=by kernel_rfl
theorem bZ(w:World):Sem.run prog (binOp BinOp.neq 171 Value.nilFunc Value.nilFunc) w=.ok (.bool false) w:=by kernel_rfl
theorem tw(w:World):Sem.run prog (Instr.build 199 #[(0,.func (.func 207) #[] #[]),(1,.func (.func 208) #[] #[]),(2,.func (.func 209) #[] #[]),(3,.func (.func 210) #[] #[]),(4,.func (.func 211) #[] #[]),(5,.func (.func 208) #[] #[]),(6,.func (.func 212) #[] #[])]) w=.ok (.agg #[.func (.func 207) #[] #[],.func (.func 208) #[] #[],.func (.func 209) #[] #[],.func (.func 210) #[] #[],.func (.func 211) #[] #[],.func (.func 208) #[] #[],.func (.func 212) #[] #[]]) w:=by kernel_rfl
theorem bJ(w:World):
  Calls prog 189 #[] w fun e w'=>e=.returned (.agg #[.func (.func 207) #[] #[],.func (.func 208) #[] #[],.func (.func 209) #[] #[],.func (.func 210) #[] #[],.func (.func 211) #[] #[],.func (.func 208) #[] #[],.func (.func 212) #[] #[]])/\w'=w.alloc (.cells #[.func (.func 207) #[] #[],.func (.func 208) #[] #[],.func (.func 209) #[] #[],.func (.func 210) #[] #[],.func (.func 211) #[] #[],.func (.func 208) #[] #[],.func (.func 212) #[] #[]] 199):=by
 have hb:=tw;go_enter func189,ntmps189
 go_wp2
 exact bodyPost_ret (v:=.agg #[.func (.func 207) #[] #[],.func (.func 208) #[] #[],.func (.func 209) #[] #[],.func (.func 210) #[] #[],.func (.func 211) #[] #[],.func (.func 208) #[] #[],.func (.func 212) #[] #[]]) (by simp[results,results189,go_sem]) rfl ⟨rfl,rfl⟩
theorem mf(c h:ByteArray)(v p s d g a b i u clock:Int)(X:World)(bk:Nat)(hbk:bk=X.heap.size)(hl:bj h u clock=true):
  Calls prog 209 #[.pointer (some ⟨bk,0,none⟩)] (((X.alloc (.cells #[.string c,.int .i64 v,.string h,.int .i64 p,.int .i64 s,.int .i64 d,.int .i64 g,.int .i64 a,.int .i64 b,.int .i64 i,.int .i64 u,.int .i64 clock,.bool false] 169)).alloc (.cells #[.func (.func 207) #[] #[],.func (.func 208) #[] #[],.func (.func 209) #[] #[],.func (.func 210) #[] #[],.func (.func 211) #[] #[],.func (.func 208) #[] #[],.func (.func 212) #[] #[]] 199)).alloc (.cells #[.func (.func 207) #[] #[],.func (.func 208) #[] #[],.func (.func 209) #[] #[],.func (.func 210) #[] #[],.func (.func 211) #[] #[],.func (.func 208) #[] #[],.func (.func 212) #[] #[]] 199)) fun e w'=>e=.returned .nilFunc /\
   w'=((((X.alloc (.cells #[.string c,.int .i64 v,.string h,.int .i64 p,.int .i64 s,.int .i64 d,.int .i64 g,.int .i64 3,.int .i64 s,.int .i64 i,.int .i64 u,.int .i64 clock,.bool false] 169)).alloc (.cells #[.func (.func 207) #[] #[],.func (.func 208) #[] #[],.func (.func 209) #[] #[],.func (.func 210) #[] #[],.func (.func 211) #[] #[],.func (.func 208) #[] #[],.func (.func 212) #[] #[]] 199)).alloc (.cells #[.func (.func 207) #[] #[],.func (.func 208) #[] #[],.func (.func 209) #[] #[],.func (.func 210) #[] #[],.func (.func 211) #[] #[],.func (.func 208) #[] #[],.func (.func 212) #[] #[]] 199)).alloc (.cells (aL c v h p s d g a b i u) 98)).drew:=by
 subst hbk;go_enter func209,ntmps209
 go_wp2
 go_region_held3 (fun w'=>∀k,w'.cell? ⟨X.heap.size,k,none⟩=(X.alloc (.cells #[.string c,.int .i64 v,.string h,.int .i64 p,.int .i64 s,.int .i64 d,.int .i64 g,.int .i64 a,.int .i64 b,.int .i64 i,.int .i64 u,.int .i64 clock,.bool false] 169)).cell? ⟨X.heap.size,k,none⟩) (simp[go_sem,World.cell?_alloc_past])
  (first|(go_at_call 109;refine mr (cC c h v p s d g a b i u clock _) ?_))
 go_wp2
 go_ret
 exact⟨rfl,rfl⟩
theorem nK(c h:ByteArray)(v p s d g a b i u clock:Int)(X:World)(bk:Nat)(hbk:bk=X.heap.size)(hl:bj h u clock=false):
  Calls prog 209 #[.pointer (some ⟨bk,0,none⟩)] (((X.alloc (.cells #[.string c,.int .i64 v,.string h,.int .i64 p,.int .i64 s,.int .i64 d,.int .i64 g,.int .i64 a,.int .i64 b,.int .i64 i,.int .i64 u,.int .i64 clock,.bool false] 169)).alloc (.cells #[.func (.func 207) #[] #[],.func (.func 208) #[] #[],.func (.func 209) #[] #[],.func (.func 210) #[] #[],.func (.func 211) #[] #[],.func (.func 208) #[] #[],.func (.func 212) #[] #[]] 199)).alloc (.cells #[.func (.func 207) #[] #[],.func (.func 208) #[] #[],.func (.func 209) #[] #[],.func (.func 210) #[] #[],.func (.func 211) #[] #[],.func (.func 208) #[] #[],.func (.func 212) #[] #[]] 199)) fun e w'=>e=.returned .nilFunc /\
   w'=((((((X.alloc (.cells #[.string c,.int .i64 v,.string h,.int .i64 p,.int .i64 s,.int .i64 d,.int .i64 g,.int .i64 2,.int .i64 0,.int .i64 i,.int .i64 u,.int .i64 clock,.bool false] 169)).alloc (.cells #[.func (.func 207) #[] #[],.func (.func 208) #[] #[],.func (.func 209) #[] #[],.func (.func 210) #[] #[],.func (.func 211) #[] #[],.func (.func 208) #[] #[],.func (.func 212) #[] #[]] 199)).alloc (.cells #[.func (.func 207) #[] #[],.func (.func 208) #[] #[],.func (.func 209) #[] #[],.func (.func 210) #[] #[],.func (.func 211) #[] #[],.func (.func 208) #[] #[],.func (.func 212) #[] #[]] 199)).alloc (.cells (aL c v h p s d g a b i u) 98)).alloc (.cells (aL c v h p s d g 2 0 i u) 98)).alloc (.cells (aL c v h p s d g 2 0 i u) 98)).drew:=by
 subst hbk;go_enter func209,ntmps209
 go_wp2
 go_region_held3 (fun w'=>∀k,w'.cell? ⟨X.heap.size,k,none⟩=(X.alloc (.cells #[.string c,.int .i64 v,.string h,.int .i64 p,.int .i64 s,.int .i64 d,.int .i64 g,.int .i64 a,.int .i64 b,.int .i64 i,.int .i64 u,.int .i64 clock,.bool false] 169)).cell? ⟨X.heap.size,k,none⟩) (simp[go_sem,World.cell?_alloc_past])
  (first|(go_at_call 109;refine mr (cC c h v p s d g a b i u clock _) ?_))
 go_wp2_with (first|(go_at_call 110;refine mr (fJ c h v p s d g a b i u _) ?_))
 go_ret
 exact⟨rfl,rfl⟩
def eJ(n:Int):Int:=if n<=0 then 1 else if n=1 then 2 else if n=2 then 4 else if n=3 then 8 else 16
theorem xG(n:Int)(w:World)(cond:n<=0):Calls prog 233 #[.int .i64 n] w fun e w'=>e=.returned (.int .i64 1)/\w'=w:=by
 go_enter func233,ntmps233
 go_wp2
 refine wp_loop_rounds 1 ?_;rw[rounds_succ];go_wp2
 all_goals go_ret
 all_goals exact⟨rfl,rfl⟩
theorem xH(w:World):Calls prog 233 #[.int .i64 1] w fun e w'=>e=.returned (.int .i64 2)/\w'=w:=by
 go_enter func233,ntmps233
 go_wp2
 refine wp_loop_rounds 2 ?_;rw[rounds_succ];go_wp2
 rw[rounds_succ];go_wp2
 all_goals go_ret
 all_goals exact⟨rfl,rfl⟩
theorem xI(w:World):Calls prog 233 #[.int .i64 2] w fun e w'=>e=.returned (.int .i64 4)/\w'=w:=by
 go_enter func233,ntmps233
 go_wp2
 refine wp_loop_rounds 3 ?_;rw[rounds_succ];go_wp2
 rw[rounds_succ];go_wp2
 rw[rounds_succ];go_wp2
 all_goals go_ret
 all_goals exact⟨rfl,rfl⟩
theorem xJ(w:World):Calls prog 233 #[.int .i64 3] w fun e w'=>e=.returned (.int .i64 8)/\w'=w:=by
 go_enter func233,ntmps233
 go_wp2
 refine wp_loop_rounds 4 ?_;rw[rounds_succ];go_wp2
 rw[rounds_succ];go_wp2
 rw[rounds_succ];go_wp2
 rw[rounds_succ];go_wp2
 all_goals go_ret
 all_goals exact⟨rfl,rfl⟩
theorem xK(n:Int)(w:World)(cond:4<=n):Calls prog 233 #[.int .i64 n] w fun e w'=>e=.returned (.int .i64 16)/\w'=w:=by
 go_enter func233,ntmps233
 go_wp2
 refine wp_loop_rounds 5 ?_;rw[rounds_succ];go_wp2
 rw[rounds_succ];go_wp2
 rw[rounds_succ];go_wp2
 rw[rounds_succ];go_wp2
 rw[rounds_succ];go_wp2
 all_goals go_ret
 all_goals exact⟨rfl,rfl⟩
theorem mL(n:Int)(w:World):Calls prog 233 #[.int .i64 n] w fun e w'=>e=.returned (.int .i64 (eJ n))/\w'=w:=by
 unfold eJ;by_cases h0:n<=0;·rw[if_pos h0];exact xG n w h0
 rw[if_neg h0];by_cases h1:n=1;·rw[if_pos h1];subst h1;exact xH w
 rw[if_neg h1];by_cases h2:n=2;·rw[if_pos h2];subst h2;exact xI w
 rw[if_neg h2];by_cases h3:n=3;·rw[if_pos h3];subst h3;exact xJ w
 rw[if_neg h3];exact xK n w (by omega)
theorem lV(n:Nat)(hn:n<=1048576):∃C:Array Value,C.size=n*11/\∀w:World,Sem.run prog (Instr.makeSlice 24 (.int .i64 (n:Int)) (.int .i64 (n:Int))) w=.ok (.slice (some ⟨w.heap.size,0,none⟩) n n) (w.alloc (.cells C 39)):=by
 have hq:(prog.info? 39).map (fun i=>(i.size,i.bytes,i.zero))=some (11,104,some (.agg (aL ⟨#[]⟩ 0 ⟨#[]⟩ 0 0 0 0 0 0 0 0))):=by kernel_rfl
 cases hi:prog.info? 39 with
 |none=>rw[hi]at hq;simp at hq
 |some i=>rw[hi]at hq;simp only[Option.map_some,Option.some.injEq,Prod.mk.injEq]at hq;obtain⟨h1,h2,h3⟩:=hq;refine⟨madeCells (Value.cells (.agg (aL ⟨#[]⟩ 0 ⟨#[]⟩ 0 0 0 0 0 0 0 0))) (n*i.size),(size_madeCells _ _).trans (by rw[h1]),fun w=>?_⟩;have:=run_make (P:=prog) w 24 39 i _ underlying24 hi h3 .i64 .i64 n n (by omega) (by omega) (by rw[h2];omega) (by omega);simpa using this
theorem cL{A:World}{k:Nat}(hk:A.heap.size<=k):∀(vs:List Value)(o:Nat)(w':World),Below A.heap.size A w'->Below A.heap.size A (w'.setCells k o vs)
 |[],_,_,h=>h
 |v::r,o,w',h=>cL hk r (o+1) _ (iY h (by exact hk) v)
theorem ev{k:Nat}:∀(vs:List Value)(o:Nat)(w':World),(w'.setCells k o vs).heap.size=w'.heap.size
 |[],_,_=>rfl
 |v::r,o,w'=>(ev r (o+1) _).trans (by simp[World.setCell])
theorem nC{x y:World}{k o n:Nat}(h:x.there k o n)(hk:k<x.heap.size)(hb:Below x.heap.size x y):y.there k o n:=
 fun j hj=>⟨by rw[hb.cell (p:=⟨k,o+j,none⟩) hk];exact(h j hj).1,by rw[hb.frozen (p:=⟨k,o+j,none⟩) hk];exact(h j hj).2⟩
theorem jb{x:World}{g n k:Nat}(h:x.there g 0 (n*11))(hk:k<n):x.there g (k*11) 11:=
 fun j hj=>by have:=h (k*11+j) (by omega);simpa using this
theorem pL{w:World}{C:Array Value}{t:TypeId}{n:Nat}(hC:C.size=n*11):(w.alloc (.cells C t)).there w.heap.size 0 (n*11):=
 fun j hj=>⟨by simp[go_sem];omega,by simp[go_sem]⟩
theorem pM{x:World}{g k:Nat}{rs:List aw}{r:aw}(hr:rs[k]?=some r)(h:aG x g 0 (rs.take k))(ht:x.there g (k*11) 11):aG (x.setCells g (k*11) r.cells) g 0 (rs.take (k+1)):=by
 intro j q hj;rw[List.getElem?_take]at hj;split at hj
 case isFalse=>cases hj
 rename_i hlt;by_cases e:j=k
 ·
  subst e;rw[hr]at hj;cases hj;have:=World.rangeAt_setCells_same x g (j*11) r.cells ht;simpa using this
 have hj':(rs.take k)[j]?=some q:=by rw[List.getElem?_take,if_pos (by omega)];exact hj
 exact World.rangeAt_setCells_apart (h j q hj') g (k*11) r.cells (Or.inr (Or.inl (by show 0+j*11+11<=k*11;omega)))
structure Ex(kr:Nat)(w w':World):Prop where
 os:w'.os=w.os
 tape:w'.tape=w.tape
 output:w'.output=w.output
 size:w.heap.size<=w'.heap.size
 block:∀k,k<w.heap.size->k≠kr->w'.heap[k]?=w.heap[k]?
theorem Ex.refl(kr:Nat)(w:World):Ex kr w w:=⟨rfl,rfl,rfl,Nat.le_refl _,fun _ _ _=>rfl⟩
theorem Ex.trans{kr:Nat}{a b c:World}(h:Ex kr a b)(k:Ex kr b c):Ex kr a c:=
 ⟨k.os.trans h.os,k.tape.trans h.tape,k.output.trans h.output,Nat.le_trans h.size k.size,fun i hi hne=>(k.block i (Nat.lt_of_lt_of_le hi h.size) hne).trans (h.block i hi hne)⟩
theorem Ex.of_below{kr:Nat}{a b:World}(h:Below a.heap.size a b):Ex kr a b:=⟨h.os,h.tape,h.output,h.size,fun i hi _=>h.block i hi⟩
theorem Ex.below{kr B:Nat}{a b:World}(h:Ex kr a b)(hB:B<=kr)(hz:B<=a.heap.size):Below B a b:=⟨h.os,h.tape,h.output,h.size,fun i hi=>h.block i (by omega) (by omega)⟩
theorem Ex.set{kr:Nat}{a b:World}(h:Ex kr a b)(o:Nat)(u:Value):Ex kr a (b.setCell ⟨kr,o,none⟩ u):=
 h.trans ⟨rfl,rfl,rfl,by simp[World.setCell],fun i hi hne=>Below.heap_setCell _ _ _ _ hne⟩
theorem Ex.drewN{kr:Nat}{a b:World}(h:Ex kr a b)(n:Nat):Ex kr a (b.drewN n):=⟨h.os,h.tape,h.output,h.size,h.block⟩
theorem Ex.cell{kr:Nat}{a b:World}(h:Ex kr a b){p:Addr}(hp:p.block<a.heap.size)(hne:p.block≠kr):b.cell? p=a.cell? p:=World.cell?_of_block (w:=a) (h.block p.block hp hne)
theorem Ex.frozen{kr:Nat}{a b:World}(h:Ex kr a b){p:Addr}(hp:p.block<a.heap.size)(hne:p.block≠kr):b.frozen? p=a.frozen? p:=World.frozen?_of_block (w:=a) (h.block p.block hp hne)
theorem Ex.cells{kr:Nat}:∀(vs:List Value)(o:Nat){a b:World},Ex kr a b->Ex kr a (b.setCells kr o vs)
 |[],_,_,_,h=>h
 |v::r,o,_,_,h=>Ex.cells r (o+1) (h.set o v)
theorem Ex.mono{kr:Nat}{a b c:World}(h:Below a.heap.size a b)(k:Ex kr b c)(hk:a.heap.size<=kr):Below a.heap.size a c:=h.trans (k.below hk h.size)
theorem bh{kr:Nat}{x y:World}{k o n:Nat}(h:x.there k o n)(hk:k<x.heap.size)(hE:Ex kr x y)(hne:k≠kr):y.there k o n:=
 fun j hj=>⟨by rw[hE.cell (p:=⟨k,o+j,none⟩) hk hne];exact(h j hj).1,by rw[hE.frozen (p:=⟨k,o+j,none⟩) hk hne];exact(h j hj).2⟩
theorem bd{x y:World}{k o n:Nat}(h:x.there k o n)(hk:k<x.heap.size)(hb:Below x.heap.size x y):y.there k o n:=
 fun j hj=>⟨by rw[hb.cell (p:=⟨k,o+j,none⟩) hk];exact(h j hj).1,by rw[hb.frozen (p:=⟨k,o+j,none⟩) hk];exact(h j hj).2⟩
theorem ft{w w':World}{b o:Nat}{vs:List Value}(h:w.rangeAt b o vs)(hb:b<w.heap.size)(hB:Below w.heap.size w w'):w'.rangeAt b o vs:=
 fun j v hj=>(hB.cell (p:=⟨b,o+j,none⟩) hb).trans (h j v hj)
def aA(rs:List aw):List Value:=rs.flatMap aw.cells
theorem aZ:∀rs:List aw,(aA rs).length=rs.length*11
 |[]=>rfl
 |r::rs=>by have:=aZ rs;simp only[aA,List.flatMap_cons,List.length_append]at this ⊢;simp only[this,List.length_cons];show 11+rs.length*11=_;omega
theorem cP(rs:List aw)(r:aw):aA (rs++[r])=aA rs++r.cells:=by simp[aA]
theorem dB:∀(rs:List aw)(k:Nat)(r:aw),rs[k]?=some r->∀j,j<11->(aA rs)[k*11+j]?=r.cells[j]?
 |[],k,r,h,j,hj=>by simp at h
 |q::rs,0,r,h,j,hj=>by simp at h;subst h;rw[aA,List.flatMap_cons,List.getElem?_append_left (by show _<11;omega)];simp
 |q::rs,k+1,r,h,j,hj=>by have ih:=dB rs k r (by simpa using h) j hj;rw[aA,List.flatMap_cons,List.getElem?_append_right (by show 11<=_;omega)];rw[<-ih];show(aA rs)[(k+1)*11+j-11]?=_;rw[show(k+1)*11+j-11=k*11+j from by omega]
theorem bw(rs:List aw):∀u∈aA rs,u.oneCell'=true:=by intro u hu;obtain⟨r,-,h⟩:=List.mem_flatMap.1 hu;simp[aw.cells]at h;rcases h with rfl|rfl|rfl|rfl|rfl|rfl|rfl|rfl|rfl|rfl|rfl<;>rfl
theorem dE{w:World}{base:Nat}{v:Value}{rs:List aw}(h:w.ownsRow base 39 11 v rs.length (aA rs)):
  (v=.slice none 0 0/\rs=[])\/∃g cap,v=.slice (some ⟨g,0,none⟩) rs.length cap/\base<=g/\g<w.heap.size/\aG w g 0 rs/\w.there g 0 (rs.length*11):=by
 obtain⟨hl,⟨rfl,hn⟩|⟨g,cap,cur,rfl,hb,hg,hnc,hcm,hcs,htk⟩⟩:=h;·exact Or.inl ⟨rfl,List.length_eq_zero_iff.1 hn⟩
 ·
  refine Or.inr ⟨g,cap,rfl,hb,(Array.getElem?_eq_some_iff.1 hg).1,?_,?_⟩
  ·
   intro k r hk j u hj;have Pd:j<11:=by
    rcases Nat.lt_or_ge j 11 with h'|h';·exact h'
    rw[List.getElem?_eq_none (by simpa[aw.cells]using h')]at hj;cases hj
   have hf:=dB rs k r hk j Pd;rw[hj,<-htk,List.getElem?_take]at hf;split at hf
   ·
    rw[cell_of_row w g _ cur _ (0,0) hg,Nat.zero_add];simpa using hf
   cases hf
  intro j hj;have hlt:j<cur.size:=by have:rs.length*11<=cap*11:=Nat.mul_le_mul_right 11 hnc;omega
  refine⟨?_,?_⟩
  ·
   rw[cell_of_row w g _ cur _ (0,0) hg,Nat.zero_add];simp[Array.getElem?_eq_getElem hlt]
  simp[World.frozen?,hg]
theorem aN{x y:World}{base:Nat}{e:TypeId}{size:Nat}{v:Value}{n:Nat}{xs:List Value}(h:x.ownsRow base e size v n xs)(hb:Below x.heap.size x y):y.ownsRow base e size v n xs:=
 h.kept (row:=none) ⟨hb.os,hb.tape,hb.output,hb.size,fun k hk _=>hb.block k hk⟩ (by cases hv:v.ownBlock<;>simp)
theorem br{x:World}{base:Nat}{e:TypeId}{size:Nat}{v:Value}{n:Nat}{xs:List Value}(h:x.ownsRow base e size v n xs):∀k,v.ownBlock=some k->base<=k:=fun k hk=>(h.lt k hk).1
theorem bG(x:World)(N:Nat)(hN:N=x.heap.size)(arr:Array Value)(t:TypeId)(vs:List Value)(hv:arr.toList=vs):∀j u,vs[j]?=some u->(x.alloc (.cells arr t)).cell? ((⟨N,0,none⟩:Addr).add j)=some u:=by intro j u hj;subst hN hv;rw[Addr.add_mid,Nat.zero_add,World.cell?_alloc_new];simpa using hj
theorem aU(r:aw):∀u∈r.cells,u.oneCell'=true:=fun u hu=>bw [r] u (by simpa[aA]using hu)
theorem cE:(prog.info? 39).map (fun i=>(i.zero,i.size,i.bytes))=some (some (.agg (aL ⟨#[]⟩ 0 ⟨#[]⟩ 0 0 0 0 0 0 0 0)),11,104):=by kernel_rfl
end Go.Proofs.YtlfnpjcjapljpaaGreatDoor
namespace Go.Proofs.YtlfnpjcjapljpaaGreatDoor.A
open Go.Proofs.Tryz Go.RowKit
set_option maxRecDepth 4000
set_option maxHeartbeats 4000000
set_option linter.unusedVariables false
def dR(clock:Int)(r:aC):Bool:=holdB r.h&&(cF r.c&&(cA r.t 0 clock&&cA r.f 0 r.t))
def sD(q:Bool)(clock:Int)(rs:List aC):Prop:=q=true↔rs.length<=40/\(fh rs rs.length/\∀r∈rs,dR clock r=true)
theorem eW{clock:Int}{rs:List aC}(h:rs.length<=40->fh rs rs.length->(∀r∈rs,dR clock r=true)->False):sD false clock rs:=⟨fun h'=>(by cases h'),fun h'=>(h h'.1 h'.2.1 h'.2.2).elim⟩
theorem ei{w w':World}(h:Below w.heap.size w w'){n:Nat}:Below w.heap.size w (w'.drewN n):=⟨h.os,h.tape,h.output,h.size,h.block⟩
def vO(clock:Int)(rs:List aC)(k:Nat):Prop:=∀j r,j<k->rs[j]?=some r->dR clock r=true
theorem vO.step{clock:Int}{rs:List aC}{k:Nat}{r:aC}(h:vO clock rs k)(hr:rs[k]?=some r)(hs:dR clock r=true):vO clock rs (k+1):=by
 intro j q hj hq;by_cases e:j=k;·subst e;rw[hr]at hq;cases hq;exact hs
 exact h j q (by omega) hq
theorem uD(b off cap:Nat)(rs:List aC)(clock:Int)(w:World)(hR:aG w b off rs)(l1:b<w.heap.size)(hfit:∀r∈rs,r.fits)(hl:rs.length<=1048576):
  Calls prog 40 #[.slice (some ⟨b,off,none⟩) rs.length cap,.int .i64 clock] w fun e w'=>(∃q:Bool,e=.returned (.bool q)/\sD q clock rs)/\Below w.heap.size w w':=by
 by_cases BM:rs.length<=40
 ·
  have Fh:(rs.length:Int)<=40:=by omega
  go_enter func40,ntmps40
  go_wp2
  go_loopw [5] (fun i wx=>∃(k:Nat),k<=rs.length/\i=.int .i64 k/\Hid (fh rs k)/\Hid (vO clock rs k)/\Below w.heap.size w wx) (fun i _=>rs.length-(intOf i).toNat)
  case atStart=>exact⟨0,Nat.zero_le _,rfl,(fun j q r hj _ _=>by omega),(fun j r hj _=>by omega),Below.refl _ _⟩
  obtain⟨k,hk,rfl,Ha,He,hB⟩:=hrel;by_cases hlt:k<rs.length
  ·
   obtain⟨r,hr⟩:∃r,rs[k]?=some r:=⟨rs[k],List.getElem?_eq_getElem hlt⟩
   obtain⟨hf1,hf2⟩:=hfit r (List.mem_of_getElem? hr);have Hr:=ah hr;obtain⟨c0,c1,c2,c3⟩:=(hR.keep l1 hB).at hr;clear hr;cases k with
   |zero=>
    simp only[Nat.zero_mul,Nat.add_zero]at c0 c1 c2 c3;have VE:(0:Int)<(rs.length:Int):=(by omega);cases q1:holdB r.h
    ·
     go_wp2_with fail
     go_quiet (first|(go_at_call 88;refine Calls.quiet_of_same (bg r.h _ hf1))|(go_at_call 37;refine Calls.quiet_of_same (aQ r.c _ hf2))|(go_at_call 28;refine Calls.quiet_of_same (aI _ _ _ _)))
     go_wp2
     go_ret
     exact⟨⟨false,rfl,eW (fun _ _ h=>by have:=h r (List.mem_of_getElem? Hr.out);simp[dR, *]at this)⟩,ei (ae hB _)⟩
    cases q2:cF r.c
    ·
     go_wp2_with fail
     go_quiet (first|(go_at_call 88;refine Calls.quiet_of_same (bg r.h _ hf1))|(go_at_call 37;refine Calls.quiet_of_same (aQ r.c _ hf2))|(go_at_call 28;refine Calls.quiet_of_same (aI _ _ _ _)))
     go_wp2
     go_ret
     exact⟨⟨false,rfl,eW (fun _ _ h=>by have:=h r (List.mem_of_getElem? Hr.out);simp[dR, *]at this)⟩,ei (ae hB _)⟩
    cases q3:cA r.t 0 clock
    ·
     go_wp2_with fail
     go_quiet (first|(go_at_call 88;refine Calls.quiet_of_same (bg r.h _ hf1))|(go_at_call 37;refine Calls.quiet_of_same (aQ r.c _ hf2))|(go_at_call 28;refine Calls.quiet_of_same (aI _ _ _ _)))
     go_wp2
     go_ret
     exact⟨⟨false,rfl,eW (fun _ _ h=>by have:=h r (List.mem_of_getElem? Hr.out);simp[dR, *]at this)⟩,ei (ae hB _)⟩
    cases q4:cA r.f 0 r.t
    ·
     go_wp2_with fail
     go_quiet (first|(go_at_call 88;refine Calls.quiet_of_same (bg r.h _ hf1))|(go_at_call 37;refine Calls.quiet_of_same (aQ r.c _ hf2))|(go_at_call 28;refine Calls.quiet_of_same (aI _ _ _ _)))
     go_wp2
     go_ret
     exact⟨⟨false,rfl,eW (fun _ _ h=>by have:=h r (List.mem_of_getElem? Hr.out);simp[dR, *]at this)⟩,ei (ae hB _)⟩
    go_wp2_with fail
    go_quiet (first|(go_at_call 88;refine Calls.quiet_of_same (bg r.h _ hf1))|(go_at_call 37;refine Calls.quiet_of_same (aQ r.c _ hf2))|(go_at_call 28;refine Calls.quiet_of_same (aI _ _ _ _)))
    go_wp2
    exact⟨⟨0+1,by omega,by go_num,(fun j q r hj _ _=>by omega),He.out.step Hr.out (by simp[dR, *]),ei (ae hB _)⟩,by simp[intOf];omega⟩
   |succ m=>
    obtain⟨q,hq⟩:∃q,rs[m]?=some q:=⟨rs[m],List.getElem?_eq_getElem (by omega)⟩
    have Hq:=ah hq;obtain⟨e0,-⟩:=(hR.keep l1 hB).at hq;clear hq;have bz:b<wr.heap.size:=Nat.lt_of_lt_of_le l1 hB.size;have i0:(0:Int)<=(m:Int):=(by omega);have i1:(m:Int)+1<(rs.length:Int):=(by omega);have i2:(m:Int)<(rs.length:Int):=(by omega);have iw:IntKind.i64.wrap (m:Int)=(m:Int):=(by rw[IntKind.wrap_i64];omega);cases q1:holdB r.h
    ·
     go_wp2_with fail
     go_quiet (first|(go_at_call 88;refine Calls.quiet_of_same (bg r.h _ hf1))|(go_at_call 37;refine Calls.quiet_of_same (aQ r.c _ hf2))|(go_at_call 28;refine Calls.quiet_of_same (aI _ _ _ _)))
     go_wp2
     go_ret
     exact⟨⟨false,rfl,eW (fun _ _ h=>by have:=h r (List.mem_of_getElem? Hr.out);simp[dR, *]at this)⟩,ei (ae hB _)⟩
    cases q2:cF r.c
    ·
     go_wp2_with fail
     go_quiet (first|(go_at_call 88;refine Calls.quiet_of_same (bg r.h _ hf1))|(go_at_call 37;refine Calls.quiet_of_same (aQ r.c _ hf2))|(go_at_call 28;refine Calls.quiet_of_same (aI _ _ _ _)))
     go_wp2
     go_ret
     exact⟨⟨false,rfl,eW (fun _ _ h=>by have:=h r (List.mem_of_getElem? Hr.out);simp[dR, *]at this)⟩,ei (ae hB _)⟩
    cases q3:cA r.t 0 clock
    ·
     go_wp2_with fail
     go_quiet (first|(go_at_call 88;refine Calls.quiet_of_same (bg r.h _ hf1))|(go_at_call 37;refine Calls.quiet_of_same (aQ r.c _ hf2))|(go_at_call 28;refine Calls.quiet_of_same (aI _ _ _ _)))
     go_wp2
     go_ret
     exact⟨⟨false,rfl,eW (fun _ _ h=>by have:=h r (List.mem_of_getElem? Hr.out);simp[dR, *]at this)⟩,ei (ae hB _)⟩
    cases q4:cA r.f 0 r.t
    ·
     go_wp2_with fail
     go_quiet (first|(go_at_call 88;refine Calls.quiet_of_same (bg r.h _ hf1))|(go_at_call 37;refine Calls.quiet_of_same (aQ r.c _ hf2))|(go_at_call 28;refine Calls.quiet_of_same (aI _ _ _ _)))
     go_wp2
     go_ret
     exact⟨⟨false,rfl,eW (fun _ _ h=>by have:=h r (List.mem_of_getElem? Hr.out);simp[dR, *]at this)⟩,ei (ae hB _)⟩
    cases q5:Op.bytesLess q.h.toList r.h.toList
    ·
     go_wp2_with fail
     go_quiet (first|(go_at_call 88;refine Calls.quiet_of_same (bg r.h _ hf1))|(go_at_call 37;refine Calls.quiet_of_same (aQ r.c _ hf2))|(go_at_call 28;refine Calls.quiet_of_same (aI _ _ _ _)))
     go_wp2
     go_ret
     exact⟨⟨false,rfl,eW (fun _ h _=>by have:=h m q r (by omega) Hq.out Hr.out;rw[q5]at this;cases this)⟩,ei (ae hB _)⟩
    go_wp2_with fail
    go_quiet (first|(go_at_call 88;refine Calls.quiet_of_same (bg r.h _ hf1))|(go_at_call 37;refine Calls.quiet_of_same (aQ r.c _ hf2))|(go_at_call 28;refine Calls.quiet_of_same (aI _ _ _ _)))
    go_wp2
    exact⟨⟨m+1+1,by omega,by go_num,Ha.out.step Hq.out Hr.out q5,He.out.step Hr.out (by simp[dR, *]),ei (ae hB _)⟩,by simp[intOf];omega⟩
  go_wp2
  go_ret
  have e:k=rs.length:=by omega
  subst e;exact⟨⟨true,rfl,⟨fun _=>⟨BM,Ha.out,fun r hr=>by obtain⟨j,hj⟩:=List.getElem?_of_mem hr;exact He.out j r (List.getElem?_eq_some_iff.1 hj).1 hj⟩,fun _=>rfl⟩⟩,hB⟩
 ·
  have Fh:(40:Int)<(rs.length:Int):=by omega
  have MA:=ah BM;clear BM;go_enter func40,ntmps40
  go_wp2
  go_ret
  exact⟨⟨false,rfl,⟨fun h=>(by cases h),fun h=>absurd h.1 MA.out⟩⟩,Below.refl _ _⟩
def jt(rs:List aC)(x:ByteArray):Prop:=∃r∈rs,(r.h.toList==x.toList)=true
def fj(rs:List aC)(x:ByteArray):Int:=match rs.findIdx? (fun r=>r.h.toList==x.toList)with|some i=>(i:Int)|none=>-1
theorem m8{rs:List aC}{x:ByteArray}{k:Nat}{r:aC}(hr:rs[k]?=some r)(he:(r.h.toList==x.toList)=true)(hb:∀j r,j<k->rs[j]?=some r->(r.h.toList==x.toList)=false):fj rs x=(k:Int):=by
 have hk:k<rs.length:=(List.getElem?_eq_some_iff.1 hr).1;have SV:rs[k]=r:=(List.getElem?_eq_some_iff.1 hr).2;have:rs.findIdx? (fun r=>r.h.toList==x.toList)=some k:=by rw[List.findIdx?_eq_some_iff_getElem];refine⟨hk,by rw[SV];exact he,fun j hj=>?_⟩;have:=hb j rs[j] hj (List.getElem?_eq_getElem (by omega));simp only[this];decide
 simp only[fj,this]
theorem m9{rs:List aC}{x:ByteArray}(hb:∀j r,j<rs.length->rs[j]?=some r->(r.h.toList==x.toList)=false):fj rs x=-1:=by
 have:rs.findIdx? (fun r=>r.h.toList==x.toList)=none:=by rw[List.findIdx?_eq_none_iff];intro r hr;obtain⟨j,hj⟩:=List.getElem?_of_mem hr;exact hb j r (List.getElem?_eq_some_iff.1 hj).1 hj
 simp only[fj,this]
theorem jG(rs:List aC)(x:ByteArray):(0<=fj rs x↔jt rs x):=by
 unfold fj jt;cases h:rs.findIdx? (fun r=>r.h.toList==x.toList)with
 |none=>
  rw[List.findIdx?_eq_none_iff]at h;constructor;·intro h';exact absurd h' (by simp)
  rintro⟨r,hr,hx⟩;have:=h r hr;rw[this]at hx;cases hx
 |some i=>rw[List.findIdx?_eq_some_iff_getElem]at h;obtain⟨hi,hp,-⟩:=h;exact⟨fun _=>⟨rs[i],List.getElem_mem _,hp⟩,fun _=>by simp⟩
theorem wG(b off cap:Nat)(rs:List aC)(x:ByteArray)(w:World)(hR:aG w b off rs)(l1:b<w.heap.size)(hl:rs.length<=1048576):
  Calls prog 41 #[.slice (some ⟨b,off,none⟩) rs.length cap,.string x] w fun e w'=>e=.returned (.int .i64 (fj rs x))/\w'=w:=by
 go_enter func41,ntmps41
 go_wp2
 go_loop [5] (fun i=>∃(k:Nat),k<=rs.length/\i=.int .i64 k/\Hid (∀j r,j<k->rs[j]?=some r->(r.h.toList==x.toList)=false)) (fun i=>rs.length-(intOf i).toNat)
 case atStart=>exact⟨0,Nat.zero_le _,rfl,fun j r hj _=>by omega⟩
 case round=>
  obtain⟨k,hk,rfl,Ha⟩:=hrel;by_cases hlt:k<rs.length
  ·
   obtain⟨r,hr⟩:∃r,rs[k]?=some r:=⟨rs[k],List.getElem?_eq_getElem hlt⟩
   have Hr:=ah hr;obtain⟨c0,-⟩:=hR.at hr;clear hr;cases he:(r.h.toList==x.toList)
   ·
    go_wp2
    exact⟨⟨k+1,by omega,by go_num,(fun j q hj hq=>by
     by_cases e:j=k;·subst e;have hh:=Hr.out;rw[hh]at hq;cases hq;exact he
     exact Ha.out j q (by omega) hq)⟩,by simp[intOf];omega⟩
   go_wp2
   go_ret
   exact⟨by rw[m8 Hr.out he Ha.out];rfl,rfl⟩
  go_wp2
  go_ret
  have e:k=rs.length:=by omega
  subst e;exact⟨by rw[m9 Ha.out];rfl,rfl⟩
set_option maxHeartbeats 1000000
theorem wF(r:aC)(clock:Int)(w:World)(hf1:r.h.size<=maxLen)(hf2:r.c.size<=maxLen):
  Calls prog 132 #[.agg (cZ r.h r.c r.f r.t),.int .i64 clock] w fun e w'=>e=.returned (.bool (dR clock r))/\Below w.heap.size w w':=by
 cases q1:holdB r.h
 ·
  go_enter func132,ntmps132
  go_wp2_with (first|(go_at_call 163;refine mr (dS r.h _ hf1) ?_)|(go_at_call 89;refine mr (bX r.c _ hf2) ?_)|(go_at_call 19;refine mr (aP _ _ _ _) ?_))
  go_ret
  exact⟨bu (by simp[dR, *]),ae bR _⟩
 cases q2:cF r.c
 ·
  go_enter func132,ntmps132
  go_wp2_with (first|(go_at_call 163;refine mr (dS r.h _ hf1) ?_)|(go_at_call 89;refine mr (bX r.c _ hf2) ?_)|(go_at_call 19;refine mr (aP _ _ _ _) ?_))
  go_ret
  exact⟨bu (by simp[dR, *]),ae bR _⟩
 cases q4:cA r.f 0 r.t
 ·
  go_enter func132,ntmps132
  go_wp2_with (first|(go_at_call 163;refine mr (dS r.h _ hf1) ?_)|(go_at_call 89;refine mr (bX r.c _ hf2) ?_)|(go_at_call 19;refine mr (aP _ _ _ _) ?_))
  go_ret
  exact⟨bu (by simp[dR, *]),ae bR _⟩
 cases q3:cA r.t 0 clock
 ·
  go_enter func132,ntmps132
  go_wp2_with (first|(go_at_call 163;refine mr (dS r.h _ hf1) ?_)|(go_at_call 89;refine mr (bX r.c _ hf2) ?_)|(go_at_call 19;refine mr (aP _ _ _ _) ?_))
  go_ret
  exact⟨bu (by simp[dR, *]),ae bR _⟩
 ·
  go_enter func132,ntmps132
  go_wp2_with (first|(go_at_call 163;refine mr (dS r.h _ hf1) ?_)|(go_at_call 89;refine mr (bX r.c _ hf2) ?_)|(go_at_call 19;refine mr (aP _ _ _ _) ?_))
  go_ret
  exact⟨bu (by simp[dR, *]),ae bR _⟩
theorem BL(r:aC)(clock:Int)(bk:Nat)(w:World)(hc:w.cell? ⟨bk,0,none⟩=some (.int .i64 clock))(lk:bk<w.heap.size)(hf:r.fits):
  Calls prog 131 #[.agg (cZ r.h r.c r.f r.t),.pointer (some ⟨bk,0,none⟩)] w fun e w'=>e=.returned (.bool (dR clock r))/\Below w.heap.size w w':=by
 go_enter func131,ntmps131
 go_wp2_with (go_at_call 132;refine(wF r clock _ hf.1 hf.2).mono ?_;rintro e w' ⟨rfl,hx⟩)
 go_ret
 exact⟨rfl,af (ae bR _) hx⟩
theorem uC(b off cap:Nat)(rs:List aC)(clock:Int)(w:World)(hR:aG w b off rs)(l1:b<w.heap.size)(hfit:∀r∈rs,r.fits)(hl:rs.length<=1048576):
  Calls prog 92 #[.slice (some ⟨b,off,none⟩) rs.length cap,.int .i64 clock] w fun e w'=>(∃q:Bool,e=.returned (.bool q)/\sD q clock rs)/\Below w.heap.size w w':=by
 by_cases BM:rs.length<=40
 ·
  have Fh:(rs.length:Int)<=40:=by omega
  go_enter func92,ntmps92
  go_wp2_with fail
  have hb0:Below w.heap.size w (w.alloc (.cells #[.int .i64 clock] 3)):=ae bR _;refine(iX b off cap rs _ (hR.keep l1 hb0) (by simp;omega) hl).mono ?_;rintro e w1 ⟨⟨q1,rfl,h1⟩,b1⟩;have B1:=af hb0 b1;have H0:=ah h1;clear h1;cases q1
  ·
   clear hb0 b1;go_wp2
   go_ret
   exact⟨⟨false,rfl,⟨fun h=>(by cases h),fun h=>by have:=H0.out.2 h.2.1;cases this⟩⟩,B1⟩
  have H1:=ah (H0.out.1 rfl);have hck:w1.cell? ⟨w.heap.size,0,none⟩=some (.int .i64 clock):=by rw[aJ b1 0];simp[go_sem]
  have Jq:w.heap.size<w1.heap.size:=by have:=b1.size;simp at this;omega
  have NC:=ah hck;clear hck hb0 b1;go_wp2_with fail
  refine(sE w.heap.size (dR clock) b off cap rs w1 (hR.keep l1 B1) (Nat.lt_of_lt_of_le l1 B1.size) hl (fun r hr x hx=>BL r clock w.heap.size x ((hx.cell (p:=⟨w.heap.size,0,none⟩) Jq).trans NC.out) (Nat.lt_of_lt_of_le Jq hx.size) (hfit r hr))).mono ?_;rintro e w2 ⟨⟨q2,rfl,h2⟩,b2⟩;have B2:=af B1 b2;have H2:=ah h2;clear b2 h2;go_wp2
  go_ret
  exact⟨⟨q2,rfl,⟨fun h=>⟨BM,H1.out,H2.out.1 h⟩,fun h=>H2.out.2 h.2.2⟩⟩,B2⟩
 ·
  have Fh:(40:Int)<(rs.length:Int):=by omega
  have MA:=ah BM;clear BM;go_enter func92,ntmps92
  go_wp2
  go_ret
  first
  |exact⟨Or.inl ⟨rfl,⟨fun h=>(by cases h),fun h=>absurd h.1 MA.out⟩⟩,ae bR _⟩
  |exact⟨⟨false,rfl,⟨fun h=>(by cases h),fun h=>absurd h.1 MA.out⟩⟩,ae bR _⟩
open Go.Maps Go.WideMaps
set_option maxHeartbeats 2000000
theorem Lj:Keyed prog 9:=string_keyed underlying9
def Rs(xs:List Value):Option (DataW Unit×List MemPlace):=
 match xs with
 |[.string _,.string _,.int .i64 _,.int .i64 _]=>some (.lit (.bool true),[])
 |_=>none
def RU(v:Value):Option (DataW Unit×List MemPlace):=
 match v with
 |.agg xs=>Rs xs.toList
 |_=>none
theorem GJ{v:Value}{z:DataW Unit×List MemPlace}(h:RU v=some z):∃(a b:ByteArray)(c d:Int),v=.agg #[.string a,.string b,.int .i64 c,.int .i64 d]:=by
 unfold RU at h;split at h
 ·
  rename_i xs;obtain⟨l⟩:=xs;simp only at h;unfold Rs at h;split at h
  ·exact⟨_,_,_,_,rfl⟩
  cases h
 cases h
def ji(x:ByteArray):Lit:=.string x.data.toList
def mapD(rs:List aC):DataW Unit:=setOf (.lit (.bool true)) (rs.map (fun r=>ji r.h))
theorem mapD_step{rs:List aC}{k:Nat}{r:aC}(hr:rs[k]?=some r):mapD (rs.take (k+1))=(mapD (rs.take k)).put (ji r.h) (.lit (.bool true)):=by have hlt:k<rs.length:=(List.getElem?_eq_some_iff.1 hr).1;have he:rs[k]=r:=(List.getElem?_eq_some_iff.1 hr).2;rw[mapD,List.take_succ_eq_append_getElem hlt,List.map_append,List.map_singleton,he,setOf_snoc];rfl
theorem tD(x y:ByteArray):(ji x).sameKey (ji y)=(x.toList==y.toList):=by
 rw[ByteArray.toList_eq,ByteArray.toList_eq];by_cases h:x.data.toList=y.data.toList
 ·
  have hk:(Lit.string y.data.toList).sameKey (Lit.string y.data.toList)=true:=WideAt.sameKey_self (by exact trivial);rw[ji,ji,h,hk];simp
 have h1:(ji x).sameKey (ji y)=false:=by
  cases hs:(ji x).sameKey (ji y);·rfl
  have:=WideAt.sameKey_eq hs;simp only[ji,Lit.string.injEq]at this;exact absurd this h
 rw[h1];exact(beq_false_of_ne h).symm
theorem tE(rs:List aC)(x:ByteArray):has (mapD rs) (ji x)=true↔jt rs x:=by
 rw[mapD,has_setOf _ _ _ (by intro y hy;obtain⟨r,-,rfl⟩:=List.mem_map.1 hy;trivial),List.any_map,List.any_eq_true];constructor
 ·
  rintro⟨r,hr,h⟩;refine⟨r,hr,?_⟩;rw[<-tD];exact h
 rintro⟨r,hr,h⟩;exact⟨r,hr,by rw[<-tD]at h;exact h⟩
theorem gH{x y:World}{b n:Nat}{D:DataW Unit}(h:x.ownsMap prog 9 RU b n D)(hb:Below x.heap.size x y):y.ownsMap prog 9 RU b n D:=
 h.kept (row:=none) ⟨hb.os,hb.tape,hb.output,hb.size,fun k hk _=>hb.block k hk⟩ (by simp)
theorem Ap{w:World}(b n:Nat)(D:DataW Unit)(hown:w.ownsMap prog 9 RU b n D)(hn:n<maxLen)(s:ByteArray)(val:Value)(hs:s.size<=maxLen)(hv:RU val=some (.lit (.bool true),[])):
  ∃w',Sem.run prog (Instr.mapUpdate 108 (.map (some b)) (.string s) val) w=.ok () w'/\w'.ownsMap prog 9 RU b (n+1) (D.put (ji s) (.lit (.bool true)))/\w.grownBy w' (some b):=
 hown.update Lj (t:=108) (e:=64) underlying108 hn (keyOf_string_mk underlying9 hs) (val:=val) (d:=.lit (.bool true)) (ps:=[]) hv
theorem GK{wr w':World}{r:aC}(hb:Below (wr.alloc (.cells #[.string r.h,.string r.c,.int .i64 r.f,.int .i64 r.t] 64)).heap.size (wr.alloc (.cells #[.string r.h,.string r.c,.int .i64 r.f,.int .i64 r.t] 64)) w'):w'.cell? ⟨wr.heap.size,0,none⟩=some (.string r.h)/\w'.cell? ⟨wr.heap.size,1,none⟩=some (.string r.c)/\w'.cell? ⟨wr.heap.size,2,none⟩=some (.int .i64 r.f)/\w'.cell? ⟨wr.heap.size,3,none⟩=some (.int .i64 r.t):=by have hk:=aJ hb;exact⟨by rw[hk 0];simp[go_sem],by rw[hk 1];simp[go_sem],by rw[hk 2];simp[go_sem],by rw[hk 3];simp[go_sem]⟩
theorem vn{wr w' w2:World}{r:aC}{B:Nat}(h:w'.cell? ⟨wr.heap.size,0,none⟩=some (.string r.h)/\w'.cell? ⟨wr.heap.size,1,none⟩=some (.string r.c)/\w'.cell? ⟨wr.heap.size,2,none⟩=some (.int .i64 r.f)/\w'.cell? ⟨wr.heap.size,3,none⟩=some (.int .i64 r.t))(hg:w'.grownBy w2 (some B))(hne:wr.heap.size≠B):w2.cell? ⟨wr.heap.size,0,none⟩=some (.string r.h)/\w2.cell? ⟨wr.heap.size,1,none⟩=some (.string r.c)/\w2.cell? ⟨wr.heap.size,2,none⟩=some (.int .i64 r.f)/\w2.cell? ⟨wr.heap.size,3,none⟩=some (.int .i64 r.t):=
 ⟨hg.cell h.1 (by simpa using hne),hg.cell h.2.1 (by simpa using hne),hg.cell h.2.2.1 (by simpa using hne),hg.cell h.2.2.2 (by simpa using hne)⟩
theorem tf(n:Nat)(w:World):Sem.run prog (Instr.makeMap 108 (some (.int .i64 (n:Int)))) w=.ok (.map (some w.heap.size)) (w.alloc (.map #[] 0)):=by kernel_rfl
theorem byName(b off cap:Nat)(rs:List aC)(w:World)(hR:aG w b off rs)(l1:b<w.heap.size)(hfit:∀r∈rs,r.fits)(hl:rs.length<=1048576):
  Calls prog 73 #[.slice (some ⟨b,off,none⟩) rs.length cap,.func (.func 74) #[] #[]] w fun e w'=>e=.returned (.map (some w.heap.size))/\w'.ownsMap prog 9 RU w.heap.size rs.length (mapD rs)/\Below w.heap.size w w':=by
 have hmm:=tf rs.length;go_enter func73,ntmps73
 go_wp2
 clear hmm
 go_loopw [13] (fun i wx=>∃(k:Nat),k<=rs.length/\i=.int .i64 k/\Hid (wx.ownsMap prog 9 RU w.heap.size k (mapD (rs.take k)))/\Below w.heap.size w wx) (fun i _=>rs.length-(intOf i).toNat)
 case atStart=>exact⟨0,Nat.zero_le _,rfl,World.ownsMap_made _ _ _ _,ae bR _⟩
 case round=>
  obtain⟨k,hk,rfl,Ho,hB⟩:=hrel;by_cases hlt:k<rs.length
  ·
   obtain⟨r,hr⟩:∃r,rs[k]?=some r:=⟨rs[k],List.getElem?_eq_getElem hlt⟩
   have Hr:=ah hr;obtain⟨hf1,hf2⟩:=hfit r (List.mem_of_getElem? hr);obtain⟨c0,c1,c2,c3⟩:=(hR.keep l1 hB).at hr;clear hr;have hne:wr.heap.size≠w.heap.size:=(by have:=Ho.out.lt;omega);go_wp2_with fail
   go_region_held3 (fun w'=>w'.cell? ⟨wr.heap.size,0,none⟩=some (.string r.h)/\w'.cell? ⟨wr.heap.size,1,none⟩=some (.string r.c)/\w'.cell? ⟨wr.heap.size,2,none⟩=some (.int .i64 r.f)/\w'.cell? ⟨wr.heap.size,3,none⟩=some (.int .i64 r.t))
    (first|exact GK bD|exact GK (af bD hx)|exact vn (GK (af bD hx)) hg2 hne)
    (first|(go_at_call 74;refine(cM r _).mono ?_;rintro e w' ⟨rfl,hx⟩)|(have hms:=Ap w.heap.size k _ (gH (gH Ho.out (au (ae bR _))) hx) (by unfold maxLen;omega) r.h (.agg #[.string r.h,.string r.c,.int .i64 r.f,.int .i64 r.t]) hf1 rfl;obtain⟨w2,hrun,ho2,hg2⟩:=hms;go_simp))
   have y1:=af (af hB (ae (Below.refl _ wr) _)) (af bD hx);have Y2:Hid (Below w.heap.size w w2):=Below.grown y1 hg2 y1.size (fun j hj=>by cases hj;exact Nat.le_refl _);have O2:Hid (w2.ownsMap prog 9 RU w.heap.size (k+1) (mapD (rs.take (k+1)))):=(by show World.ownsMap _ _ _ _ _ _ _;rw[mapD_step Hr.out];exact ho2);clear y1 hx hg2 ho2 hrun;go_wp2
   exact⟨⟨k+1,by omega,by go_num,O2.out,Y2.out⟩,by simp[intOf];omega⟩
  go_wp2
  go_ret
  have e:k=rs.length:=by omega
  subst e;rw[List.take_of_length_le (Nat.le_refl _)]at Ho;exact⟨rfl,Ho.out,hB⟩
theorem Lk(w:World):(zeroValue 64).run prog w=.ok (.agg #[.string ⟨#[]⟩,.string ⟨#[]⟩,.int .i64 0,.int .i64 0]) w:=by kernel_rfl
theorem xN{w:World}(b n:Nat)(D:DataW Unit)(hown:w.ownsMap prog 9 RU b n D)(s:ByteArray)(hs:s.size<=maxLen):
  ∃(x y:ByteArray)(z t:Int),Sem.run prog (Instr.lookup 108 (.map (some b)) (.string s) true) w=.ok (.tuple #[.agg #[.string x,.string y,.int .i64 z,.int .i64 t],.bool (has D (ji s))]) w:=by
 obtain⟨v,ps,hrun,hv⟩:=hown.look_ok Lj (t:=108) (e:=64) underlying108 (Lk w) (zd:=.lit (.bool true)) (zp:=[]) rfl (keyOf_string_mk underlying9 hs);obtain⟨x,y,z,t,rfl⟩:=GJ hv;exact⟨x,y,z,t,hrun⟩
theorem xO(r:aC)(bk b n:Nat)(D:DataW Unit)(w:World)(hc:w.cell? ⟨bk,0,none⟩=some (.map (some b)))(lk:bk<w.heap.size)(hown:w.ownsMap prog 9 RU b n D)(hf:r.fits):
  Calls prog 94 #[.agg #[.string r.h,.string r.c,.int .i64 r.f,.int .i64 r.t],.pointer (some ⟨bk,0,none⟩)] w fun e w'=>e=.returned (.bool (!has D (ji r.h)))/\Below w.heap.size w w':=by
 obtain⟨x,y,z,t,hrun⟩:=xN b n D (hown.alloc (.cells #[.string r.h,.string r.c,.int .i64 r.f,.int .i64 r.t] 64)) r.h hf.1;have Ho:=ah hown;clear hown;go_enter func94,ntmps94
 go_wp2
 go_ret
 exact⟨rfl,by repeat (first|exact bR|refine ae ?_ _)⟩
end Go.Proofs.YtlfnpjcjapljpaaGreatDoor.A
