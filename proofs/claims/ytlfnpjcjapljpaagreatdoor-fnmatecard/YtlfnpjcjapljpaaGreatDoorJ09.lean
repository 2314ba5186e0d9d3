import Derived.Test.YtlfnpjcjapljpaaGreatDoorJ03
import Derived.Test.YtlfnpjcjapljpaaGreatDoorJ04
namespace Go.Proofs.YtlfnpjcjapljpaaGreatDoor
open Go.Proofs.Tryz Go.RowKit
set_option linter.unusedVariables false
theorem jA(c h:ByteArray)(v p s d g a b i u clock:Int)(w:World)(hl:bj h u clock=true):
  Calls prog 121 #[.agg (aL c v h p s d g a b i u),.int .i64 clock] w fun e w'=>e=.returned (.agg (aL c v h p s d g 3 s i u))/\w'=(((w.alloc (.cells (aL c v h p s d g 3 s i u) 39)).alloc (.cells (aL c v h p s d g 3 s i u) 39)).alloc (.cells (aL c v h p s d g 2 0 i u) 39)):=by
 go_enter func121,ntmps121
 go_wp2_with (first|(go_at_call 82;refine mr (bB c h v p s d g 2 0 i u clock _) ?_))
 exact bodyPost_ret (v:=.agg (aL c v h p s d g 3 s i u)) (by simp[results,results121,go_sem]) rfl ⟨rfl,rfl⟩
theorem kI(c h:ByteArray)(v p s d g a b i u clock:Int)(w:World)(hl:bj h u clock=false):
  Calls prog 121 #[.agg (aL c v h p s d g a b i u),.int .i64 clock] w fun e w'=>e=.returned (.agg (aL c v h p s d g 2 0 i u))/\w'=(((w.alloc (.cells (aL c v h p s d g 2 0 i u) 39)).alloc (.cells (aL c v h p s d g 2 0 i u) 39)).alloc (.cells (aL c v h p s d g 2 0 i u) 39)):=by
 go_enter func121,ntmps121
 go_wp2_with (first|(go_at_call 82;refine mr (bB c h v p s d g 2 0 i u clock _) ?_))
 exact bodyPost_ret (v:=.agg (aL c v h p s d g 2 0 i u)) (by simp[results,results121,go_sem]) rfl ⟨rfl,rfl⟩
theorem Ah(c h:ByteArray)(v p s d g a b i u:Int)(w:World)(hi:i<0)(hii:-9223372036854775808<=i):
  Calls prog 120 #[.agg (aL c v h p s d g a b i u)] w fun e w'=>e=.returned (.agg (aL c v h p s d g 5 1 (i+1) u))/\w'=((w.alloc (.cells (aL c v h p s d g 5 1 (i+1) u) 39)).alloc (.cells (aL c v h p s d g 5 1 (i+1) u) 39)):=by
 go_enter func120,ntmps120
 go_wp2
 refine wp_loop_rounds 1 ?_;rw[rounds_succ];go_wp2
 all_goals exact bodyPost_ret (v:=.agg (aL c v h p s d g 5 1 (i+1) u)) (by simp[results,results120,go_sem]) rfl ⟨rfl,rfl⟩
theorem Ai(c h:ByteArray)(v p s d g a b u:Int)(w:World):
  Calls prog 120 #[.agg (aL c v h p s d g a b 0 u)] w fun e w'=>e=.returned (.agg (aL c v h p s d g 5 2 1 u))/\w'=((w.alloc (.cells (aL c v h p s d g 5 2 1 u) 39)).alloc (.cells (aL c v h p s d g 5 2 1 u) 39)):=by
 go_enter func120,ntmps120
 go_wp2
 refine wp_loop_rounds 2 ?_;rw[rounds_succ];go_wp2
 rw[rounds_succ];go_wp2
 all_goals exact bodyPost_ret (v:=.agg (aL c v h p s d g 5 2 1 u)) (by simp[results,results120,go_sem]) rfl ⟨rfl,rfl⟩
theorem Aj(c h:ByteArray)(v p s d g a b u:Int)(w:World):
  Calls prog 120 #[.agg (aL c v h p s d g a b 1 u)] w fun e w'=>e=.returned (.agg (aL c v h p s d g 5 4 2 u))/\w'=((w.alloc (.cells (aL c v h p s d g 5 4 2 u) 39)).alloc (.cells (aL c v h p s d g 5 4 2 u) 39)):=by
 go_enter func120,ntmps120
 go_wp2
 refine wp_loop_rounds 3 ?_;rw[rounds_succ];go_wp2
 rw[rounds_succ];go_wp2
 rw[rounds_succ];go_wp2
 all_goals exact bodyPost_ret (v:=.agg (aL c v h p s d g 5 4 2 u)) (by simp[results,results120,go_sem]) rfl ⟨rfl,rfl⟩
theorem Ak(c h:ByteArray)(v p s d g a b u:Int)(w:World):
  Calls prog 120 #[.agg (aL c v h p s d g a b 2 u)] w fun e w'=>e=.returned (.agg (aL c v h p s d g 5 8 3 u))/\w'=((w.alloc (.cells (aL c v h p s d g 5 8 3 u) 39)).alloc (.cells (aL c v h p s d g 5 8 3 u) 39)):=by
 go_enter func120,ntmps120
 go_wp2
 refine wp_loop_rounds 4 ?_;rw[rounds_succ];go_wp2
 rw[rounds_succ];go_wp2
 rw[rounds_succ];go_wp2
 rw[rounds_succ];go_wp2
 all_goals exact bodyPost_ret (v:=.agg (aL c v h p s d g 5 8 3 u)) (by simp[results,results120,go_sem]) rfl ⟨rfl,rfl⟩
theorem Al(c h:ByteArray)(v p s d g a b i u:Int)(w:World)(hi:3<=i)(hi2:i<1000):
  Calls prog 120 #[.agg (aL c v h p s d g a b i u)] w fun e w'=>e=.returned (.agg (aL c v h p s d g 5 16 (i+1) u))/\w'=((w.alloc (.cells (aL c v h p s d g 5 16 (i+1) u) 39)).alloc (.cells (aL c v h p s d g 5 16 (i+1) u) 39)):=by
 go_enter func120,ntmps120
 go_wp2
 refine wp_loop_rounds 5 ?_;rw[rounds_succ];go_wp2
 rw[rounds_succ];go_wp2
 rw[rounds_succ];go_wp2
 rw[rounds_succ];go_wp2
 rw[rounds_succ];go_wp2
 all_goals exact bodyPost_ret (v:=.agg (aL c v h p s d g 5 16 (i+1) u)) (by simp[results,results120,go_sem]) rfl ⟨rfl,rfl⟩
theorem Am(c h:ByteArray)(v p s d g a b i u:Int)(w:World)(hi:1000<=i):
  Calls prog 120 #[.agg (aL c v h p s d g a b i u)] w fun e w'=>e=.returned (.agg (aL c v h p s d g 5 16 i u))/\w'=((w.alloc (.cells (aL c v h p s d g 5 16 i u) 39)).alloc (.cells (aL c v h p s d g 5 16 i u) 39)):=by
 go_enter func120,ntmps120
 go_wp2
 refine wp_loop_rounds 5 ?_;rw[rounds_succ];go_wp2
 rw[rounds_succ];go_wp2
 rw[rounds_succ];go_wp2
 rw[rounds_succ];go_wp2
 rw[rounds_succ];go_wp2
 all_goals exact bodyPost_ret (v:=.agg (aL c v h p s d g 5 16 i u)) (by simp[results,results120,go_sem]) rfl ⟨rfl,rfl⟩
theorem xL(c h:ByteArray)(v p s d g a b i u:Int)(w:World)(hi:i<1000)(hii:-9223372036854775808<=i):
  Calls prog 120 #[.agg (aL c v h p s d g a b i u)] w fun e w'=>e=.returned (.agg (aL c v h p s d g 5 (eJ (i+1)) (i+1) u))/\w'=((w.alloc (.cells (aL c v h p s d g 5 (eJ (i+1)) (i+1) u) 39)).alloc (.cells (aL c v h p s d g 5 (eJ (i+1)) (i+1) u) 39)):=by
 by_cases h0:i<0;·rw[show eJ (i+1)=1 from by unfold eJ;rw[if_pos (by omega)]];exact Ah c h v p s d g a b i u w h0 hii
 ·
  by_cases h1:i=0;·subst h1;exact Ai c h v p s d g a b u w
  by_cases h2:i=1;·subst h2;exact Aj c h v p s d g a b u w
  by_cases h3:i=2;·subst h3;exact Ak c h v p s d g a b u w
  rw[show eJ (i+1)=16 from by unfold eJ;rw[if_neg (by omega),if_neg (by omega),if_neg (by omega),if_neg (by omega)]];exact Al c h v p s d g a b i u w (by omega) hi
theorem xM(c h:ByteArray)(v p s d g a b i u:Int)(w:World)(hi:1000<=i):
  Calls prog 120 #[.agg (aL c v h p s d g a b i u)] w fun e w'=>e=.returned (.agg (aL c v h p s d g 5 (eJ i) i u))/\w'=((w.alloc (.cells (aL c v h p s d g 5 (eJ i) i u) 39)).alloc (.cells (aL c v h p s d g 5 (eJ i) i u) 39)):=by
 rw[show eJ i=16 from by unfold eJ;rw[if_neg (by omega),if_neg (by omega),if_neg (by omega),if_neg (by omega)]];exact Am c h v p s d g a b i u w hi
def Sl(w:World)(v:Value)(l:List aw)(B:Nat):Prop:=(v=.slice none 0 0/\l=[])\/∃g cap,v=.slice (some ⟨g,0,none⟩) l.length cap/\B<=g/\g<w.heap.size/\aG w g 0 l/\w.there g 0 (l.length*11)
theorem Sl.bE{w:World}{v:Value}{l:List aw}{B:Nat}(h:w.ownsRow B 39 11 v l.length (aA l)):Sl w v l B:=dE h
theorem Sl.grown{w w':World}{v:Value}{l:List aw}{B:Nat}{row:Option Nat}(h:Sl w v l B)(hg:w.grownBy w' row)(hne:v.ownBlock=none\/v.ownBlock≠row):Sl w' v l B:=by
 rcases h with h|⟨g,cap,rfl,h1,h2,h3,h4⟩;·exact Or.inl h
 have hn:some g≠row:=by simpa[Value.ownBlock]using hne
 have hc:∀o,w'.cell? ⟨g,o,none⟩=w.cell? ⟨g,o,none⟩:=fun o=>World.cell?_of_block (w:=w) (a:=⟨g,o,none⟩) (hg.block g h2 hn);have hfz:∀o,w'.frozen? ⟨g,o,none⟩=w.frozen? ⟨g,o,none⟩:=fun o=>World.frozen?_of_block (w:=w) (a:=⟨g,o,none⟩) (hg.block g h2 hn);exact Or.inr ⟨g,cap,rfl,h1,Nat.lt_of_lt_of_le h2 hg.size,fun k r hk j v hj=>(hc _).trans (h3 k r hk j v hj),fun j hj=>⟨by rw[hc];exact(h4 j hj).1,by rw[hfz];exact(h4 j hj).2⟩⟩
theorem Sl.keep{w w':World}{v:Value}{l:List aw}{B:Nat}(h:Sl w v l B)(hb:Below w.heap.size w w'):Sl w' v l B:=
 h.grown (row:=none) ⟨hb.os,hb.tape,hb.output,hb.size,fun k hk _=>hb.block k hk⟩ (by cases hv:v.ownBlock<;>simp)
theorem Sl.lt{w:World}{v:Value}{l:List aw}{B:Nat}(h:Sl w v l B):∀g,v.ownBlock=some g->B<=g/\g<w.heap.size:=by
 rcases h with⟨rfl,-⟩|⟨g,cap,rfl,h1,h2,-⟩;·intro g hg;simp[Value.ownBlock]at hg
 intro g' hg;simp[Value.ownBlock]at hg;subst hg;exact⟨h1,h2⟩
theorem av{w w':World}{kr:Nat}(h:Ex kr w w'):w.grownBy w' (some kr):=⟨h.os,h.tape,h.output,h.size,fun k hk hne=>h.block k hk (fun e=>hne (by rw[e]))⟩
theorem cO{w:World}{g:Nat}{l:List aw}(h:aG w g 0 l):∀j u,(aA l)[j]?=some u->w.cell? ((⟨g,0,none⟩:Addr).add j)=some u:=by
 intro j u hj;have hlt:j<l.length*11:=by rw[<-aZ];exact(List.getElem?_eq_some_iff.1 hj).1
 have hk:j / 11<l.length:=by omega
 have hr:j % 11<11:=Nat.mod_lt _ (by decide);have e:j / 11*11+j % 11=j:=by omega
 have h1:=dB l (j / 11) l[j / 11] (List.getElem?_eq_getElem hk) (j % 11) hr;rw[e,hj]at h1;have h2:=h (j / 11) l[j / 11] (List.getElem?_eq_getElem hk) (j % 11) u h1.symm;rw[Addr.add_mid];rw[show 0+j / 11*11+j % 11=0+j from by omega]at h2;exact h2
set_option maxHeartbeats 1000000
theorem fresh(g cap:Nat)(l:List aw)(w:World)(h:aG w g 0 l)(hl:l.length<=1048576):
  Calls prog 63 #[.slice (some ⟨g,0,none⟩) l.length cap] w fun e w'=>(∃v,e=.returned v/\Sl w' v l w.heap.size)/\Below w.heap.size w w':=by
 obtain⟨i0,hi,hz0,hz1,hz2⟩:=info_parts cE;go_enter func63,ntmps63
 go_wp2_with (at_builtin;refine wpList_append_own _ rfl _ _ 24 rfl w.heap.size 39 i0 _ 11 104 underlying24 hi hz0 hz1 hz2 rfl (by decide) (.slice none 0 0) 0 [] rfl (World.ownsRow_nil _ _ _ _) ⟨g,0,none⟩ l.length cap (aA l) rfl (aZ l) (cO h) (bw l) (by unfold maxLen;omega) (by omega) (Nat.le_refl _) ?_;intro v' w1 ho1 hg1 hn1)
 go_ret
 have ho2:w1.ownsRow w.heap.size 39 11 v' l.length (aA l):=by simpa using ho1
 exact⟨⟨v',rfl,Sl.bE ho2⟩,Below.grown bR hg1 (Nat.le_refl _) (fun j hj=>by cases hj)⟩
end Go.Proofs.YtlfnpjcjapljpaaGreatDoor
namespace Go.Proofs.YtlfnpjcjapljpaaGreatDoor.A
open Go.Proofs.Tryz Go.RowKit
set_option linter.unusedVariables false
def aA(rs:List aC):List Value:=rs.flatMap aC.cells
theorem aZ:∀rs:List aC,(aA rs).length=rs.length*4
 |[]=>rfl
 |r::rs=>by have:=aZ rs;simp only[aA,List.flatMap_cons,List.length_append]at this ⊢;simp only[this,List.length_cons];show 4+rs.length*4=_;omega
theorem cP(rs:List aC)(r:aC):aA (rs++[r])=aA rs++r.cells:=by simp[aA]
theorem dB:∀(rs:List aC)(k:Nat)(r:aC),rs[k]?=some r->∀j,j<4->(aA rs)[k*4+j]?=r.cells[j]?
 |[],k,r,h,j,hj=>by simp at h
 |q::rs,0,r,h,j,hj=>by simp at h;subst h;rw[aA,List.flatMap_cons,List.getElem?_append_left (by show _<4;omega)];simp
 |q::rs,k+1,r,h,j,hj=>by have ih:=dB rs k r (by simpa using h) j hj;rw[aA,List.flatMap_cons,List.getElem?_append_right (by show 4<=_;omega)];rw[<-ih];show(aA rs)[(k+1)*4+j-4]?=_;rw[show(k+1)*4+j-4=k*4+j from by omega]
theorem bw(rs:List aC):∀u∈aA rs,u.oneCell'=true:=by intro u hu;obtain⟨r,-,h⟩:=List.mem_flatMap.1 hu;simp[aC.cells]at h;rcases h with rfl|rfl|rfl|rfl<;>rfl
theorem dE{w:World}{base:Nat}{v:Value}{rs:List aC}(h:w.ownsRow base 64 4 v rs.length (aA rs)):
  (v=.slice none 0 0/\rs=[])\/∃g cap,v=.slice (some ⟨g,0,none⟩) rs.length cap/\base<=g/\g<w.heap.size/\aG w g 0 rs/\w.there g 0 (rs.length*4):=by
 obtain⟨hl,⟨rfl,hn⟩|⟨g,cap,cur,rfl,hb,hg,hnc,hcm,hcs,htk⟩⟩:=h;·exact Or.inl ⟨rfl,List.length_eq_zero_iff.1 hn⟩
 ·
  refine Or.inr ⟨g,cap,rfl,hb,(Array.getElem?_eq_some_iff.1 hg).1,?_,?_⟩
  ·
   intro k r hk j u hj;have hjn:j<4:=by
    rcases Nat.lt_or_ge j 4 with h'|h';·exact h'
    rw[List.getElem?_eq_none (by simpa[aC.cells]using h')]at hj;cases hj
   have hf:=dB rs k r hk j hjn;rw[hj,<-htk,List.getElem?_take]at hf;split at hf
   ·
    rw[cell_of_row w g _ cur _ (0,0) hg,Nat.zero_add];simpa using hf
   cases hf
  intro j hj;have hlt:j<cur.size:=by have:rs.length*4<=cap*4:=Nat.mul_le_mul_right 4 hnc;omega
  refine⟨?_,?_⟩
  ·
   rw[cell_of_row w g _ cur _ (0,0) hg,Nat.zero_add];simp[Array.getElem?_eq_getElem hlt]
  simp[World.frozen?,hg]
theorem aN{x y:World}{base:Nat}{e:TypeId}{size:Nat}{v:Value}{n:Nat}{xs:List Value}(h:x.ownsRow base e size v n xs)(hb:Below x.heap.size x y):y.ownsRow base e size v n xs:=
 h.kept (row:=none) ⟨hb.os,hb.tape,hb.output,hb.size,fun k hk _=>hb.block k hk⟩ (by cases hv:v.ownBlock<;>simp)
theorem br{x:World}{base:Nat}{e:TypeId}{size:Nat}{v:Value}{n:Nat}{xs:List Value}(h:x.ownsRow base e size v n xs):∀k,v.ownBlock=some k->base<=k:=fun k hk=>(h.lt k hk).1
theorem bG(x:World)(N:Nat)(hN:N=x.heap.size)(arr:Array Value)(t:TypeId)(vs:List Value)(hv:arr.toList=vs):∀j u,vs[j]?=some u->(x.alloc (.cells arr t)).cell? ((⟨N,0,none⟩:Addr).add j)=some u:=by intro j u hj;subst hN hv;rw[Addr.add_mid,Nat.zero_add,World.cell?_alloc_new];simpa using hj
theorem aU(r:aC):∀u∈r.cells,u.oneCell'=true:=fun u hu=>bw [r] u (by simpa[aA]using hu)
theorem cE:(prog.info? 64).map (fun i=>(i.zero,i.size,i.bytes))=some (some (.agg (cZ ⟨#[]⟩ ⟨#[]⟩ 0 0)),4,48):=by kernel_rfl
def Sl(w:World)(v:Value)(l:List aC)(B:Nat):Prop:=(v=.slice none 0 0/\l=[])\/∃g cap,v=.slice (some ⟨g,0,none⟩) l.length cap/\B<=g/\g<w.heap.size/\aG w g 0 l/\w.there g 0 (l.length*4)
theorem Sl.bE{w:World}{v:Value}{l:List aC}{B:Nat}(h:w.ownsRow B 64 4 v l.length (aA l)):Sl w v l B:=dE h
theorem Sl.grown{w w':World}{v:Value}{l:List aC}{B:Nat}{row:Option Nat}(h:Sl w v l B)(hg:w.grownBy w' row)(hne:v.ownBlock=none\/v.ownBlock≠row):Sl w' v l B:=by
 rcases h with h|⟨g,cap,rfl,h1,h2,h3,h4⟩;·exact Or.inl h
 have hn:some g≠row:=by simpa[Value.ownBlock]using hne
 have hc:∀o,w'.cell? ⟨g,o,none⟩=w.cell? ⟨g,o,none⟩:=fun o=>World.cell?_of_block (w:=w) (a:=⟨g,o,none⟩) (hg.block g h2 hn);have hfz:∀o,w'.frozen? ⟨g,o,none⟩=w.frozen? ⟨g,o,none⟩:=fun o=>World.frozen?_of_block (w:=w) (a:=⟨g,o,none⟩) (hg.block g h2 hn);exact Or.inr ⟨g,cap,rfl,h1,Nat.lt_of_lt_of_le h2 hg.size,fun k r hk j v hj=>(hc _).trans (h3 k r hk j v hj),fun j hj=>⟨by rw[hc];exact(h4 j hj).1,by rw[hfz];exact(h4 j hj).2⟩⟩
theorem Sl.keep{w w':World}{v:Value}{l:List aC}{B:Nat}(h:Sl w v l B)(hb:Below w.heap.size w w'):Sl w' v l B:=
 h.grown (row:=none) ⟨hb.os,hb.tape,hb.output,hb.size,fun k hk _=>hb.block k hk⟩ (by cases hv:v.ownBlock<;>simp)
theorem Sl.lt{w:World}{v:Value}{l:List aC}{B:Nat}(h:Sl w v l B):∀g,v.ownBlock=some g->B<=g/\g<w.heap.size:=by
 rcases h with⟨rfl,-⟩|⟨g,cap,rfl,h1,h2,-⟩;·intro g hg;simp[Value.ownBlock]at hg
 intro g' hg;simp[Value.ownBlock]at hg;subst hg;exact⟨h1,h2⟩
theorem av{w w':World}{kr:Nat}(h:Ex kr w w'):w.grownBy w' (some kr):=⟨h.os,h.tape,h.output,h.size,fun k hk hne=>h.block k hk (fun e=>hne (by rw[e]))⟩
theorem cO{w:World}{g:Nat}{l:List aC}(h:aG w g 0 l):∀j u,(aA l)[j]?=some u->w.cell? ((⟨g,0,none⟩:Addr).add j)=some u:=by
 intro j u hj;have hlt:j<l.length*4:=by rw[<-aZ];exact(List.getElem?_eq_some_iff.1 hj).1
 have hk:j / 4<l.length:=by omega
 have hr:j % 4<4:=Nat.mod_lt _ (by decide);have e:j / 4*4+j % 4=j:=by omega
 have h1:=dB l (j / 4) l[j / 4] (List.getElem?_eq_getElem hk) (j % 4) hr;rw[e,hj]at h1;have h2:=h (j / 4) l[j / 4] (List.getElem?_eq_getElem hk) (j % 4) u h1.symm;rw[Addr.add_mid];rw[show 0+j / 4*4+j % 4=0+j from by omega]at h2;exact h2
set_option maxHeartbeats 1000000
theorem fresh(g cap:Nat)(l:List aC)(w:World)(h:aG w g 0 l)(hl:l.length<=1048576):
  Calls prog 64 #[.slice (some ⟨g,0,none⟩) l.length cap] w fun e w'=>(∃v,e=.returned v/\Sl w' v l w.heap.size)/\Below w.heap.size w w':=by
 obtain⟨i0,hi,hz0,hz1,hz2⟩:=info_parts cE;go_enter func64,ntmps64
 go_wp2_with (at_builtin;refine wpList_append_own _ rfl _ _ 25 rfl w.heap.size 64 i0 _ 4 48 underlying25 hi hz0 hz1 hz2 rfl (by decide) (.slice none 0 0) 0 [] rfl (World.ownsRow_nil _ _ _ _) ⟨g,0,none⟩ l.length cap (aA l) rfl (aZ l) (cO h) (bw l) (by unfold maxLen;omega) (by omega) (Nat.le_refl _) ?_;intro v' w1 ho1 hg1 hn1)
 go_ret
 have ho2:w1.ownsRow w.heap.size 64 4 v' l.length (aA l):=by simpa using ho1
 exact⟨⟨v',rfl,Sl.bE ho2⟩,Below.grown bR hg1 (Nat.le_refl _) (fun j hj=>by cases hj)⟩
end Go.Proofs.YtlfnpjcjapljpaaGreatDoor.A
namespace Go.Proofs.YtlfnpjcjapljpaaGreatDoor
open Go.RowKit
set_option linter.unusedVariables false
def nQ(w:World)(a:Option Addr)(xs:List ByteArray):Prop:=xs=[]\/∃g,a=some ⟨g,0,none⟩/\g<w.heap.size/\∀k x,xs[k]?=some x->w.cell? ⟨g,k,none⟩=some (.string x)
theorem nQ.keep{w w':World}{a:Option Addr}{xs:List ByteArray}(h:nQ w a xs)(hb:Below w.heap.size w w'):nQ w' a xs:=by
 rcases h with h|⟨g,h1,h2,h3⟩;·exact Or.inl h
 exact Or.inr ⟨g,h1,Nat.lt_of_lt_of_le h2 hb.size,fun k x hk=>(hb.cell (p:=⟨g,k,none⟩) h2).trans (h3 k x hk)⟩
theorem mh{w:World}{base:Nat}{e:TypeId}{v:Value}{n:Nat}{xs:List Value}(h:w.ownsRow base e 1 v n xs):∃a c,v=.slice a n c:=by
 rcases h.2 with⟨h1,h2⟩|⟨g,cap,cur,h1,-⟩;·subst h2;exact⟨none,0,h1⟩
 exact⟨_,_,h1⟩
theorem vp{w:World}{base:Nat}{e:TypeId}{a:Option Addr}{c:Nat}{xs:List ByteArray}(h:w.ownsRow base e 1 (.slice a xs.length c) xs.length (xs.map (fun x=>.string x))):nQ w a xs:=by
 obtain⟨hl,⟨h0,hn⟩|⟨g,cap,cur,h0,hb,hg,hnc,hcm,hcs,htk⟩⟩:=h;·exact Or.inl (List.length_eq_zero_iff.1 hn)
 cases h0;refine Or.inr ⟨g,rfl,(Array.getElem?_eq_some_iff.1 hg).1,fun k x hk=>?_⟩;have hf:(xs.map (fun x=>Value.string x))[k]?=some (.string x):=by rw[List.getElem?_map,hk];rfl
 rw[<-htk,List.getElem?_take]at hf;split at hf
 ·
  rw[cell_of_row w g _ cur _ (0,0) hg];simpa using hf
 cases hf
end Go.Proofs.YtlfnpjcjapljpaaGreatDoor
namespace Go.Proofs.YtlfnpjcjapljpaaGreatDoor.A
open Go.Maps Go.Proofs.Tryz Go.RowKit Go.WideMaps
set_option maxRecDepth 4000
set_option maxHeartbeats 2000000
set_option linter.unusedVariables false
def fW:Prop:=∀(mb:Option Nat)(Wo:World),Calls prog 119 #[.map mb] Wo fun e w'=>e=.returned (.func (.func 156) #[] #[.pointer (some ⟨Wo.heap.size,0,none⟩)])/\w'=Wo.alloc (.cells #[.map mb] 108)
def eF:Prop:=∀(b nn:Nat)(rs:List aC)(w:World),w.ownsMap prog 9 RV b nn (dec rs)->rs.length<=1048576 ->
 Calls prog 116 #[.func (.func 156) #[] #[.pointer (some ⟨w.heap.size,0,none⟩)]] (w.alloc (.cells #[.map (some b)] 108)) fun e w'=>∃(v:Value)(ss:List (List UInt8)),e=.returned v/\ss.Perm (strKeys (dec rs)) /\
  w'.ownsRow (w.alloc (.cells #[.map (some b)] 108)).heap.size 9 1 v ss.length ((ss.mergeSort (fun x y=>decide (x<=y))).map encStr)/\Below (w.alloc (.cells #[.map (some b)] 108)).heap.size (w.alloc (.cells #[.map (some b)] 108)) w'
theorem Ll{w:World}(b n:Nat)(rs:List aC)(hown:w.ownsMap prog 9 RV b n (dec rs))(hs:dx rs)(r:aC)(hr:r∈rs)(hz:r.h.size<=maxLen):
  Sem.run prog (Instr.lookup 108 (.map (some b)) (.string r.h) false) w=.ok (.agg (cZ r.h r.c r.f r.t)) w:=by
 obtain⟨v,ps,hrun,hv⟩:=hown.lookup kV (t:=108) (e:=64) underlying108 (zeroV w) (zd:=.held ⟨⟨#[]⟩,⟨#[]⟩,0,0⟩) (zp:=[]) rfl (keyOf_string_mk underlying9 hz);rw[show Lit.string r.h.data.toList=Lit.string (aM r) from rfl,show(dec rs).atKey (Lit.string (aM r)) (.held ⟨⟨#[]⟩,⟨#[]⟩,0,0⟩)=.held r from Ord.mg aM hs hr _]at hv;rw[gI hv]at hrun;exact hrun
theorem lu(r:aC):encStr (aM r)=Value.string r.h:=by show Value.string ⟨r.h.data.toList.toArray⟩=_;rw[Array.toArray_toList]
theorem nP{w:World}{v:Value}{l:List aC}{B B':Nat}(h:Sl w v l B)(hB:B'<=B):Sl w v l B':=by
 rcases h with h|⟨g,cap,h0,h1,h2,h3,h4⟩;·exact Or.inl h
 exact Or.inr ⟨g,cap,h0,Nat.le_trans hB h1,h2,h3,h4⟩
theorem gJ{rs:List aC}{k:Nat}{r:aC}(hr:rs[k]?=some r):aA (rs.take (k+1))=aA (rs.take k)++r.cells:=by
 have hlt:k<rs.length:=(List.getElem?_eq_some_iff.1 hr).1;have he:rs[k]=r:=by rw[List.getElem?_eq_getElem hlt]at hr;exact Option.some.inj hr
 rw[List.take_succ_eq_append_getElem hlt,he];simp[aA]
theorem eX(hK:fW)(hS:eF)(b nn:Nat)(rs:List aC)(w:World)(hown:w.ownsMap prog 9 RV b nn (dec rs))(hs:dx rs)(hfit:∀r∈rs,r.h.size<=maxLen)(hl:rs.length<=1048576):
  Calls prog 81 #[.map (some b)] w fun e w'=>(∃v,e=.returned v/\Sl w' v rs w.heap.size)/\Below w.heap.size w w':=by
 have HO:=ah hown;have HS:=ah hs;have cK:=ah hK;have cS:=ah hS;have HF:=ah hfit;clear hown hs hK hS hfit;obtain⟨i0,hi,hz0,hz1,hz2⟩:=info_parts cE;go_enter func81,ntmps81
 go_wp2_with fail
 refine mr (cK.out _ _) ?_;go_wp2_with fail
 refine(cS.out b nn rs _ HO.out hl).mono ?_;rintro e w1 ⟨v,ss,rfl,hp,hrow,hb⟩;have hlen:ss.length=rs.length:=by rw[hp.length_eq,show strKeys (dec rs)=rs.map aM from Ord.lx aM rs,List.length_map]
 rw[Ord.jC aM HS.out hp,hlen]at hrow;have B1:Hid (Below w.heap.size w w1):=af (ae bR _) hb;have O1:=ah (aS HO.out B1.out);obtain⟨a,c,rfl⟩:=mh hrow;have Ar:Hid (nQ w1 a (rs.map (fun r=>r.h))):=vp (by rw[List.length_map,List.map_map];rw[List.map_map,show(encStr ∘ aM)=((fun x=>Value.string x) ∘ fun r:aC=>r.h) from funext lu]at hrow;exact hrow);clear hrow hp hb hlen;go_wp2_with fail
 go_loopw [3,10] (fun v i wx=>∃(k:Nat),k<=rs.length/\i=.int .i64 k/\wx.ownsRow w1.heap.size 64 4 v k (aA (rs.take k))/\Hid (Below w1.heap.size w1 wx)) (fun _ i _=>rs.length-(intOf i).toNat)
 case atStart=>exact⟨0,Nat.zero_le _,rfl,World.ownsRow_nil _ _ _ _,Below.refl _ _⟩
 case round=>
  obtain⟨k,hk,rfl,hown,HB⟩:=hrel;by_cases hlt:k<rs.length
  ·
   obtain⟨r,hr⟩:∃r,rs[k]?=some r:=⟨rs[k],List.getElem?_eq_getElem hlt⟩
   have Hr:=ah hr;obtain⟨g,rfl,hg,hc⟩:=(Ar.out.keep HB.out).resolve_left (fun h=>by rw[List.map_eq_nil_iff]at h;rw[h]at hlt;simp at hlt);have c0:=hc k r.h (by rw[List.getElem?_map,hr];rfl);have hlk:=Ll b nn rs (aS O1.out HB.out) HS.out r (List.mem_of_getElem? hr) (HF.out r (List.mem_of_getElem? hr));obtain⟨xs,hxs⟩:∃xs,xs=aA (rs.take k):=⟨_,rfl⟩
   rw[<-hxs]at hown;have Ho:=ah hown;have Hx:=ah hxs;have IW:=HB.out.size;have i1:(k:Int)<(rs.length:Int):=(by omega);clear hr hown hxs hc;go_wp2_with (at_builtin;refine wpList_append_own _ rfl _ _ 25 rfl w1.heap.size 64 i0 _ 4 48 underlying25 hi hz0 hz1 hz2 rfl (by decide) _ k _ rfl (by exact aN Ho.out (by repeat (first|exact bR|refine ae ?_ _))) ⟨_,0,none⟩ 1 1 r.cells rfl rfl (bG _ _ (by simp) _ _ _ rfl) (aU _) (by unfold maxLen;omega) (by omega) (by simp;omega) ?_;intro v' w2 ho2 hg2 hn2)
   refine⟨⟨k+1,by omega,by go_num,?_,Below.grown (by repeat (first|exact HB.out|refine ae ?_ _)) hg2 (by simp;omega) (br Ho.out)⟩,by simp[intOf];omega⟩;rw[gJ Hr.out,<-Hx.out];exact ho2
  go_wp2
  go_ret
  have hk':k=rs.length:=by omega
  subst hk';rw[List.take_of_length_le (Nat.le_refl _)]at hown;exact⟨⟨_,rfl,nP (Sl.bE hown) B1.out.size⟩,af B1.out HB.out⟩
end Go.Proofs.YtlfnpjcjapljpaaGreatDoor.A
namespace Go.Proofs.YtlfnpjcjapljpaaGreatDoor.W
theorem aG.Jz{kr:Nat}{w w':World}{b off:Nat}{rs:List ay}(h:aG w b off rs)(hb:b<w.heap.size)(hE:Ex kr w w')(hne:b≠kr):aG w' b off rs:=
 fun k r hk j v hj=>(hE.cell (p:=⟨b,off+k*7+j,none⟩) hb hne).trans (h k r hk j v hj)
end Go.Proofs.YtlfnpjcjapljpaaGreatDoor.W
namespace Go.Proofs.YtlfnpjcjapljpaaGreatDoor.A
end Go.Proofs.YtlfnpjcjapljpaaGreatDoor.A
namespace Go.Proofs.YtlfnpjcjapljpaaGreatDoor
open Go.RowKit
set_option linter.unusedVariables false
theorem aG.Jz{kr:Nat}{w w':World}{b off:Nat}{rs:List aw}(h:aG w b off rs)(hb:b<w.heap.size)(hE:Ex kr w w')(hne:b≠kr):aG w' b off rs:=
 fun k r hk j v hj=>(hE.cell (p:=⟨b,off+k*11+j,none⟩) hb hne).trans (h k r hk j v hj)
end Go.Proofs.YtlfnpjcjapljpaaGreatDoor
namespace Go.Proofs.YtlfnpjcjapljpaaGreatDoor.Pc
open Go.Proofs.Tryz Go.RowKit
set_option linter.unusedVariables false
def aA(rs:List bP):List Value:=rs.flatMap bP.cells
theorem cP(rs:List bP)(r:bP):aA (rs++[r])=aA rs++r.cells:=by simp[aA]
theorem dB:∀(rs:List bP)(k:Nat)(r:bP),rs[k]?=some r->∀j,j<7->(aA rs)[k*7+j]?=r.cells[j]?
 |[],k,r,h,j,hj=>by simp at h
 |q::rs,0,r,h,j,hj=>by simp at h;subst h;rw[aA,List.flatMap_cons,List.getElem?_append_left (by show _<7;omega)];simp
 |q::rs,k+1,r,h,j,hj=>by have ih:=dB rs k r (by simpa using h) j hj;rw[aA,List.flatMap_cons,List.getElem?_append_right (by show 7<=_;omega)];rw[<-ih];show(aA rs)[(k+1)*7+j-7]?=_;rw[show(k+1)*7+j-7=k*7+j from by omega]
theorem bw(rs:List bP):∀u∈aA rs,u.oneCell'=true:=by intro u hu;obtain⟨r,-,h⟩:=List.mem_flatMap.1 hu;simp[bP.cells]at h;rcases h with rfl|rfl|rfl|rfl|rfl|rfl|rfl<;>rfl
theorem dE{w:World}{base:Nat}{v:Value}{rs:List bP}(h:w.ownsRow base 43 7 v rs.length (aA rs)):
  (v=.slice none 0 0/\rs=[])\/∃g cap,v=.slice (some ⟨g,0,none⟩) rs.length cap/\base<=g/\g<w.heap.size/\aG w g 0 rs/\w.there g 0 (rs.length*7):=by
 obtain⟨hl,⟨rfl,hn⟩|⟨g,cap,cur,rfl,hb,hg,hnc,hcm,hcs,htk⟩⟩:=h;·exact Or.inl ⟨rfl,List.length_eq_zero_iff.1 hn⟩
 ·
  refine Or.inr ⟨g,cap,rfl,hb,(Array.getElem?_eq_some_iff.1 hg).1,?_,?_⟩
  ·
   intro k r hk j u hj;have hjn:j<7:=by
    rcases Nat.lt_or_ge j 7 with h'|h';·exact h'
    rw[List.getElem?_eq_none (by simpa[bP.cells]using h')]at hj;cases hj
   have hf:=dB rs k r hk j hjn;rw[hj,<-htk,List.getElem?_take]at hf;split at hf
   ·
    rw[cell_of_row w g _ cur _ (0,0) hg,Nat.zero_add];simpa using hf
   cases hf
  intro j hj;have hlt:j<cur.size:=by have:rs.length*7<=cap*7:=Nat.mul_le_mul_right 7 hnc;omega
  refine⟨?_,?_⟩
  ·
   rw[cell_of_row w g _ cur _ (0,0) hg,Nat.zero_add];simp[Array.getElem?_eq_getElem hlt]
  simp[World.frozen?,hg]
theorem aN{x y:World}{base:Nat}{e:TypeId}{size:Nat}{v:Value}{n:Nat}{xs:List Value}(h:x.ownsRow base e size v n xs)(hb:Below x.heap.size x y):y.ownsRow base e size v n xs:=
 h.kept (row:=none) ⟨hb.os,hb.tape,hb.output,hb.size,fun k hk _=>hb.block k hk⟩ (by cases hv:v.ownBlock<;>simp)
theorem bG(x:World)(N:Nat)(hN:N=x.heap.size)(arr:Array Value)(t:TypeId)(vs:List Value)(hv:arr.toList=vs):∀j u,vs[j]?=some u->(x.alloc (.cells arr t)).cell? ((⟨N,0,none⟩:Addr).add j)=some u:=by intro j u hj;subst hN hv;rw[Addr.add_mid,Nat.zero_add,World.cell?_alloc_new];simpa using hj
theorem aU(r:bP):∀u∈r.cells,u.oneCell'=true:=fun u hu=>bw [r] u (by simpa[aA]using hu)
theorem cE:(prog.info? 43).map (fun i=>(i.zero,i.size,i.bytes))=some (some (.agg (cw 0 ⟨#[]⟩ 0 (.slice none 0 0) ⟨#[]⟩ ⟨#[]⟩ 0)),7,96):=by kernel_rfl
def Sl(w:World)(v:Value)(l:List bP)(B:Nat):Prop:=(v=.slice none 0 0/\l=[])\/∃g cap,v=.slice (some ⟨g,0,none⟩) l.length cap/\B<=g/\g<w.heap.size/\aG w g 0 l/\w.there g 0 (l.length*7)
theorem Sl.bE{w:World}{v:Value}{l:List bP}{B:Nat}(h:w.ownsRow B 43 7 v l.length (aA l)):Sl w v l B:=dE h
theorem Sl.grown{w w':World}{v:Value}{l:List bP}{B:Nat}{row:Option Nat}(h:Sl w v l B)(hg:w.grownBy w' row)(hne:v.ownBlock=none\/v.ownBlock≠row):Sl w' v l B:=by
 rcases h with h|⟨g,cap,rfl,h1,h2,h3,h4⟩;·exact Or.inl h
 have hn:some g≠row:=by simpa[Value.ownBlock]using hne
 have hc:∀o,w'.cell? ⟨g,o,none⟩=w.cell? ⟨g,o,none⟩:=fun o=>World.cell?_of_block (w:=w) (a:=⟨g,o,none⟩) (hg.block g h2 hn);have hfz:∀o,w'.frozen? ⟨g,o,none⟩=w.frozen? ⟨g,o,none⟩:=fun o=>World.frozen?_of_block (w:=w) (a:=⟨g,o,none⟩) (hg.block g h2 hn);exact Or.inr ⟨g,cap,rfl,h1,Nat.lt_of_lt_of_le h2 hg.size,fun k r hk j v hj=>(hc _).trans (h3 k r hk j v hj),fun j hj=>⟨by rw[hc];exact(h4 j hj).1,by rw[hfz];exact(h4 j hj).2⟩⟩
theorem Sl.keep{w w':World}{v:Value}{l:List bP}{B:Nat}(h:Sl w v l B)(hb:Below w.heap.size w w'):Sl w' v l B:=
 h.grown (row:=none) ⟨hb.os,hb.tape,hb.output,hb.size,fun k hk _=>hb.block k hk⟩ (by cases hv:v.ownBlock<;>simp)
theorem Sl.lt{w:World}{v:Value}{l:List bP}{B:Nat}(h:Sl w v l B):∀g,v.ownBlock=some g->B<=g/\g<w.heap.size:=by
 rcases h with⟨rfl,-⟩|⟨g,cap,rfl,h1,h2,-⟩;·intro g hg;simp[Value.ownBlock]at hg
 intro g' hg;simp[Value.ownBlock]at hg;subst hg;exact⟨h1,h2⟩
theorem Sl.shape{w:World}{v:Value}{l:List bP}{B:Nat}(h:Sl w v l B):∃a c,v=.slice a l.length c:=by
 rcases h with⟨rfl,rfl⟩|⟨g,cap,rfl,-⟩;·exact⟨none,0,rfl⟩
 exact⟨_,_,rfl⟩
end Go.Proofs.YtlfnpjcjapljpaaGreatDoor.Pc
namespace Go.Proofs.YtlfnpjcjapljpaaGreatDoor
open Go.RowKit
set_option linter.unusedVariables false
theorem wE{y:World}{u:Nat}{C:Array Value}{t:TypeId}(h:y.heap[u]?=some (.cells C t (0,0))):∀j v,C.toList[j]?=some v->y.cell? ((⟨u,0,none⟩:Addr).add j)=some v:=by intro j v hj;rw[Addr.add_mid,Nat.zero_add];simp[World.cell?,h];simpa using hj
theorem kR{P:Program}{w:World}{o:Oper}{a:Act}{K:Act->World->Prop}{Q:Exit->Act->World->Prop}(s x:Operand)(t:TypeId)
  (ho:o.op=.call {callee:=.builtin .append,args:=#[s,x],argTypes:=#[t,t]})
  (base:Nat) (e:TypeId) (i:TypeInfo) (z:Value) (size bytes:Nat) (ht:P.underlying t=some (.slice e)) (hi:P.info? e=some i) (hz:i.zero=some z)
  (hsize:i.size=size) (hby:i.bytes=bytes) (hzs:z.cells.size=size) (hsz:0<size)
  (v:Value) (n:Nat) (xs:List Value) (hs:a.eval s=v) (hown:w.ownsRow base e size v n xs)
  (ad:Addr) (m c:Nat) (news:List Value) (hx:a.eval x=.slice (some ad) m c) (hl:news.length=m*size) (hnews:∀j u,news[j]?=some u->w.cell? (ad.add j)=some u) (h1:∀u∈news,u.oneCell'=true)
  (h63:n+m<=maxLen) (hbytes:(n+m)*bytes<=140737488355328) (hbase:base<=w.heap.size)
  (h:∀v' w',w'.ownsRow base e size v' (n+m) (xs++news)->w.grownBy w' v.ownBlock->(v'.ownBlock=v.ownBlock\/v'.ownBlock=some w.heap.size)->K (a.put o.dst v') w'):o.wp P a w K Q:=by
 obtain⟨v',w',hr,h2,h3,h4,h5⟩:=run_append_own_at (P:=P) w base t o.type e i z size bytes ht hi hz hsize hby hzs hsz v n xs hown ad m c news hl hnews h1 h63 hbytes hbase;unfold Oper.wp execOp;simp only[ho,resolve,invoke,builtin,Sem.run_bind,Sem.run_pure,Result.andThen_ok,List.map_toArray,List.map_cons,List.map_nil,hs,hx,hr];exact h v' w' h2 h3 h5
end Go.Proofs.YtlfnpjcjapljpaaGreatDoor
