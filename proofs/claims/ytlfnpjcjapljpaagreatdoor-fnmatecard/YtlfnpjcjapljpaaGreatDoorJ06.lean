import Derived.Test.YtlfnpjcjapljpaaGreatDoorJ03
import Derived.Test.YtlfnpjcjapljpaaGreatDoorJ04
import Derived.Test.YtlfnpjcjapljpaaGreatDoorJ02
namespace Go.Proofs.YtlfnpjcjapljpaaGreatDoor.W
open Go.Proofs.Tryz Go.RowKit
set_option linter.unusedVariables false
def aA(rs:List ay):List Value:=rs.flatMap ay.cells
theorem aZ:∀rs:List ay,(aA rs).length=rs.length*7
 |[]=>rfl
 |r::rs=>by have:=aZ rs;simp only[aA,List.flatMap_cons,List.length_append]at this ⊢;simp only[this,List.length_cons];show 7+rs.length*7=_;omega
theorem dB:∀(rs:List ay)(k:Nat)(r:ay),rs[k]?=some r->∀j,j<7->(aA rs)[k*7+j]?=r.cells[j]?
 |[],k,r,h,j,hj=>by simp at h
 |q::rs,0,r,h,j,hj=>by simp at h;subst h;rw[aA,List.flatMap_cons,List.getElem?_append_left (by show _<7;omega)];simp
 |q::rs,k+1,r,h,j,hj=>by have ih:=dB rs k r (by simpa using h) j hj;rw[aA,List.flatMap_cons,List.getElem?_append_right (by show 7<=_;omega)];rw[<-ih];show(aA rs)[(k+1)*7+j-7]?=_;rw[show(k+1)*7+j-7=k*7+j from by omega]
theorem bw(rs:List ay):∀u∈aA rs,u.oneCell'=true:=by intro u hu;obtain⟨r,-,h⟩:=List.mem_flatMap.1 hu;simp[ay.cells]at h;rcases h with rfl|rfl|rfl|rfl|rfl|rfl|rfl<;>rfl
theorem dE{w:World}{base:Nat}{v:Value}{rs:List ay}(h:w.ownsRow base 37 7 v rs.length (aA rs)):
  (v=.slice none 0 0/\rs=[])\/∃g cap,v=.slice (some ⟨g,0,none⟩) rs.length cap/\base<=g/\g<w.heap.size/\aG w g 0 rs/\w.there g 0 (rs.length*7):=by
 obtain⟨hl,⟨rfl,hn⟩|⟨g,cap,cur,rfl,hb,hg,hnc,hcm,hcs,htk⟩⟩:=h;·exact Or.inl ⟨rfl,List.length_eq_zero_iff.1 hn⟩
 ·
  refine Or.inr ⟨g,cap,rfl,hb,(Array.getElem?_eq_some_iff.1 hg).1,?_,?_⟩
  ·
   intro k r hk j u hj;have hjn:j<7:=by
    rcases Nat.lt_or_ge j 7 with h'|h';·exact h'
    rw[List.getElem?_eq_none (by simpa[ay.cells]using h')]at hj;cases hj
   have hf:=dB rs k r hk j hjn;rw[hj,<-htk,List.getElem?_take]at hf;split at hf
   ·
    rw[cell_of_row w g _ cur _ (0,0) hg,Nat.zero_add];simpa using hf
   cases hf
  intro j hj;have hlt:j<cur.size:=by have:rs.length*7<=cap*7:=Nat.mul_le_mul_right 7 hnc;omega
  refine⟨?_,?_⟩
  ·
   rw[cell_of_row w g _ cur _ (0,0) hg,Nat.zero_add];simp[Array.getElem?_eq_getElem hlt]
  simp[World.frozen?,hg]
theorem aN{x y:World}{base:Nat}{e:TypeId}{size:Nat}{v:Value}{n:Nat}{xs:List Value}(h:x.ownsRow base e size v n xs)(hb:Below x.heap.size x y):y.ownsRow base e size v n xs:=
 h.kept (row:=none) ⟨hb.os,hb.tape,hb.output,hb.size,fun k hk _=>hb.block k hk⟩ (by cases hv:v.ownBlock<;>simp)
theorem br{x:World}{base:Nat}{e:TypeId}{size:Nat}{v:Value}{n:Nat}{xs:List Value}(h:x.ownsRow base e size v n xs):∀k,v.ownBlock=some k->base<=k:=fun k hk=>(h.lt k hk).1
theorem bG(x:World)(N:Nat)(hN:N=x.heap.size)(arr:Array Value)(t:TypeId)(vs:List Value)(hv:arr.toList=vs):∀j u,vs[j]?=some u->(x.alloc (.cells arr t)).cell? ((⟨N,0,none⟩:Addr).add j)=some u:=by intro j u hj;subst hN hv;rw[Addr.add_mid,Nat.zero_add,World.cell?_alloc_new];simpa using hj
theorem aU(r:ay):∀u∈r.cells,u.oneCell'=true:=fun u hu=>bw [r] u (by simpa[aA]using hu)
theorem cE:(prog.info? 37).map (fun i=>(i.zero,i.size,i.bytes))=some (some (.agg (aX ⟨#[]⟩ 0 ⟨#[]⟩ 0 0 0 0)),7,72):=by kernel_rfl
def Sl(w:World)(v:Value)(l:List ay)(B:Nat):Prop:=(v=.slice none 0 0/\l=[])\/∃g cap,v=.slice (some ⟨g,0,none⟩) l.length cap/\B<=g/\g<w.heap.size/\aG w g 0 l/\w.there g 0 (l.length*7)
theorem Sl.bE{w:World}{v:Value}{l:List ay}{B:Nat}(h:w.ownsRow B 37 7 v l.length (aA l)):Sl w v l B:=dE h
theorem Sl.grown{w w':World}{v:Value}{l:List ay}{B:Nat}{row:Option Nat}(h:Sl w v l B)(hg:w.grownBy w' row)(hne:v.ownBlock=none\/v.ownBlock≠row):Sl w' v l B:=by
 rcases h with h|⟨g,cap,rfl,h1,h2,h3,h4⟩;·exact Or.inl h
 have hn:some g≠row:=by simpa[Value.ownBlock]using hne
 have hc:∀o,w'.cell? ⟨g,o,none⟩=w.cell? ⟨g,o,none⟩:=fun o=>World.cell?_of_block (w:=w) (a:=⟨g,o,none⟩) (hg.block g h2 hn);have hfz:∀o,w'.frozen? ⟨g,o,none⟩=w.frozen? ⟨g,o,none⟩:=fun o=>World.frozen?_of_block (w:=w) (a:=⟨g,o,none⟩) (hg.block g h2 hn);exact Or.inr ⟨g,cap,rfl,h1,Nat.lt_of_lt_of_le h2 hg.size,fun k r hk j v hj=>(hc _).trans (h3 k r hk j v hj),fun j hj=>⟨by rw[hc];exact(h4 j hj).1,by rw[hfz];exact(h4 j hj).2⟩⟩
theorem Sl.keep{w w':World}{v:Value}{l:List ay}{B:Nat}(h:Sl w v l B)(hb:Below w.heap.size w w'):Sl w' v l B:=
 h.grown (row:=none) ⟨hb.os,hb.tape,hb.output,hb.size,fun k hk _=>hb.block k hk⟩ (by cases hv:v.ownBlock<;>simp)
theorem Sl.lt{w:World}{v:Value}{l:List ay}{B:Nat}(h:Sl w v l B):∀g,v.ownBlock=some g->B<=g/\g<w.heap.size:=by
 rcases h with⟨rfl,-⟩|⟨g,cap,rfl,h1,h2,-⟩;·intro g hg;simp[Value.ownBlock]at hg
 intro g' hg;simp[Value.ownBlock]at hg;subst hg;exact⟨h1,h2⟩
theorem av{w w':World}{kr:Nat}(h:Ex kr w w'):w.grownBy w' (some kr):=⟨h.os,h.tape,h.output,h.size,fun k hk hne=>h.block k hk (fun e=>hne (by rw[e]))⟩
theorem cO{w:World}{g:Nat}{l:List ay}(h:aG w g 0 l):∀j u,(aA l)[j]?=some u->w.cell? ((⟨g,0,none⟩:Addr).add j)=some u:=by
 intro j u hj;have hlt:j<l.length*7:=by rw[<-aZ];exact(List.getElem?_eq_some_iff.1 hj).1
 have hk:j / 7<l.length:=by omega
 have hr:j % 7<7:=Nat.mod_lt _ (by decide);have e:j / 7*7+j % 7=j:=by omega
 have h1:=dB l (j / 7) l[j / 7] (List.getElem?_eq_getElem hk) (j % 7) hr;rw[e,hj]at h1;have h2:=h (j / 7) l[j / 7] (List.getElem?_eq_getElem hk) (j % 7) u h1.symm;rw[Addr.add_mid];rw[show 0+j / 7*7+j % 7=0+j from by omega]at h2;exact h2
set_option maxHeartbeats 1000000
theorem Fp(g cap:Nat)(l:List ay)(w:World)(h:aG w g 0 l)(hl:l.length<=1048576):
  Calls prog 62 #[.slice (some ⟨g,0,none⟩) l.length cap] w fun e w'=>(∃v,e=.returned v/\Sl w' v l w.heap.size/\gU v)/\Below w.heap.size w w':=by
 obtain⟨i0,hi,hz0,hz1,hz2⟩:=info_parts cE;go_enter func62,ntmps62
 go_wp2_with (at_builtin;refine wpList_append_own _ rfl _ _ 23 rfl w.heap.size 37 i0 _ 7 72 underlying23 hi hz0 hz1 hz2 rfl (by decide) (.slice none 0 0) 0 [] rfl (World.ownsRow_nil _ _ _ _) ⟨g,0,none⟩ l.length cap (aA l) rfl (aZ l) (cO h) (bw l) (by unfold maxLen;omega) (by omega) (Nat.le_refl _) ?_;intro v' w1 ho1 hg1 hn1)
 go_ret
 have ho2:w1.ownsRow w.heap.size 37 7 v' l.length (aA l):=by simpa using ho1
 exact⟨⟨v',rfl,Sl.bE ho2,iy ho2⟩,Below.grown bR hg1 (Nat.le_refl _) (fun j hj=>by cases hj)⟩
def ay.ok(r:ay):Bool:=dc r.c r.h r.v r.p r.s r.d r.g
def qJ(q r:ay):Bool:=Op.bytesLess q.c.toList r.c.toList
def clash(q r:ay):Bool:=!r.h.toList.isEmpty&&(q.h.toList==r.h.toList)
def Each(ws:List ay)(n:Nat):Prop:=∀j r,j<n->ws[j]?=some r->r.ok=true
def Asc(ws:List ay)(n:Nat):Prop:=∀j q r,j+1<n->ws[j]?=some q->ws[j+1]?=some r->qJ q r=true
def gE(ws:List ay)(r:ay)(m:Nat):Prop:=∀i q,i<m->ws[i]?=some q->clash q r=false
def Diff(ws:List ay)(n:Nat):Prop:=∀j r,j<n->ws[j]?=some r->gE ws r j
def sG(ws:List ay)(n:Nat):Prop:=Each ws n/\Asc ws n/\Diff ws n
def Says(q:Bool)(ws:List ay):Prop:=q=true↔ws.length<=10/\sG ws ws.length
theorem Each.step{ws:List ay}{k:Nat}{r:ay}(h:Each ws k)(hr:ws[k]?=some r)(hs:r.ok=true):Each ws (k+1):=by
 intro j q hj hq;by_cases e:j=k;·subst e;rw[hr]at hq;cases hq;exact hs
 exact h j q (by omega) hq
theorem Asc.step{ws:List ay}{k:Nat}{q r:ay}(h:Asc ws (k+1))(hq:ws[k]?=some q)(hr:ws[k+1]?=some r)(hs:qJ q r=true):Asc ws (k+1+1):=by
 intro j q' r' hj hq' hr';by_cases e:j=k;·subst e;rw[hq]at hq';rw[hr]at hr';cases hq';cases hr';exact hs
 exact h j q' r' (by omega) hq' hr'
theorem Asc.one{ws:List ay}:Asc ws 1:=fun j q r hj _ _=>by omega
theorem gE.step{ws:List ay}{m:Nat}{q r:ay}(h:gE ws r m)(hq:ws[m]?=some q)(hs:clash q r=false):gE ws r (m+1):=by
 intro i q' hi hq';by_cases e:i=m;·subst e;rw[hq]at hq';cases hq';exact hs
 exact h i q' (by omega) hq'
theorem Diff.step{ws:List ay}{k:Nat}{r:ay}(h:Diff ws k)(hr:ws[k]?=some r)(hs:gE ws r k):Diff ws (k+1):=by
 intro j q hj hq;by_cases e:j=k;·subst e;rw[hr]at hq;cases hq;exact hs
 exact h j q (by omega) hq
theorem gZ{ws:List ay}(h:ws.length<=10->sG ws ws.length->False):Says false ws:=⟨fun h'=>(by cases h'),fun h'=>(h h'.1 h'.2).elim⟩
theorem tq{ws:List ay}{k:Nat}(h:sG ws k)(hk:ws.length<=k)(h10:ws.length<=10):Says true ws:=
 ⟨fun _=>⟨h10,fun j r hj hr=>h.1 j r (by omega) hr,fun j q r hj hq hr=>h.2.1 j q r (by omega) hq hr,fun j r hj hr=>h.2.2 j r (by omega) hr⟩,fun _=>rfl⟩
theorem ob{x w':World}{b off k:Nat}{rs:List ay}{r:ay}(hk:rs[k]?=some r)(h1:aG x b off rs)(l1:b<x.heap.size)(hb:Below x.heap.size x w'):
  Below x.heap.size x w'/\(vP w' b (off+k*7) r.c r.v r.h r.p r.s r.d r.g):=⟨hb,(h1.keep l1 hb).at hk⟩
theorem lC{x w':World}{b off k:Nat}{rs:List ay}{r q:ay}(hk:rs[k+1]?=some r)(hq:rs[k]?=some q)(h1:aG x b off rs)(l1:b<x.heap.size)(hb:Below x.heap.size x w'):
  Below x.heap.size x w'/\(vP w' b (off+(k+1)*7) r.c r.v r.h r.p r.s r.d r.g)/\w'.cell? ⟨b,off+k*7,none⟩=some (.string q.c):=⟨hb,(h1.keep l1 hb).at hk,((h1.keep l1 hb).at hq).1⟩
theorem tH{x w':World}{b off:Nat}{rs:List ay}{r:ay}(hk:rs[0]?=some r)(h1:aG x b off rs)(l1:b<x.heap.size)(hb:Below x.heap.size x w'):
  Below x.heap.size x w'/\(vP w' b off r.c r.v r.h r.p r.s r.d r.g):=by
 have:=ob (k:=0) hk h1 l1 hb;simpa using this
theorem wB{x:World}{b off k:Nat}{rs:List ay}{r:ay}(hk:rs[k]?=some r)(h1:aG x b off rs):x.cell? ⟨b,off+k*7+2,none⟩=some (.string r.h):=(h1.at hk).2.2.1
end Go.Proofs.YtlfnpjcjapljpaaGreatDoor.W
namespace Go.Proofs.YtlfnpjcjapljpaaGreatDoor
open Go.RowKit
set_option linter.unusedVariables false
structure Off(P:Nat->Prop)(w w':World):Prop where
 os:w'.os=w.os
 tape:w'.tape=w.tape
 output:w'.output=w.output
 size:w.heap.size<=w'.heap.size
 block:∀k,k<w.heap.size->¬P k->w'.heap[k]?=w.heap[k]?
theorem Off.refl(P:Nat->Prop)(w:World):Off P w w:=⟨rfl,rfl,rfl,Nat.le_refl _,fun _ _ _=>rfl⟩
theorem Off.trans{P:Nat->Prop}{a b c:World}(h:Off P a b)(k:Off P b c):Off P a c:=
 ⟨k.os.trans h.os,k.tape.trans h.tape,k.output.trans h.output,Nat.le_trans h.size k.size,fun i hi hp=>(k.block i (Nat.lt_of_lt_of_le hi h.size) hp).trans (h.block i hi hp)⟩
theorem Off.of_below{P:Nat->Prop}{a b:World}(h:Below a.heap.size a b):Off P a b:=⟨h.os,h.tape,h.output,h.size,fun i hi _=>h.block i hi⟩
theorem Off.di{P:Nat->Prop}{a b:World}{row:Option Nat}(h:a.grownBy b row)(hp:∀j,row=some j->P j):Off P a b:=⟨h.os,h.tape,h.output,h.size,fun i hi hn=>h.block i hi (fun e=>hn (hp i e.symm))⟩
theorem Off.cell{P:Nat->Prop}{a b:World}(h:Off P a b){p:Addr}(hp:p.block<a.heap.size)(hn:¬P p.block):b.cell? p=a.cell? p:=World.cell?_of_block (w:=a) (h.block p.block hp hn)
theorem Off.below{P:Nat->Prop}{a b:World}{B:Nat}(h:Off P a b)(hP:∀j,P j->B<=j)(hB:B<=a.heap.size):Below B a b:=⟨h.os,h.tape,h.output,h.size,fun i hi=>h.block i (by omega) (fun hp=>by have:=hP i hp;omega)⟩
def eh(a b:Value):Prop:=a.ownBlock=none\/a.ownBlock≠b.ownBlock
theorem eh.symm{a b:Value}(h:eh a b):eh b a:=by
 rcases h with h|h
 ·
  cases hb:b.ownBlock with
  |none=>exact Or.inl hb
  |some g=>exact Or.inr (by rw[h,hb];simp)
 exact Or.inr (fun e=>h e.symm)
end Go.Proofs.YtlfnpjcjapljpaaGreatDoor
namespace Go.Proofs.YtlfnpjcjapljpaaGreatDoor.W
open Go.Proofs.Tryz Go.RowKit
set_option maxHeartbeats 2000000
set_option linter.unusedVariables false
theorem jl(c h:ByteArray)(v p s d g:Int)(w:World)(hc:c.size<=maxLen)(hh:h.size<=maxLen)(q:Bool)(hq:dc c h v p s d g=q):
  Calls prog 86 #[.agg (aX c v h p s d g)] w fun e w'=>e=.returned (.bool q)/\Below w.heap.size w w':=by
 rw[<-hq];refine mr (bp c h v p s d g w hc hh) ?_;exact⟨rfl,ae bR _⟩
theorem tt(b off cap:Nat)(ws:List ay)(w:World)(hR:aG w b off ws)(l1:b<w.heap.size)(hfit:∀r∈ws,r.fits)(hl:ws.length<=1048576):
  Calls prog 38 #[.slice (some ⟨b,off,none⟩) ws.length cap] w fun e w'=>(∃q:Bool,e=.returned (.bool q)/\Says q ws)/\Below w.heap.size w w':=by
 by_cases h10:10<ws.length
 ·
  go_enter func38,ntmps38
  go_wp2
  go_ret
  exact⟨⟨false,rfl,gZ (fun h _=>by omega)⟩,Below.refl _ _⟩
 go_enter func38,ntmps38
 go_wp2
 go_loopw [3] (fun i wx=>∃(k:Nat),k<=ws.length/\i=.int .i64 k/\Hid (sG ws k)/\Below w.heap.size w wx) (fun i _=>ws.length-(intOf i).toNat)
 case atStart=>exact⟨0,Nat.zero_le _,rfl,⟨fun j r h=>by omega,fun j q r h=>by omega,fun j r h=>by omega⟩,Below.refl _ _⟩
 case round=>
  obtain⟨k,hk,rfl,Ha,hB⟩:=hrel;by_cases hlt:k<ws.length
  ·
   obtain⟨r,hr⟩:∃r,ws[k]?=some r:=⟨ws[k],List.getElem?_eq_getElem hlt⟩
   have Hr:=ah hr;have hf:r.fits:=hfit r (List.mem_of_getElem? hr);clear hr;have g1:=hR.keep l1 hB;have z1:b<wr.heap.size:=Nat.lt_of_lt_of_le l1 hB.size;have i0:(0:Int)<=(k:Int):=(by omega);have i1:(k:Int)<(ws.length:Int):=(by omega);cases hok:dc r.c r.h r.v r.p r.s r.d r.g
   ·
    go_wp2_with fail
    refine wp_region_noPanic ?_;refine wp_region_held_drew (S:=(fun w'=>Below wr.heap.size wr w'/\(vP w' b (off+k*7) r.c r.v r.h r.p r.s r.d r.g))) (by kernel_rfl) (ob Hr.out g1 z1 bD) (fun hHeld=>?_);refine aF 0 ?_;try simp only[sp]
    refine aF 1 ?_;try simp only[sp]
    refine aF 2 ?_;try simp only[sp]
    refine aF 3 ?_;try simp only[sp]
    refine dJ 4 (by kernel_rfl) rfl fun K hK=>?_
    go_simp
    refine(jl r.c r.h r.v r.p r.s r.d r.g _ hf.1 hf.2 false hok).mono ?_;rintro e w1 ⟨rfl,hb⟩;go_wp2_with fail
    refine hK.out _ _ (ob Hr.out g1 z1 (af bD hb)) (fun cq=>?_);clear hK K hHeld;try simp only[sp]
    refine aF 5 ?_;try simp only[sp]
    refine aF 6 ?_;try simp only[sp]
    refine ec 7 ?_;refine ec 8 ?_;refine ec 9 ?_;try simp only[sp]
    refine ec 10 ?_;refine ec 11 ?_;refine ec 12 ?_;try simp only[sp]
    refine ec 13 ?_;refine ec 14 ?_;refine ec 15 ?_;try simp only[sp]
    refine ec 16 ?_;refine ec 17 ?_;refine ec 18 ?_;try simp only[sp]
    refine ec 19 ?_;refine ec 20 ?_;refine ec 21 ?_;try simp only[sp]
    refine ec 22 ?_;refine aF 23 ?_;try simp only[sp]
    refine wpAnyH_done (by kernel_rfl) ?_ _;refine NoPanic.normal ?_;go_wp2
    go_ret
    exact⟨⟨false,rfl,gZ (fun _ h=>by have:=h.1 k r hlt Hr.out;simp[ay.ok,hok]at this)⟩,af hB (af bD hb)⟩
   rcases Nat.eq_zero_or_pos k with hz|hz
   ·
    subst hz;go_wp2_with fail
    refine wp_region_noPanic ?_;refine wp_region_held_drew (S:=(fun w'=>Below wr.heap.size wr w'/\(vP w' b off r.c r.v r.h r.p r.s r.d r.g))) (by kernel_rfl) (tH Hr.out g1 z1 bD) (fun hHeld=>?_);refine aF 0 ?_;try simp only[sp]
    refine aF 1 ?_;try simp only[sp]
    refine aF 2 ?_;try simp only[sp]
    refine aF 3 ?_;try simp only[sp]
    refine dJ 4 (by kernel_rfl) rfl fun K hK=>?_
    go_simp
    refine(jl r.c r.h r.v r.p r.s r.d r.g _ hf.1 hf.2 true hok).mono ?_;rintro e w1 ⟨rfl,hb⟩;go_wp2_with fail
    refine hK.out _ _ (tH Hr.out g1 z1 (af bD hb)) (fun cq=>?_);clear hK K hHeld;try simp only[sp]
    refine aF 5 ?_;try simp only[sp]
    refine aF 6 ?_;try simp only[sp]
    refine aF 7 ?_;try simp only[sp]
    refine aF 8 ?_;try simp only[sp]
    refine aF 9 ?_;try simp only[sp]
    refine ec 10 ?_;refine ec 11 ?_;try simp only[sp]
    refine ec 12 ?_;refine ec 13 ?_;refine ec 14 ?_;try simp only[sp]
    refine ec 15 ?_;refine ec 16 ?_;refine ec 17 ?_;try simp only[sp]
    refine ec 18 ?_;refine ec 19 ?_;refine ec 20 ?_;try simp only[sp]
    refine ec 21 ?_;refine aF 22 ?_;try simp only[sp]
    refine aF 23 ?_;try simp only[sp]
    refine wpAnyH_done (by kernel_rfl) ?_ _;refine NoPanic.normal ?_;have bo:=af hB (af bD hb);go_wp2_with fail
    refine wp_loop_rounds 1 ?_;rw[rounds_succ];go_wp2
    exact⟨⟨1,by omega,by go_num,⟨Ha.out.1.step Hr.out (by simpa[ay.ok]using hok),Asc.one,Ha.out.2.2.step Hr.out (fun i q h=>by omega)⟩,bo⟩,by simp[intOf];omega⟩
   obtain⟨m,rfl⟩:∃m,k=m+1:=⟨k-1,by omega⟩
   obtain⟨q,hq⟩:∃q,ws[m]?=some q:=⟨ws[m],List.getElem?_eq_getElem (by omega)⟩
   have Hq:=ah hq;clear hq i0 i1 hz;have i0:(0:Int)<=(m:Int):=(by omega);have i1:(m:Int)+1<(ws.length:Int):=(by omega);have i2:(m:Int)<(ws.length:Int):=(by omega);have i3:(0:Int)<=(m:Int)+1:=(by omega);have iw:IntKind.i64.wrap (m:Int)=(m:Int):=(by rw[IntKind.wrap_i64];omega);cases hasc:Op.bytesLess q.c.toList r.c.toList
   ·
    go_wp2_with fail
    refine wp_region_noPanic ?_;refine wp_region_held_drew (S:=(fun w'=>Below wr.heap.size wr w'/\(vP w' b (off+(m+1)*7) r.c r.v r.h r.p r.s r.d r.g)/\w'.cell? ⟨b,off+m*7,none⟩=some (.string q.c))) (by kernel_rfl) (lC Hr.out Hq.out g1 z1 bD) (fun hHeld=>?_);refine aF 0 ?_;try simp only[sp]
    refine aF 1 ?_;try simp only[sp]
    refine aF 2 ?_;try simp only[sp]
    refine aF 3 ?_;try simp only[sp]
    refine dJ 4 (by kernel_rfl) rfl fun K hK=>?_
    go_simp
    refine(jl r.c r.h r.v r.p r.s r.d r.g _ hf.1 hf.2 true hok).mono ?_;rintro e w1 ⟨rfl,hb⟩;go_wp2_with fail
    refine hK.out _ _ (lC Hr.out Hq.out g1 z1 (af bD hb)) (fun cq=>?_);clear hK K hHeld;try simp only[sp]
    refine aF 5 ?_;try simp only[sp]
    refine aF 6 ?_;try simp only[sp]
    refine aF 7 ?_;try simp only[sp]
    refine aF 8 ?_;try simp only[sp]
    refine aF 9 ?_;try simp only[sp]
    refine aF 10 ?_;try simp only[sp]
    refine aF 11 ?_;try simp only[sp]
    refine aF 12 ?_;try simp only[sp]
    refine aF 13 ?_;try simp only[sp]
    refine aF 14 ?_;try simp only[sp]
    refine aF 15 ?_;try simp only[sp]
    refine aF 16 ?_;try simp only[sp]
    refine aF 17 ?_;try simp only[sp]
    refine aF 18 ?_;try simp only[sp]
    refine aF 19 ?_;try simp only[sp]
    refine aF 20 ?_;try simp only[sp]
    refine aF 21 ?_;try simp only[sp]
    refine aF 22 ?_;try simp only[sp]
    refine aF 23 ?_;try simp only[sp]
    refine wpAnyH_done (by kernel_rfl) ?_ _;refine NoPanic.normal ?_;go_wp2
    go_ret
    exact⟨⟨false,rfl,gZ (fun _ h=>by have:=h.2.1 m q r hlt Hq.out Hr.out;simp[qJ,hasc]at this)⟩,af hB (af bD hb)⟩
   go_wp2_with fail
   refine wp_region_noPanic ?_;refine wp_region_held_drew (S:=(fun w'=>Below wr.heap.size wr w'/\(vP w' b (off+(m+1)*7) r.c r.v r.h r.p r.s r.d r.g)/\w'.cell? ⟨b,off+m*7,none⟩=some (.string q.c))) (by kernel_rfl) (lC Hr.out Hq.out g1 z1 bD) (fun hHeld=>?_);refine aF 0 ?_;try simp only[sp]
   refine aF 1 ?_;try simp only[sp]
   refine aF 2 ?_;try simp only[sp]
   refine aF 3 ?_;try simp only[sp]
   refine dJ 4 (by kernel_rfl) rfl fun K hK=>?_
   go_simp
   refine(jl r.c r.h r.v r.p r.s r.d r.g _ hf.1 hf.2 true hok).mono ?_;rintro e w1 ⟨rfl,hb⟩;go_wp2_with fail
   refine hK.out _ _ (lC Hr.out Hq.out g1 z1 (af bD hb)) (fun cq=>?_);clear hK K hHeld;try simp only[sp]
   refine aF 5 ?_;try simp only[sp]
   refine aF 6 ?_;try simp only[sp]
   refine aF 7 ?_;try simp only[sp]
   refine aF 8 ?_;try simp only[sp]
   refine aF 9 ?_;try simp only[sp]
   refine aF 10 ?_;try simp only[sp]
   refine aF 11 ?_;try simp only[sp]
   refine aF 12 ?_;try simp only[sp]
   refine aF 13 ?_;try simp only[sp]
   refine aF 14 ?_;try simp only[sp]
   refine aF 15 ?_;try simp only[sp]
   refine aF 16 ?_;try simp only[sp]
   refine aF 17 ?_;try simp only[sp]
   refine aF 18 ?_;try simp only[sp]
   refine aF 19 ?_;try simp only[sp]
   refine aF 20 ?_;try simp only[sp]
   refine aF 21 ?_;try simp only[sp]
   refine aF 22 ?_;try simp only[sp]
   refine aF 23 ?_;try simp only[sp]
   refine wpAnyH_done (by kernel_rfl) ?_ _;refine NoPanic.normal ?_;have bo:=af hB (af bD hb);have g2:=hR.keep l1 bo;have z2:b<w1.heap.size:=Nat.lt_of_lt_of_le l1 bo.size;clear hB hb cq g1 z1 wr;go_wp2_with fail
   go_loopw [4] (fun j wx=>∃(n:Nat),n<=(m+1)/\j=.int .i64 n/\Hid (gE ws r n)/\Below w.heap.size w wx) (fun j _=>(m+1)-(intOf j).toNat)
   case atStart=>exact⟨0,Nat.zero_le _,rfl,fun i q h=>by omega,bo⟩
   obtain⟨n,hn,rfl,Hn,yH⟩:=hrel;by_cases hnl:n<(m+1)
   ·
    obtain⟨t,ht⟩:∃t,ws[n]?=some t:=⟨ws[n],List.getElem?_eq_getElem (by omega)⟩
    have Ht:=ah ht;clear ht;have g3:=hR.keep l1 yH;have z3:b<wr.heap.size:=Nat.lt_of_lt_of_le l1 yH.size;have j0:(0:Int)<=(n:Int):=(by omega);have j1:(n:Int)<(ws.length:Int):=(by omega);have j2:(n:Int)<(m:Int)+1:=(by omega);have cr:=wB Hr.out g3;have ct:=wB Ht.out g3;cases he:r.h.toList.isEmpty
    ·
     cases hcl:(t.h.toList==r.h.toList)
     ·
      go_wp2_with fail
      refine wp_region_noPanic ?_;refine wp_region_held_drew (S:=(fun w'=>w'.cell? ⟨b,off+(m+1)*7+2,none⟩=some (.string r.h)/\w'.cell? ⟨b,off+n*7+2,none⟩=some (.string t.h))) (by kernel_rfl) (⟨by go_simp,by go_simp⟩) (fun hHeld=>?_);refine aF 0 ?_;try simp only[sp]
      refine aF 1 ?_;try simp only[sp]
      refine aF 2 ?_;try simp only[sp]
      refine aF 3 ?_;try simp only[sp]
      refine aF 4 ?_;try simp only[sp]
      refine aF 5 ?_;try simp only[sp]
      refine aF 6 ?_;try simp only[sp]
      refine aF 7 ?_;try simp only[sp]
      refine aF 8 ?_;try simp only[sp]
      refine aF 9 ?_;try simp only[sp]
      refine aF 10 ?_;try simp only[sp]
      refine aF 11 ?_;try simp only[sp]
      refine aF 12 ?_;try simp only[sp]
      refine aF 13 ?_;try simp only[sp]
      refine aF 14 ?_;try simp only[sp]
      refine aF 15 ?_;try simp only[sp]
      refine aF 16 ?_;try simp only[sp]
      refine aF 17 ?_;try simp only[sp]
      refine aF 18 ?_;try simp only[sp]
      refine wpAnyH_done (by kernel_rfl) ?_ _;refine NoPanic.normal ?_;go_wp2
      exact⟨⟨n+1,by omega,by go_num,gE.step Hn.out Ht.out (by simp[clash,he,hcl]),au yH⟩,by simp[intOf];omega⟩
     go_wp2_with fail
     refine wp_region_noPanic ?_;refine wp_region_held_drew (S:=(fun w'=>w'.cell? ⟨b,off+(m+1)*7+2,none⟩=some (.string r.h)/\w'.cell? ⟨b,off+n*7+2,none⟩=some (.string t.h))) (by kernel_rfl) (⟨by go_simp,by go_simp⟩) (fun hHeld=>?_);refine aF 0 ?_;try simp only[sp]
     refine aF 1 ?_;try simp only[sp]
     refine aF 2 ?_;try simp only[sp]
     refine aF 3 ?_;try simp only[sp]
     refine aF 4 ?_;try simp only[sp]
     refine aF 5 ?_;try simp only[sp]
     refine aF 6 ?_;try simp only[sp]
     refine aF 7 ?_;try simp only[sp]
     refine aF 8 ?_;try simp only[sp]
     refine aF 9 ?_;try simp only[sp]
     refine aF 10 ?_;try simp only[sp]
     refine aF 11 ?_;try simp only[sp]
     refine aF 12 ?_;try simp only[sp]
     refine aF 13 ?_;try simp only[sp]
     refine aF 14 ?_;try simp only[sp]
     refine aF 15 ?_;try simp only[sp]
     refine aF 16 ?_;try simp only[sp]
     refine aF 17 ?_;try simp only[sp]
     refine aF 18 ?_;try simp only[sp]
     refine wpAnyH_done (by kernel_rfl) ?_ _;refine NoPanic.normal ?_;go_wp2
     go_ret
     exact⟨⟨false,rfl,gZ (fun _ h=>by have:=h.2.2 _ r hlt Hr.out n t hnl Ht.out;simp[clash,he,hcl]at this)⟩,au yH⟩
    go_wp2_with fail
    refine wp_region_noPanic ?_;refine wp_region_held_drew (S:=(fun w'=>w'.cell? ⟨b,off+(m+1)*7+2,none⟩=some (.string r.h)/\w'.cell? ⟨b,off+n*7+2,none⟩=some (.string t.h))) (by kernel_rfl) (⟨by go_simp,by go_simp⟩) (fun hHeld=>?_);refine aF 0 ?_;try simp only[sp]
    refine aF 1 ?_;try simp only[sp]
    refine aF 2 ?_;try simp only[sp]
    refine aF 3 ?_;try simp only[sp]
    refine aF 4 ?_;try simp only[sp]
    refine aF 5 ?_;try simp only[sp]
    refine aF 6 ?_;try simp only[sp]
    refine ec 7 ?_;refine ec 8 ?_;try simp only[sp]
    refine ec 9 ?_;refine ec 10 ?_;refine ec 11 ?_;try simp only[sp]
    refine ec 12 ?_;refine ec 13 ?_;refine ec 14 ?_;try simp only[sp]
    refine ec 15 ?_;refine ec 16 ?_;refine ec 17 ?_;try simp only[sp]
    refine aF 18 ?_;try simp only[sp]
    refine wpAnyH_done (by kernel_rfl) ?_ _;refine NoPanic.normal ?_;go_wp2
    exact⟨⟨n+1,by omega,by go_num,gE.step Hn.out Ht.out (by simp[clash,he]),au yH⟩,by simp[intOf];omega⟩
   have hne:n=(m+1):=(by omega);subst hne;go_wp2
   exact⟨⟨m+1+1,by omega,by go_num,⟨Ha.out.1.step Hr.out (by simpa[ay.ok]using hok),Ha.out.2.1.step Hq.out Hr.out (by simpa[qJ]using hasc),Ha.out.2.2.step Hr.out Hn.out⟩,yH⟩,by simp[intOf];omega⟩
  go_wp2
  go_ret
  exact⟨⟨true,rfl,tq Ha.out (by omega) (by omega)⟩,hB⟩
end Go.Proofs.YtlfnpjcjapljpaaGreatDoor.W
namespace Go.Proofs.YtlfnpjcjapljpaaGreatDoor
open Go.RowKit
set_option linter.unusedVariables false
structure OD where
 k:Int
 b:ByteArray
 se:Int
 ws:List W.ay
 h:ByteArray
 c:ByteArray
 t:Int
structure zV(P:OD):Prop where
 b:P.b.size<=1048576
 h:P.h.size<=1048576
 c:P.c.size<=1048576
 l:P.ws.length<=1048576
open Go.Proofs.Tryz
set_option maxRecDepth 4000
set_option maxHeartbeats 2000000
def OE(n:Nat):Value:=.func (.func n) #[] #[]
def pO(k:Int)(w:ByteArray)(f1 f2 f3:Nat):List Value:=[.int .i64 k,.string w,OE f1,OE f2,OE f3]
def Gp:List Value:=pO 1 {data:=#[116,111,108,100]} 133 134 135++pO 2 {data:=#[97,115,107,101,100]} 136 137 138++pO 3 {data:=#[103,105,118,101,110]} 136 137 138++pO 4 {data:=#[98,97,99,107]} 136 137 138++pO 5 {data:=#[103,111,116,98,97,99,107]} 139 140 141++pO 6 {data:=#[104,101,114,101]} 142 134 135
def kE:Array Value:=Gp.toArray
theorem ig(w:World):Calls prog 98 #[] w fun e w'=>e=.returned (.slice (some ⟨w.heap.size,0,none⟩) 6 6)/\w'=w.alloc (.cells kE 82):=by
 go_enter func98,ntmps98
 go_wp2
 go_ret
 exact⟨rfl,rfl⟩
end Go.Proofs.YtlfnpjcjapljpaaGreatDoor
