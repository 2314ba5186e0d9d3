import Derived.Test.YtlfnpjcjapljpaaGreatDoorJ05
import Derived.Test.YtlfnpjcjapljpaaGreatDoorJ06
import Derived.Test.YtlfnpjcjapljpaaGreatDoorJ09
namespace Go.Proofs.YtlfnpjcjapljpaaGreatDoor
open Go.RowKit
set_option linter.unusedVariables false
def aw.ok(clock:Int)(r:aw):Bool:=eL r.c r.h r.v r.p r.s r.d r.g r.a r.b r.i r.u clock
def qJ(q r:aw):Bool:=Op.bytesLess q.c.toList r.c.toList
def eI(clock:Int)(rs:List aw)(j:Nat)(r:aw):Bool:=r.ok clock&&(match j with|0=>true|i+1=>match rs[i]? with|some q=>qJ q r|none=>true)
def dW(clock:Int)(rs:List aw)(n:Nat):Prop:=∀j r,j<n->rs[j]?=some r->eI clock rs j r=true
theorem dW.step{clock:Int}{rs:List aw}{k:Nat}{r:aw}(h:dW clock rs k)(hr:rs[k]?=some r)(hs:eI clock rs k r=true):dW clock rs (k+1):=by
 intro j q hj hq;by_cases e:j=k;·subst e;rw[hr]at hq;cases hq;exact hs
 exact h j q (by omega) hq
theorem dW.not{clock:Int}{rs:List aw}{k:Nat}{r:aw}(hlt:k<rs.length)(hr:rs[k]?=some r)(hs:eI clock rs k r=false):(false=true↔rs.length<=20/\dW clock rs rs.length):=by
 constructor;·intro h;cases h
 intro h;have:=h.2 k r hlt hr;rw[hs]at this;cases this
theorem dW.yes{clock:Int}{rs:List aw}{k:Nat}(h:dW clock rs k)(hk:rs.length<=k)(h20:rs.length<=20):(true=true↔rs.length<=20/\dW clock rs rs.length):=
 ⟨fun _=>⟨h20,fun j r hj hr=>h j r (by omega) hr⟩,fun _=>rfl⟩
theorem dW.many{clock:Int}{rs:List aw}(h20:20<rs.length):(false=true↔rs.length<=20/\dW clock rs rs.length):=
 ⟨fun h=>(by cases h),fun h=>(by omega)⟩
theorem ob{x w':World}{b off k:Nat}{rs:List aw}{r:aw}(hk:rs[k]?=some r)(h1:aG x b off rs)(l1:b<x.heap.size)(hb:Below x.heap.size x w'):
  Below x.heap.size x w'/\(oN w' b (off+k*11) r.c r.v r.h r.p r.s r.d r.g r.a r.b r.i r.u):=⟨hb,(h1.keep l1 hb).at hk⟩
theorem lC{x w':World}{b off k:Nat}{rs:List aw}{r q:aw}(hk:rs[k+1]?=some r)(hq:rs[k]?=some q)(h1:aG x b off rs)(l1:b<x.heap.size)(hb:Below x.heap.size x w'):
  Below x.heap.size x w'/\(oN w' b (off+(k+1)*11) r.c r.v r.h r.p r.s r.d r.g r.a r.b r.i r.u)/\w'.cell? ⟨b,off+k*11,none⟩=some (.string q.c):=⟨hb,(h1.keep l1 hb).at hk,((h1.keep l1 hb).at hq).1⟩
theorem tH{x w':World}{b off:Nat}{rs:List aw}{r:aw}(hk:rs[0]?=some r)(h1:aG x b off rs)(l1:b<x.heap.size)(hb:Below x.heap.size x w'):
  Below x.heap.size x w'/\(oN w' b off r.c r.v r.h r.p r.s r.d r.g r.a r.b r.i r.u):=by
 have:=ob (k:=0) hk h1 l1 hb;simpa using this
open Go.Proofs.Tryz
set_option maxHeartbeats 2000000
theorem g7(c h:ByteArray)(v p s d g a b i u clock:Int)(w:World)(hc:c.size<=maxLen)(hh:h.size<=maxLen)(q:Bool)(hq:eL c h v p s d g a b i u clock=q):
  Calls prog 87 #[.agg (aL c v h p s d g a b i u),.int .i64 clock] w fun e w'=>e=.returned (.bool q)/\Below w.heap.size w w':=by
 rw[<-hq];exact fC c h v p s d g a b i u clock w hc hh
theorem vk(b off cap:Nat)(rs:List aw)(clock:Int)(w:World)(hR:aG w b off rs)(l1:b<w.heap.size)(hfit:∀r∈rs,r.fits)(hl:rs.length<=1048576):
  Calls prog 39 #[.slice (some ⟨b,off,none⟩) rs.length cap,.int .i64 clock] w fun e w'=>(∃q:Bool,e=.returned (.bool q)/\(q=true↔rs.length<=20/\dW clock rs rs.length))/\Below w.heap.size w w':=by
 by_cases h20:20<rs.length
 ·
  go_enter func39,ntmps39
  go_wp2
  go_ret
  exact⟨⟨false,rfl,dW.many h20⟩,Below.refl _ _⟩
 go_enter func39,ntmps39
 go_wp2
 go_loopw [5] (fun i wx=>∃(k:Nat),k<=rs.length/\i=.int .i64 k/\Hid (dW clock rs k)/\Below w.heap.size w wx) (fun i _=>rs.length-(intOf i).toNat)
 case atStart=>exact⟨0,Nat.zero_le _,rfl,fun j r h=>by omega,Below.refl _ _⟩
 case round=>
  obtain⟨k,hk,rfl,Ha,hB⟩:=hrel;by_cases hlt:k<rs.length
  ·
   obtain⟨r,hr⟩:∃r,rs[k]?=some r:=⟨rs[k],List.getElem?_eq_getElem hlt⟩
   have Hr:=ah hr;have hf:r.fits:=hfit r (List.mem_of_getElem? hr);clear hr;have g1:=hR.keep l1 hB;have z1:b<wr.heap.size:=Nat.lt_of_lt_of_le l1 hB.size;have i0:(0:Int)<=(k:Int):=(by omega);have i1:(k:Int)<(rs.length:Int):=(by omega);cases hok:eL r.c r.h r.v r.p r.s r.d r.g r.a r.b r.i r.u clock
   ·
    go_wp2_with fail
    refine wp_region_noPanic ?_;refine wp_region_held_drew (S:=(fun w'=>Below wr.heap.size wr w'/\(oN w' b (off+k*11) r.c r.v r.h r.p r.s r.d r.g r.a r.b r.i r.u))) (by kernel_rfl) (ob Hr.out g1 z1 bD) (fun hHeld=>?_);refine aF 0 ?_;try simp only[sp]
    refine aF 1 ?_;try simp only[sp]
    refine aF 2 ?_;try simp only[sp]
    refine aF 3 ?_;try simp only[sp]
    refine aF 4 ?_;try simp only[sp]
    refine dJ 5 (by kernel_rfl) rfl fun K hK=>?_
    go_simp
    refine(g7 r.c r.h r.v r.p r.s r.d r.g r.a r.b r.i r.u clock _ hf.1 hf.2.1 false hok).mono ?_;rintro e w1 ⟨rfl,hb⟩;go_wp2_with fail
    refine hK.out _ _ (ob Hr.out g1 z1 (af bD hb)) (fun cq=>?_);clear hK K hHeld;try simp only[sp]
    refine aF 6 ?_;try simp only[sp]
    refine aF 7 ?_;try simp only[sp]
    refine ec 8 ?_;refine ec 9 ?_;refine ec 10 ?_;try simp only[sp]
    refine ec 11 ?_;refine ec 12 ?_;refine ec 13 ?_;try simp only[sp]
    refine ec 14 ?_;refine ec 15 ?_;refine ec 16 ?_;try simp only[sp]
    refine ec 17 ?_;refine ec 18 ?_;refine ec 19 ?_;try simp only[sp]
    refine ec 20 ?_;refine ec 21 ?_;refine ec 22 ?_;try simp only[sp]
    refine ec 23 ?_;refine ec 24 ?_;refine ec 25 ?_;try simp only[sp]
    refine aF 26 ?_;try simp only[sp]
    refine wpAnyH_done (by kernel_rfl) ?_ _;refine NoPanic.normal ?_;go_wp2
    go_ret
    exact⟨⟨false,rfl,dW.not hlt Hr.out (by simp[eI,aw.ok,hok])⟩,af hB (af bD hb)⟩
   rcases Nat.eq_zero_or_pos k with hz|hz
   ·
    subst hz;go_wp2_with fail
    refine wp_region_noPanic ?_;refine wp_region_held_drew (S:=(fun w'=>Below wr.heap.size wr w'/\(oN w' b off r.c r.v r.h r.p r.s r.d r.g r.a r.b r.i r.u))) (by kernel_rfl) (tH Hr.out g1 z1 bD) (fun hHeld=>?_);refine aF 0 ?_;try simp only[sp]
    refine aF 1 ?_;try simp only[sp]
    refine aF 2 ?_;try simp only[sp]
    refine aF 3 ?_;try simp only[sp]
    refine aF 4 ?_;try simp only[sp]
    refine dJ 5 (by kernel_rfl) rfl fun K hK=>?_
    go_simp
    refine(g7 r.c r.h r.v r.p r.s r.d r.g r.a r.b r.i r.u clock _ hf.1 hf.2.1 true hok).mono ?_;rintro e w1 ⟨rfl,hb⟩;go_wp2_with fail
    refine hK.out _ _ (tH Hr.out g1 z1 (af bD hb)) (fun cq=>?_);clear hK K hHeld;try simp only[sp]
    refine aF 6 ?_;try simp only[sp]
    refine aF 7 ?_;try simp only[sp]
    refine aF 8 ?_;try simp only[sp]
    refine aF 9 ?_;try simp only[sp]
    refine aF 10 ?_;try simp only[sp]
    refine ec 11 ?_;refine ec 12 ?_;refine ec 13 ?_;try simp only[sp]
    refine ec 14 ?_;refine ec 15 ?_;refine ec 16 ?_;try simp only[sp]
    refine ec 17 ?_;refine ec 18 ?_;refine ec 19 ?_;try simp only[sp]
    refine ec 20 ?_;refine ec 21 ?_;refine ec 22 ?_;try simp only[sp]
    refine ec 23 ?_;refine ec 24 ?_;refine aF 25 ?_;try simp only[sp]
    refine aF 26 ?_;try simp only[sp]
    refine wpAnyH_done (by kernel_rfl) ?_ _;refine NoPanic.normal ?_;go_wp2
    exact⟨⟨1,by omega,by go_num,dW.step Ha.out Hr.out (by simp[eI,aw.ok,hok]),af hB (af bD hb)⟩,by simp[intOf];omega⟩
   obtain⟨m,rfl⟩:∃m,k=m+1:=⟨k-1,by omega⟩
   obtain⟨q,hq⟩:∃q,rs[m]?=some q:=⟨rs[m],List.getElem?_eq_getElem (by omega)⟩
   have Hq:=ah hq;clear hq i0 i1 hz;have i0:(0:Int)<=(m:Int):=(by omega);have i1:(m:Int)+1<(rs.length:Int):=(by omega);have i2:(m:Int)<(rs.length:Int):=(by omega);have i3:(0:Int)<=(m:Int)+1:=(by omega);have iw:IntKind.i64.wrap (m:Int)=(m:Int):=(by rw[IntKind.wrap_i64];omega);cases hasc:Op.bytesLess q.c.toList r.c.toList
   ·
    go_wp2_with fail
    refine wp_region_noPanic ?_;refine wp_region_held_drew (S:=(fun w'=>Below wr.heap.size wr w'/\(oN w' b (off+(m+1)*11) r.c r.v r.h r.p r.s r.d r.g r.a r.b r.i r.u)/\w'.cell? ⟨b,off+m*11,none⟩=some (.string q.c))) (by kernel_rfl) (lC Hr.out Hq.out g1 z1 bD) (fun hHeld=>?_);refine aF 0 ?_;try simp only[sp]
    refine aF 1 ?_;try simp only[sp]
    refine aF 2 ?_;try simp only[sp]
    refine aF 3 ?_;try simp only[sp]
    refine aF 4 ?_;try simp only[sp]
    refine dJ 5 (by kernel_rfl) rfl fun K hK=>?_
    go_simp
    refine(g7 r.c r.h r.v r.p r.s r.d r.g r.a r.b r.i r.u clock _ hf.1 hf.2.1 true hok).mono ?_;rintro e w1 ⟨rfl,hb⟩;go_wp2_with fail
    refine hK.out _ _ (lC Hr.out Hq.out g1 z1 (af bD hb)) (fun cq=>?_);clear hK K hHeld;try simp only[sp]
    refine aF 6 ?_;try simp only[sp]
    refine aF 7 ?_;try simp only[sp]
    refine aF 8 ?_;try simp only[sp]
    refine aF 9 ?_;try simp only[sp]
    refine aF 10 ?_;try simp only[sp]
    refine aF 11 ?_;try simp only[sp]
    refine aF 12 ?_;try simp only[sp]
    refine aF 13 ?_;try simp only[sp]
    refine aF 14 ?_;try simp only[sp]
    refine aF 15 ?_;try simp only[sp]
    refine aF 16 ?_;try simp only[sp]
    refine aF 17 ?_;try simp only[sp]
    refine aF 18 ?_;try simp only[sp]
    refine aF 19 ?_;try simp only[sp]
    refine aF 20 ?_;try simp only[sp]
    refine aF 21 ?_;try simp only[sp]
    refine aF 22 ?_;try simp only[sp]
    refine aF 23 ?_;try simp only[sp]
    refine aF 24 ?_;try simp only[sp]
    refine aF 25 ?_;try simp only[sp]
    refine aF 26 ?_;try simp only[sp]
    refine wpAnyH_done (by kernel_rfl) ?_ _;refine NoPanic.normal ?_;go_wp2
    go_ret
    exact⟨⟨false,rfl,dW.not hlt Hr.out (by simp[eI,Hq.out,qJ,hasc])⟩,af hB (af bD hb)⟩
   go_wp2_with fail
   refine wp_region_noPanic ?_;refine wp_region_held_drew (S:=(fun w'=>Below wr.heap.size wr w'/\(oN w' b (off+(m+1)*11) r.c r.v r.h r.p r.s r.d r.g r.a r.b r.i r.u)/\w'.cell? ⟨b,off+m*11,none⟩=some (.string q.c))) (by kernel_rfl) (lC Hr.out Hq.out g1 z1 bD) (fun hHeld=>?_);refine aF 0 ?_;try simp only[sp]
   refine aF 1 ?_;try simp only[sp]
   refine aF 2 ?_;try simp only[sp]
   refine aF 3 ?_;try simp only[sp]
   refine aF 4 ?_;try simp only[sp]
   refine dJ 5 (by kernel_rfl) rfl fun K hK=>?_
   go_simp
   refine(g7 r.c r.h r.v r.p r.s r.d r.g r.a r.b r.i r.u clock _ hf.1 hf.2.1 true hok).mono ?_;rintro e w1 ⟨rfl,hb⟩;go_wp2_with fail
   refine hK.out _ _ (lC Hr.out Hq.out g1 z1 (af bD hb)) (fun cq=>?_);clear hK K hHeld;try simp only[sp]
   refine aF 6 ?_;try simp only[sp]
   refine aF 7 ?_;try simp only[sp]
   refine aF 8 ?_;try simp only[sp]
   refine aF 9 ?_;try simp only[sp]
   refine aF 10 ?_;try simp only[sp]
   refine aF 11 ?_;try simp only[sp]
   refine aF 12 ?_;try simp only[sp]
   refine aF 13 ?_;try simp only[sp]
   refine aF 14 ?_;try simp only[sp]
   refine aF 15 ?_;try simp only[sp]
   refine aF 16 ?_;try simp only[sp]
   refine aF 17 ?_;try simp only[sp]
   refine aF 18 ?_;try simp only[sp]
   refine aF 19 ?_;try simp only[sp]
   refine aF 20 ?_;try simp only[sp]
   refine aF 21 ?_;try simp only[sp]
   refine aF 22 ?_;try simp only[sp]
   refine aF 23 ?_;try simp only[sp]
   refine aF 24 ?_;try simp only[sp]
   refine aF 25 ?_;try simp only[sp]
   refine aF 26 ?_;try simp only[sp]
   refine wpAnyH_done (by kernel_rfl) ?_ _;refine NoPanic.normal ?_;go_wp2
   exact⟨⟨m+1+1,by omega,by go_num,dW.step Ha.out Hr.out (by simp[eI,aw.ok,hok,Hq.out,qJ,hasc]),af hB (af bD hb)⟩,by simp[intOf];omega⟩
  go_wp2
  go_ret
  exact⟨⟨true,rfl,dW.yes Ha.out (by omega) (by omega)⟩,hB⟩
structure aj where
 nm:ByteArray
 up:Bool
 ck:Int
 kn:Bool
 se:Int
 ws:List W.ay
 rs:List aw
 qs:List A.aC
 gs:List A.aC
structure aj.fits(m:aj):Prop where
 n:m.nm.size<=maxLen
 f1:∀r∈m.ws,r.fits
 f2:∀r∈m.rs,r.fits
 f3:∀r∈m.qs,r.fits
 f4:∀r∈m.gs,r.fits
 k1:m.ws.length<=1048576
 k2:m.rs.length<=1048576
 k3:m.qs.length<=1048576
 k4:m.gs.length<=1048576
def cV(m:aj):Bool:=cF m.nm&&(cA m.ck 0 1000000&&cA m.se 0 1000000)
def tF(m:aj):Prop:=m.ws.length<=10/\W.sG m.ws m.ws.length
def wi(m:aj):Prop:=m.rs.length<=20/\dW m.ck m.rs m.rs.length
def ml(c:Int)(l:List A.aC):Prop:=l.length<=40/\(A.fh l l.length/\∀r∈l,A.dR c r=true)
def dL(r:aw):Bool:=bq r.a||!r.h.toList.isEmpty
def jO(m:aj):Prop:=m.kn=false/\m.se=0/\m.ws.length+m.qs.length+m.gs.length=0/\∀r∈m.rs,dL r=true
def Valid(m:aj):Prop:=cV m=true/\(tF m/\(m.kn=true\/m.ws.length=0))/\wi m/\(ml m.ck m.qs/\ml m.ck m.gs)/\(∀r∈m.qs,¬A.jt m.gs r.h)/\(m.up=true\/jO m)
abbrev kg(m:aj)(a b c d:Option Addr)(e f g h:Nat):List Value:=[.string m.nm,.bool m.up,.int .i64 m.ck,.bool m.kn,.int .i64 m.se,.slice a m.ws.length e,.slice b m.rs.length f,.slice c m.qs.length g,.slice d m.gs.length h]
abbrev bK(m:aj)(a b c d:Option Addr)(e f g h:Nat):Array Value:=#[.string m.nm,.bool m.up,.int .i64 m.ck,.bool m.kn,.int .i64 m.se,.slice a m.ws.length e,.slice b m.rs.length f,.slice c m.qs.length g,.slice d m.gs.length h]
structure dI(w:World)(m:aj)(s1 s2 s3 s4:Value)(B:Nat):Prop where
 a1:W.Sl w s1 m.ws B
 a2:Sl w s2 m.rs B
 a3:A.Sl w s3 m.qs B
 a4:A.Sl w s4 m.gs B
 gR:eh s1 s2
 im:eh s1 s3
 iq:eh s1 s4
 iu:eh s2 s3
 iV:eh s2 s4
 jo:eh s3 s4
theorem dI.keep{w w':World}{m:aj}{s1 s2 s3 s4:Value}{B:Nat}(h:dI w m s1 s2 s3 s4 B)(hb:Below w.heap.size w w'):dI w' m s1 s2 s3 s4 B:=
 ⟨h.a1.keep hb,h.a2.keep hb,h.a3.keep hb,h.a4.keep hb,h.gR,h.im,h.iq,h.iu,h.iV,h.jo⟩
theorem dI.lt{w:World}{m:aj}{s1 s2 s3 s4:Value}{B:Nat}(h:dI w m s1 s2 s3 s4 B):∀j,(s1.ownBlock=some j\/s2.ownBlock=some j\/s3.ownBlock=some j\/s4.ownBlock=some j)->j<w.heap.size:=by
 rintro j (e|e|e|e);·exact(h.a1.lt j e).2
 ·exact(h.a2.lt j e).2
 ·exact(h.a3.lt j e).2
 exact(h.a4.lt j e).2
theorem dI.ge{w:World}{m:aj}{s1 s2 s3 s4:Value}{B:Nat}(h:dI w m s1 s2 s3 s4 B):∀j,(s1.ownBlock=some j\/s2.ownBlock=some j\/s3.ownBlock=some j\/s4.ownBlock=some j)->B<=j:=by
 rintro j (e|e|e|e);·exact(h.a1.lt j e).1
 ·exact(h.a2.lt j e).1
 ·exact(h.a3.lt j e).1
 exact(h.a4.lt j e).1
theorem dI.Dd{w w':World}{m:aj}{s1 s2 s3 s4:Value}{B:Nat}{l:List aw}(h:dI w m s1 s2 s3 s4 B)(r:Sl w' s2 l B)(g:w.grownBy w' s2.ownBlock):dI w' {m with rs:=l} s1 s2 s3 s4 B:=
 ⟨h.a1.grown g h.gR,r,h.a3.grown g h.iu.symm,h.a4.grown g h.iV.symm,h.gR,h.im,h.iq,h.iu,h.iV,h.jo⟩
structure Lens(m:aj):Prop where
 k1:m.ws.length<=1048576
 k2:m.rs.length<=1048576
 k3:m.qs.length<=1048576
 k4:m.gs.length<=1048576
set_option maxRecDepth 4000
theorem sE(bk:Nat)(P:aw->Bool)(b off cap:Nat)(rs:List aw)(w:World)(hR:aG w b off rs)(l1:b<w.heap.size)(hl:rs.length<=1048576)
  (hF:∀r∈rs,∀x,Below w.heap.size w x->Calls prog 128 #[.agg (aL r.c r.v r.h r.p r.s r.d r.g r.a r.b r.i r.u),.pointer (some ⟨bk,0,none⟩)] x fun e x'=>e=.returned (.bool (P r))/\Below x.heap.size x x'):
  Calls prog 95 #[.slice (some ⟨b,off,none⟩) rs.length cap,.func (.func 128) #[] #[.pointer (some ⟨bk,0,none⟩)]] w fun e w'=>(∃q:Bool,e=.returned (.bool q)/\(q=true↔∀r∈rs,P r=true))/\Below w.heap.size w w':=by
 have HF:=ah hF;clear hF;go_enter func95,ntmps95
 go_wp2
 go_loopw [9] (fun i wx=>∃(k:Nat),k<=rs.length/\i=.int .i64 k/\Hid (∀j r,j<k->rs[j]?=some r->P r=true)/\Below w.heap.size w wx) (fun i _=>rs.length-(intOf i).toNat)
 case atStart=>exact⟨0,Nat.zero_le _,rfl,fun j r h=>by omega,Below.refl _ _⟩
 case round=>
  obtain⟨k,hk,rfl,Ha,hB⟩:=hrel;by_cases hlt:k<rs.length
  ·
   obtain⟨r,hr⟩:∃r,rs[k]?=some r:=⟨rs[k],List.getElem?_eq_getElem hlt⟩
   have Hr:=ah hr;clear hr;obtain⟨c0,c1,c2,c3,c4,c5,c6,c7,c8,c9,c10⟩:=(hR.keep l1 hB).at Hr.out;go_wp2_with fail
   refine(HF.out r (List.mem_of_getElem? Hr.out) _ (ae hB _)).mono ?_;rintro e w1 ⟨rfl,hb⟩;have hB1:=af (ae hB _) hb;have Hb1:=ah hB1;clear hB hb hB1;cases hP:P r
   ·
    go_wp2
    go_ret
    exact⟨⟨false,rfl,⟨fun h=>(by cases h),fun h=>by have:=h r (List.mem_of_getElem? Hr.out);rw[hP]at this;cases this⟩⟩,Hb1.out⟩
   go_wp2
   exact⟨⟨k+1,by omega,by go_num,(fun j q hj hq=>by
    by_cases e:j=k;·subst e;have hh:=Hr.out;rw[hh]at hq;cases hq;exact hP
    exact Ha.out j q (by omega) hq),Hb1.out⟩,by simp[intOf];omega⟩
  go_wp2
  go_ret
  exact⟨⟨true,rfl,⟨fun _ r hr=>by obtain⟨j,hj⟩:=List.getElem?_of_mem hr;have hjl:j<rs.length:=(List.getElem?_eq_some_iff.1 hj).1;exact Ha.out j r (by omega) hj,fun _=>rfl⟩⟩,hB⟩
theorem CW(P:aw->Bool)(b off cap:Nat)(rs:List aw)(w:World)(hR:aG w b off rs)(l1:b<w.heap.size)(hl:rs.length<=1048576)
  (hF:∀r∈rs,∀x,Below w.heap.size w x->Calls prog 96 #[.agg (aL r.c r.v r.h r.p r.s r.d r.g r.a r.b r.i r.u)] x fun e x'=>e=.returned (.bool (P r))/\Below x.heap.size x x'):
  Calls prog 95 #[.slice (some ⟨b,off,none⟩) rs.length cap,.func (.func 96) #[] #[]] w fun e w'=>(∃q:Bool,e=.returned (.bool q)/\(q=true↔∀r∈rs,P r=true))/\Below w.heap.size w w':=by
 have HF:=ah hF;clear hF;go_enter func95,ntmps95
 go_wp2
 go_loopw [9] (fun i wx=>∃(k:Nat),k<=rs.length/\i=.int .i64 k/\Hid (∀j r,j<k->rs[j]?=some r->P r=true)/\Below w.heap.size w wx) (fun i _=>rs.length-(intOf i).toNat)
 case atStart=>exact⟨0,Nat.zero_le _,rfl,fun j r h=>by omega,Below.refl _ _⟩
 case round=>
  obtain⟨k,hk,rfl,Ha,hB⟩:=hrel;by_cases hlt:k<rs.length
  ·
   obtain⟨r,hr⟩:∃r,rs[k]?=some r:=⟨rs[k],List.getElem?_eq_getElem hlt⟩
   have Hr:=ah hr;clear hr;obtain⟨c0,c1,c2,c3,c4,c5,c6,c7,c8,c9,c10⟩:=(hR.keep l1 hB).at Hr.out;go_wp2_with fail
   refine(HF.out r (List.mem_of_getElem? Hr.out) _ (ae hB _)).mono ?_;rintro e w1 ⟨rfl,hb⟩;have hB1:=af (ae hB _) hb;have Hb1:=ah hB1;clear hB hb hB1;cases hP:P r
   ·
    go_wp2
    go_ret
    exact⟨⟨false,rfl,⟨fun h=>(by cases h),fun h=>by have:=h r (List.mem_of_getElem? Hr.out);rw[hP]at this;cases this⟩⟩,Hb1.out⟩
   go_wp2
   exact⟨⟨k+1,by omega,by go_num,(fun j q hj hq=>by
    by_cases e:j=k;·subst e;have hh:=Hr.out;rw[hh]at hq;cases hq;exact hP
    exact Ha.out j q (by omega) hq),Hb1.out⟩,by simp[intOf];omega⟩
  go_wp2
  go_ret
  exact⟨⟨true,rfl,⟨fun _ r hr=>by obtain⟨j,hj⟩:=List.getElem?_of_mem hr;have hjl:j<rs.length:=(List.getElem?_eq_some_iff.1 hj).1;exact Ha.out j r (by omega) hj,fun _=>rfl⟩⟩,hB⟩
theorem cM(r:aw)(w:World):
  Calls prog 72 #[.agg (aL r.c r.v r.h r.p r.s r.d r.g r.a r.b r.i r.u)] w fun e w'=>e=.returned (.string r.c)/\Below w.heap.size w w':=by
 go_enter func72,ntmps72
 go_wp2
 go_ret
 exact⟨rfl,by repeat (first|exact bR|refine ae ?_ _)⟩
def fh(rs:List aw)(n:Nat):Prop:=∀j q r,j+1<n->rs[j]?=some q->rs[j+1]?=some r->Op.bytesLess q.c.toList r.c.toList=true
theorem fh.step{rs:List aw}{k:Nat}{q r:aw}(h:fh rs (k+1))(hq:rs[k]?=some q)(hr:rs[k+1]?=some r)(hs:Op.bytesLess q.c.toList r.c.toList=true):fh rs (k+1+1):=by
 intro j q' r' hj hq' hr';by_cases e:j=k;·subst e;rw[hq]at hq';rw[hr]at hr';cases hq';cases hr';exact hs
 exact h j q' r' (by omega) hq' hr'
theorem cY{x w':World}{b off m:Nat}{rs:List aw}{r q:aw}(hk:rs[m+1]?=some r)(hq:rs[m]?=some q)(h1:aG x b off rs)(l1:b<x.heap.size)(hb:Below x.heap.size x w'):
  Below x.heap.size x w'/\(oN w' b (off+(m+1)*11) r.c r.v r.h r.p r.s r.d r.g r.a r.b r.i r.u)/\(oN w' b (off+m*11) q.c q.v q.h q.p q.s q.d q.g q.a q.b q.i q.u):=⟨hb,(h1.keep l1 hb).at hk,(h1.keep l1 hb).at hq⟩
theorem iX(b off cap:Nat)(rs:List aw)(w:World)(hR:aG w b off rs)(l1:b<w.heap.size)(hl:rs.length<=1048576):
  Calls prog 127 #[.slice (some ⟨b,off,none⟩) rs.length cap,.func (.func 72) #[] #[]] w fun e w'=>(∃q:Bool,e=.returned (.bool q)/\(q=true↔fh rs rs.length))/\Below w.heap.size w w':=by
 go_enter func127,ntmps127
 go_wp2
 go_loopw [5] (fun i wx=>∃(m:Nat),m<=rs.length/\i=.int .i64 ((m:Int)+1)/\Hid (fh rs (m+1))/\Below w.heap.size w wx) (fun i _=>rs.length+1-(intOf i).toNat)
 case atStart=>exact⟨0,Nat.zero_le _,rfl,(fun j q r hj _ _=>by omega),Below.refl _ _⟩
 case round=>
  obtain⟨m,hk,rfl,Ha,hB⟩:=hrel;by_cases hlt:m+1<rs.length
  ·
   obtain⟨r,hr⟩:∃r,rs[m+1]?=some r:=⟨rs[m+1],List.getElem?_eq_getElem hlt⟩
   obtain⟨q,hq⟩:∃q,rs[m]?=some q:=⟨rs[m],List.getElem?_eq_getElem (by omega)⟩
   have Hr:=ah hr;have Hq:=ah hq;clear hr hq;have g1:=hR.keep l1 hB;have z1:b<wr.heap.size:=Nat.lt_of_lt_of_le l1 hB.size;have i0:(0:Int)<=(m:Int):=(by omega);have i1:(m:Int)+1<(rs.length:Int):=(by omega);have i2:(m:Int)<(rs.length:Int):=(by omega);have i3:(0:Int)<=(m:Int)+1:=(by omega);have iw:IntKind.i64.wrap (m:Int)=(m:Int):=(by rw[IntKind.wrap_i64];omega);cases hasc:Op.bytesLess q.c.toList r.c.toList
   ·
    go_wp2_with fail
    go_region_held3 (fun w'=>Below wr.heap.size wr w'/\(oN w' b (off+(m+1)*11) r.c r.v r.h r.p r.s r.d r.g r.a r.b r.i r.u)/\(oN w' b (off+m*11) q.c q.v q.h q.p q.s q.d q.g q.a q.b q.i q.u))
     (first|exact cY Hr.out Hq.out g1 z1 bD|exact cY Hr.out Hq.out g1 z1 (af bD hx)|exact cY Hr.out Hq.out g1 z1 (af (af bD hx) hy))
     (first|(go_at_call 72;refine(cM q _).mono ?_;rintro e w' ⟨rfl,hx⟩)|(go_at_call 72;refine(cM r _).mono ?_;rintro e w'' ⟨rfl,hy⟩))
    have y1:=af (af (au (Below.refl _ wr)) hx) hy;have Hb1:=ah (af hB y1);clear hx hy y1 hB g1;go_wp2
    go_ret
    exact⟨⟨false,rfl,⟨fun h=>(by cases h),fun h=>by have:=h m q r (by omega) Hq.out Hr.out;rw[hasc]at this;cases this⟩⟩,Hb1.out⟩
   go_wp2_with fail
   go_region_held3 (fun w'=>Below wr.heap.size wr w'/\(oN w' b (off+(m+1)*11) r.c r.v r.h r.p r.s r.d r.g r.a r.b r.i r.u)/\(oN w' b (off+m*11) q.c q.v q.h q.p q.s q.d q.g q.a q.b q.i q.u))
    (first|exact cY Hr.out Hq.out g1 z1 bD|exact cY Hr.out Hq.out g1 z1 (af bD hx)|exact cY Hr.out Hq.out g1 z1 (af (af bD hx) hy))
    (first|(go_at_call 72;refine(cM q _).mono ?_;rintro e w' ⟨rfl,hx⟩)|(go_at_call 72;refine(cM r _).mono ?_;rintro e w'' ⟨rfl,hy⟩))
   have y1:=af (af (au (Below.refl _ wr)) hx) hy;have Hb1:=ah (af hB y1);clear hx hy y1 hB g1;go_wp2
   exact⟨⟨m+1,by omega,by go_num,Ha.out.step Hq.out Hr.out hasc,Hb1.out⟩,by simp[intOf];omega⟩
  go_wp2
  go_ret
  exact⟨⟨true,rfl,⟨fun _ j q r hj hq hr=>Ha.out j q r (by omega) hq hr,fun _=>rfl⟩⟩,hB⟩
end Go.Proofs.YtlfnpjcjapljpaaGreatDoor
