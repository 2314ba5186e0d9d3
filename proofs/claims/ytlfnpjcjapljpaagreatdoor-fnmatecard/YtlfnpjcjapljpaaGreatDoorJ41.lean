import Derived.Test.YtlfnpjcjapljpaaGreatDoorJ39
namespace Go.Proofs.YtlfnpjcjapljpaaGreatDoor
open Go.Maps Go.Proofs.Tryz Go.RowKit Go.WideMaps
set_option maxRecDepth 4000
set_option maxHeartbeats 8000000
set_option linter.unusedVariables false
def ff(ck:Int)(ws:List W.ay)(D:WD)(k:Nat):WD:={jV ck ws D k with rs:=((D.rs.take k).foldl (cm ck ws) ([],D.qs,D.gs)).1}
theorem Dl{ck:Int}{ws:List W.ay}{D:WD}{k:Nat}{r r':aw}(hr:D.rs[k]?=some r)(e:cX ck ws r=some r'):ff ck ws D (k+1)={ff ck ws D k with rs:=(ff ck ws D k).rs++[r']}:=by unfold ff jV;rw[eG _ _ hr];generalize (D.rs.take k).foldl (cm ck ws) ([],D.qs,D.gs)=st;unfold cm;rw[e]
theorem AO{ck:Int}{ws:List W.ay}{D:WD}{k:Nat}{r:aw}(hr:D.rs[k]?=some r)(e:cX ck ws r=none):ff ck ws D (k+1)={ff ck ws D k with qs:=(fR r.h ((ff ck ws D k).qs,(ff ck ws D k).gs)).1,gs:=(fR r.h ((ff ck ws D k).qs,(ff ck ws D k).gs)).2}:=by unfold ff jV;rw[eG _ _ hr];generalize (D.rs.take k).foldl (cm ck ws) ([],D.qs,D.gs)=st;unfold cm;rw[e]
theorem Dp{ck:Int}{ws:List W.ay}{D:WD}(k:Nat):(ff ck ws D k).rs.length<=D.rs.length:=by show(((D.rs.take k).foldl (cm ck ws) ([],D.qs,D.gs)).1).length<=_;rw[lH];refine Nat.le_trans (List.length_filterMap_le _ _) ?_;rw[List.length_take];omega
theorem vw{h:ByteArray}{s:List A.aC×List A.aC}(e:bU s.1 h=none):fR h s=s:=by unfold fR;rw[e]
theorem vy{h:ByteArray}{s:List A.aC×List A.aC}{a:A.aC}(e:bU s.1 h=some a):fR h s=(A.db h s.1,if s.2.length<40 then Ord.cJ A.aM a s.2 else s.2):=by unfold fR;rw[e]
theorem si{ck:Int}{a:A.aC}(h:A.dR ck a=true):a.h.toList.isEmpty=false:=by
 simp only[A.dR,holdB,cF,Bool.and_eq_true,cA,decide_eq_true_eq]at h;rw[ByteArray.toList_eq];cases hx:a.h.data.toList with
 |nil=>
  have:a.h.size=0:=by show a.h.data.toList.length=0;rw[hx];rfl
  omega
 |cons=>rfl
theorem om:∀(l:List aw)(k:Nat),(aA l).take (k*11)=aA (l.take k)
 |[],k=>by simp[aA]
 |r::l,0=>by simp[aA]
 |r::l,k+1=>by have ih:=om l k;show(r.cells++aA l).take _=r.cells++aA (l.take k);rw[List.take_append,show(k+1)*11-r.cells.length=k*11 from by show(k+1)*11-11=_;omega,ih,List.take_of_length_le (by show 11<=_;omega)]
theorem ot:∀(l:List aw)(k:Nat),(aA l).drop (k*11)=aA (l.drop k)
 |[],k=>by simp[aA]
 |r::l,0=>by simp
 |r::l,k+1=>by have ih:=ot l k;show(r.cells++aA l).drop _=aA (l.drop k);rw[List.drop_append,show(k+1)*11-r.cells.length=k*11 from by show(k+1)*11-11=_;omega,ih,List.drop_of_length_le (by show 11<=_;omega),List.nil_append]
theorem gk(l m:List aw):aA (l++m)=aA l++aA m:=by simp[aA]
def ET(l:List aw)(c:ByteArray)(k:Nat):Prop:=∀(j:Nat) y,j<k->l[j]?=some y->bytesBefore (aM y) c.data.toList=true
def lI(l:List aw)(c:ByteArray)(k:Nat):Bool:=match l[k]? with|some y=>Op.bytesLess y.c.toList c.toList|none=>false
def LJ(l:List aw)(c:ByteArray)(k:Nat):Bool:=match l[k]? with|some y=>y.c.toList==c.toList|none=>false
def jn(l:List aw)(c:ByteArray)(k:Nat):Bool:=decide (20<=l.length)||LJ l c k
theorem AP{l:List aw}{q:W.ay}{k:Nat}(h:jn l q.c k=true):cN l q=l:=by
 unfold cN;refine if_neg (fun hn=>?_);unfold jn at h;rw[Bool.or_eq_true,decide_eq_true_eq]at h;rcases h with h|h;·omega
 unfold LJ at h;cases hy:l[k]? with
 |none=>rw[hy]at h;cases h
 |some y=>rw[hy]at h;have:tJ l q.c=true:=List.any_eq_true.2 ⟨y,List.mem_of_getElem? hy,h⟩;rw[hn.2]at this;cases this
theorem Dq{l:List aw}{q:W.ay}{k:Nat}(h:jn l q.c k=false)(hk:k<=l.length)(hs:dx l)(h1:ET l q.c k)(h2:∀y,l[k]?=some y->bytesBefore (aM y) q.c.data.toList=false):cN l q=l.take k++[newR q]++l.drop k/\l.length<20:=by
 unfold jn at h;rw[Bool.or_eq_false_iff,decide_eq_false_iff_not]at h;have hne:∀y,l[k]?=some y->¬aM y=q.c.data.toList:=fun y hy e=>by have:=h.2;unfold LJ at this;rw[hy]at this;have this:(y.c.toList==q.c.toList)=false:=this;rw[beq_eq_false_iff_ne,ByteArray.toList_eq,ByteArray.toList_eq]at this;exact this e
 have hn:tJ l q.c=false:=List.any_eq_false.2 (fun z hz=>by
  obtain⟨j,hj,hz⟩:=List.getElem_of_mem hz;intro e;have e':aM z=q.c.data.toList:=by rw[beq_iff_eq,ByteArray.toList_eq,ByteArray.toList_eq]at e;exact e
  rcases Nat.lt_trichotomy j k with hjk|hjk|hjk
  ·
   have:=h1 j z hjk (by rw[List.getElem?_eq_getElem hj,hz]);rw[e']at this;exact Ord.dM this rfl
  ·subst hjk;exact hne z (by rw[List.getElem?_eq_getElem hj,hz]) e'
  have hkl:k<l.length:=by omega
  have ha:=List.pairwise_iff_getElem.1 hs k j hkl hj hjk;rw[hz]at ha;have hb:=h2 _ (List.getElem?_eq_getElem hkl);rw[<-e']at hb;rw[show bytesBefore (aM l[k]) (aM z)=true from ha]at hb;cases hb)
 refine⟨?_,by omega⟩;unfold cN;rw[if_pos ⟨by omega,hn⟩,Ord.n0 aM (newR q) l k hk h1 h2,List.append_assoc];congr 2;cases hy:l[k]? with
 |none=>rw[List.drop_of_length_le (List.getElem?_eq_none_iff.1 hy)];rfl
 |some y=>exact if_neg (hne y hy)
theorem Lv.rows{w x y:World}{P:Array Value}{q g v v':Value}{D:WD}(h:Lv w P q g D v x)(hb:Below x.heap.size x y){rs:List aw}(ho:Ow y v' rs x.heap.size):Lv w P q g {D with rs:=rs} v' y:=by
 have hl:=h.lt;have h':=h.keep hb;have dn:∀{s:Value}{l:List A.aC},A.Ow x s l 0->eh s v':=fun {s l} hs=>by
  cases hsb:s.ownBlock with
  |none=>exact Or.inl hsb
  |some j=>exact Or.inr (by rw[hsb];intro e;have:=(hs.lt j hsb).2;have:=(ho.lt j e.symm).1;omega)
 exact⟨h'.sc,h'.oq,h'.og,ho.low (by omega),h.nq,h.ng,dn h.oq,dn h.og,h.p7⟩
theorem Lv.fin{w x:World}{P:Array Value}{q g v:Value}{D:WD}(h:Lv w P q g D v x)(l:List Value):Ow ((x.setCell ⟨w.heap.size,6,none⟩ v).setCells (w.heap.size+1) 0 l) v D.rs 0/\A.Ow ((x.setCell ⟨w.heap.size,6,none⟩ v).setCells (w.heap.size+1) 0 l) q D.qs 0/\A.Ow ((x.setCell ⟨w.heap.size,6,none⟩ v).setCells (w.heap.size+1) 0 l) g D.gs 0/\Below w.heap.size w ((x.setCell ⟨w.heap.size,6,none⟩ v).setCells (w.heap.size+1) 0 l):=by
 obtain⟨-,h1,h2,h3⟩:=h.kB 6 v;have hx:Ex (w.heap.size+1) (x.setCell ⟨w.heap.size,6,none⟩ v) ((x.setCell ⟨w.heap.size,6,none⟩ v).setCells (w.heap.size+1) 0 l):=(Ex.refl _ _).cells _ _;have nb:∀{s:Value},(∀j,s.ownBlock=some j->j≠w.heap.size+1)->s.ownBlock=none\/s.ownBlock≠some (w.heap.size+1):=fun {s} hn=>by
  cases hsb:s.ownBlock with
  |none=>exact Or.inl rfl
  |some j=>exact Or.inr (fun e=>hn j hsb (Option.some.inj e))
 refine⟨(h3.grown (av hx) (nb (fun j hj=>by have:=(h.ov.lt j hj).1;omega))).low (Nat.zero_le _),h1.grown (A.av hx) (nb (fun j hj=>(h.nq j hj).2)),h2.grown (A.av hx) (nb (fun j hj=>(h.ng j hj).2)),?_⟩;exact(h.sc.set 6 (by rw[Array.size_push,Array.size_push,h.p7];omega) v).put l
theorem AQ(q:W.ay)(w:World):Sem.run prog (Instr.buildSlice 24 1 #[(0,.agg (aL q.c q.v q.h q.p q.s q.d q.g 1 q.p 0 0))]) w=.ok (.slice (some ⟨w.heap.size,0,none⟩) 1 1) (w.alloc (.cells (newR q).cells.toArray 39)):=ES (newR q) w
theorem xX(m:aj)(a1 a2 a3 a4:Option Addr)(n1 n2 n3 n4:Nat)(w:World)(h1:W.Gv w a1 m.ws)(h2:Gv w a2 m.rs)(h3:A.Ow w (ai a3 m.qs n3) m.qs 0)(h4:A.Ow w (ai a4 m.gs n4) m.gs 0)(hG:cQ m.ck ⟨m.rs,m.qs,m.gs,[]⟩)(hws:∀q∈m.ws,q.ok=true)(hwl:m.ws.length<=10):
  Calls prog 31 #[.agg (bK m a1 a2 a3 a4 n1 n2 n3 n4)] w fun e w'=>(∃v2 v3 v4,e=.returned (.agg (bY m.nm m.up m.ck m.kn m.se (ai a1 m.ws n1) v2 v3 v4))/\Ow w' v2 (kL m.ws (dr m.ck m.ws m.rs (m.qs,m.gs)).1) 0/\A.Ow w' v3 (dr m.ck m.ws m.rs (m.qs,m.gs)).2.1 0/\A.Ow w' v4 (dr m.ck m.ws m.rs (m.qs,m.gs)).2.2 0)/\Below w.heap.size w w':=by
 have S0:Hid (Sc w (bK m a1 a2 a3 a4 n1 n2 n3 n4) ((w.alloc (.cells (bK m a1 a2 a3 a4 n1 n2 n3 n4) 27)).alloc (.cells iU 27))):=ic m a1 a2 a3 a4 n1 n2 n3 n4 w;have vz:(prog.info? 27).map (·.size)=some 9:=by kernel_rfl
 have vA:(prog.info? 37).map (·.size)=some 7:=by kernel_rfl
 have Dr:(prog.info? 39).map (·.size)=some 11:=by kernel_rfl
 obtain⟨i0,hi,hz0,hz1,hz2⟩:=info_parts cE;have I4:=ah h1;have HG2:=ah h2;have hl1:m.ws.length<=1048576:=by omega
 obtain⟨D,hD⟩:∃D:WD,D=⟨m.rs,m.qs,m.gs,[]⟩:=⟨_,rfl⟩
 have Ur:=ah hD;have BI:Hid (cQ m.ck D):=by show cQ _ _;rw[hD];exact hG
 have hrl:m.rs.length<=20:=hG.ln;have Du:=ah hws;have Pm:Hid (Lv w #[.string m.nm,.bool m.up,.int .i64 m.ck,.bool m.kn,.int .i64 m.se,.slice a1 m.ws.length n1,.slice a2 m.rs.length n2] (ai a3 m.qs n3) (ai a4 m.gs n4) (ff m.ck m.ws D 0) (.slice (some ⟨w.heap.size+1+1,0,none⟩) 0 0) (((w.alloc (.cells (bK m a1 a2 a3 a4 n1 n2 n3 n4) 27)).alloc (.cells iU 27)).alloc (.cells #[] 39))):=by
  show Lv _ _ _ _ _ _ _;have hb2:Below w.heap.size w (((w.alloc (.cells (bK m a1 a2 a3 a4 n1 n2 n3 n4) 27)).alloc (.cells iU 27)).alloc (.cells #[] 39)):=ae S0.out.e _;have e0:ff m.ck m.ws D 0=⟨[],m.qs,m.gs,[]⟩:=by rw[hD];rfl
  rw[e0];refine⟨S0.out.below (ae bR _),h3.keep hb2,h4.keep hb2,?_,fun j hj=>by have:=(h3.lt j hj).2;omega,fun j hj=>by have:=(h4.lt j hj).2;omega,?_,?_,rfl⟩
  ·
   have:=World.ownsRow_made ((w.alloc (.cells (bK m a1 a2 a3 a4 n1 n2 n3 n4) 27)).alloc (.cells iU 27)) (base:=w.heap.size+2) (e:=39) (size:=11) #[] 0 (by simp) (Nat.zero_le _) rfl;rw[show((w.alloc (.cells (bK m a1 a2 a3 a4 n1 n2 n3 n4) 27)).alloc (.cells iU 27)).heap.size=w.heap.size+1+1 from by simp]at this;exact this
  ·
   cases hsb:(Value.slice a3 m.qs.length n3).ownBlock with
   |none=>exact Or.inl hsb
   |some j=>exact Or.inr (by rw[hsb];intro e;have h9:=(h3.lt j hsb).2;simp[Value.ownBlock]at e;omega)
  cases hsb:(Value.slice a4 m.gs.length n4).ownBlock with
  |none=>exact Or.inl hsb
  |some j=>exact Or.inr (by rw[hsb];intro e;have h9:=(h4.lt j hsb).2;simp[Value.ownBlock]at e;omega)
 clear h1 h2 h3 h4 hG hws;have Es:=jH;go_enter func31,ntmps31
 go_wp2_with fail
 clear Es
 go_loopw [3,4] (fun v i wx=>∃(k:Nat),k<=m.rs.length/\i=.int .i64 k/\∃q g,Hid (Lv w #[.string m.nm,.bool m.up,.int .i64 m.ck,.bool m.kn,.int .i64 m.se,.slice a1 m.ws.length n1,.slice a2 m.rs.length n2] q g (ff m.ck m.ws D k) v wx)) (fun _ i _=>m.rs.length-(intOf i).toNat)
 case atStart=>exact⟨0,Nat.zero_le _,rfl,_,_,Pm.out⟩
 case round=>
  obtain⟨k,hk,rfl,q0,g0,HV⟩:=hrel;by_cases hlt:k<m.rs.length
  ·
   obtain⟨r,hr⟩:∃r,m.rs[k]?=some r:=⟨m.rs[k],List.getElem?_eq_getElem hlt⟩
   have Hr:Hid (D.rs[k]?=some r):=(by show D.rs[k]?=some r;rw[hD];exact hr);have i1:(k:Int)<(m.rs.length:Int):=(by omega);obtain⟨aq,pq,Us⟩:=HV.out.oq.shape;obtain⟨ag,pg,hsg⟩:=HV.out.og.shape;subst Us hsg;have vB:Hid (r.ok m.ck=true):=BI.out.rp.1 r (by rw[hD];exact List.mem_of_getElem? hr);have hcz:r.c.size<=maxLen:=(dN vB.out).1;obtain⟨g2,rfl,hg2,hR2⟩:=HG2.out.resolve_left (fun h=>by rw[h]at hlt;simp at hlt);have I5:Hid (∀y,Below w.heap.size w y->oN y g2 (k*11) r.c r.v r.h r.p r.s r.d r.g r.a r.b r.i r.u):=fun y hy=>by have:=(hR2.keep hg2 hy).at hr;simp only[Nat.zero_add]at this;exact this
   have ka:∀j,wr.cell? ⟨w.heap.size,j,none⟩=(#[.string m.nm,.bool m.up,.int .i64 m.ck,.bool m.kn,.int .i64 m.se,.slice a1 m.ws.length n1,.slice (some ⟨g2,0,none⟩) m.rs.length n2,(.slice aq (ff m.ck m.ws D k).qs.length pq),(.slice ag (ff m.ck m.ws D k).gs.length pg)]:Array Value)[j]?:=HV.out.sc.b;obtain⟨q,hq⟩:∃q,wz (cI m.ws r.c)=q:=⟨_,rfl⟩
   obtain⟨b,hb⟩:∃b,(cI m.ws r.c).isSome=b:=⟨_,rfl⟩
   obtain⟨t,ht⟩:∃t,rz (cX m.ck m.ws r)=t:=⟨_,rfl⟩
   obtain⟨b',hb'⟩:∃b',(cX m.ck m.ws r).isSome=b':=⟨_,rfl⟩
   have HQ:=ah hq;have HB:=ah hb;have HT:=ah ht;have xY:Hid ((cX m.ck m.ws r).isSome=b'):=hb';have K5:Hid (∀y,Below wr.heap.size wr y->y.cell? ⟨w.heap.size,5,none⟩=some (ai a1 m.ws n1)/\y.cell? ⟨w.heap.size,6,none⟩=some (.slice (some ⟨g2,0,none⟩) m.rs.length n2)/\y.cell? ⟨g2,k*11,none⟩=some (.string r.c)):=fun y hy=>by have hy2:=HV.out.keep hy;exact⟨hy2.sc.b 5,hy2.sc.b 6,(I5.out y hy2.sc.e).1⟩
   clear hr hq hb ht hb' hR2
   go_upto_region 5 with(fail)
   clear ka;go_cut [5,6] (fun v5 v6 wx=>∃b5,v5=.pointer (some ⟨b5,0,none⟩)/\v6=.bool b/\Hid (wx.rangeAt b5 0 (iT q.c q.v q.h q.p q.s q.d q.g))/\b5<wx.heap.size/\wr.heap.size<=b5/\Hid (Below wr.heap.size wr wx))
   case first=>
    refine wp_region_noPanic ?_;refine wp_region_held_drew (S:=fun y=>y.cell? ⟨w.heap.size,5,none⟩=some (ai a1 m.ws n1)/\y.cell? ⟨w.heap.size,6,none⟩=some (.slice (some ⟨g2,0,none⟩) m.rs.length n2)/\y.cell? ⟨g2,k*11,none⟩=some (.string r.c)) (by kernel_rfl) (K5.out _ bD) (fun hHeld=>?_);refine aF 0 ?_;refine aF 1 ?_;try simp only[sp]
    refine aF 2 ?_;refine aF 3 ?_;try simp only[sp]
    refine aF 4 ?_;refine aF 5 ?_;try simp only[sp]
    refine aF 6 ?_;refine aF 7 ?_;try simp only[sp]
    refine aF 8 ?_;try simp only[sp]
    refine wpAnyH_ready (rs:=[9,13]) (by kernel_rfl) (by simp) ?_;refine AllReadyH.cons rfl (fun K hK=>?_) (AllReadyH.cons rfl (fun K hK=>?_) AllReadyH.nil)
    ·
     go_simp
     refine(lG a1 n1 m.ws r.c _ (I4.out.keep (af HV.out.sc.e bD)) hl1 HQ.out HB.out).mono ?_;rintro e y5 ⟨rfl,c5⟩;go_wp2_with fail
     refine hK.out _ _ (K5.out _ (af bD c5)) (fun hH1=>?_);clear hK K;try simp only[sp]
     refine aF 10 ?_;refine aF 11 ?_;try simp only[sp]
     refine aF 12 ?_;try simp only[sp]
     refine dJ 13 (by kernel_rfl) rfl fun K hK=>?_
     go_simp
     refine hK.out _ _ (K5.out _ (ae (af bD c5) _)) (fun hH2=>?_);clear hK K;try simp only[sp]
     refine dJ 14 (by kernel_rfl) rfl fun K hK=>?_
     go_simp
     refine hK.out _ _ (K5.out _ (ae (af bD c5) _)) (fun hH3=>?_);clear hK K;try simp only[sp]
     refine aF 15 ?_;try simp only[sp]
     refine wpAnyH_done (by kernel_rfl) ?_ _;refine NoPanic.normal ?_;clear hH1 hH2 hH3;go_wp2_with fail
     go_meet
     exact⟨_,rfl,rfl,by show World.rangeAt _ _ _ _;exact hU rfl bR,by simp,by have:=c5.size;simp at this;omega,ae (af bD c5) _⟩
    go_simp
    refine hK.out _ _ (K5.out _ (ae bD _)) (fun hH1=>?_);clear hK K;try simp only[sp]
    refine dJ 9 (by kernel_rfl) rfl fun K hK=>?_
    go_simp
    refine(lG a1 n1 m.ws r.c _ (I4.out.keep (af HV.out.sc.e (ae bD _))) hl1 HQ.out HB.out).mono ?_;rintro e y5 ⟨rfl,c5⟩;go_wp2_with fail
    have T5:Hid (y5.there wr.heap.size 0 7):=bd (x:=((World.drew wr).alloc (.cells (aX ⟨#[]⟩ 0 ⟨#[]⟩ 0 0 0 0) 37))) (fun j hj=>⟨by simp[go_sem];omega,by simp[go_sem]⟩) (by simp) c5;have B5:Hid (Below wr.heap.size wr y5):=af (ae bD _) c5;refine hK.out _ _ (K5.out _ B5.out) (fun hH2=>?_);clear hK K;try simp only[sp]
    refine aF 10 ?_;refine aF 11 ?_;try simp only[sp]
    refine aF 12 ?_;try simp only[sp]
    refine dJ 14 (by kernel_rfl) rfl fun K hK=>?_;refine bF (by rfl) ?_;refine wp_store_mid 37 _ _ (by rfl) wr.heap.size 0 (aX q.c q.v q.h q.p q.s q.d q.g) (by rfl) (by rfl) (by exact T5.out) vA (by simp[Value.oneCell']) ?_;refine hK.out _ _ (K5.out _ (cL (Nat.le_refl _) _ _ _ B5.out)) (fun hH3=>?_);clear hK K;try simp only[sp]
    refine aF 15 ?_;try simp only[sp]
    refine wpAnyH_done (by kernel_rfl) ?_ _;refine NoPanic.normal ?_;clear hH1 hH2 hH3;go_wp2_with fail
    go_meet
    exact⟨_,rfl,rfl,World.rangeAt_setCells_same y5 wr.heap.size 0 (iT q.c q.v q.h q.p q.s q.d q.g) T5.out,by rw[ev];have:=c5.size;simp at this;omega,Nat.le_refl _,cL (Nat.le_refl _) _ _ _ B5.out⟩
   rename World=>w4
   obtain⟨b5,rfl,rfl,R5,l5,hb5,yJ⟩:=hcut;have H4:Hid (Lv w _ _ _ (ff m.ck m.ws D k) u3 w4):=HV.out.keep yJ.out;have K6:Hid (∀y,Below w4.heap.size w4 y->y.cell? ⟨w.heap.size,6,none⟩=some (.slice (some ⟨g2,0,none⟩) m.rs.length n2)/\y.cell? ⟨w.heap.size,2,none⟩=some (.int .i64 m.ck)/\y.cell? ⟨g2,k*11,none⟩=some (.string r.c)/\y.cell? ⟨g2,k*11+1,none⟩=some (.int .i64 r.v)/\y.cell? ⟨g2,k*11+2,none⟩=some (.string r.h)/\y.cell? ⟨g2,k*11+3,none⟩=some (.int .i64 r.p)/\y.cell? ⟨g2,k*11+4,none⟩=some (.int .i64 r.s)/\y.cell? ⟨g2,k*11+5,none⟩=some (.int .i64 r.d)/\y.cell? ⟨g2,k*11+6,none⟩=some (.int .i64 r.g)/\y.cell? ⟨g2,k*11+7,none⟩=some (.int .i64 r.a)/\y.cell? ⟨g2,k*11+8,none⟩=some (.int .i64 r.b)/\y.cell? ⟨g2,k*11+9,none⟩=some (.int .i64 r.i)/\y.cell? ⟨g2,k*11+10,none⟩=some (.int .i64 r.u)/\yE y b5 q.c q.v q.h q.p q.s q.d q.g):=fun y hy=>by
    have hy2:=H4.out.keep hy;have e5:∀j u,((iT q.c q.v q.h q.p q.s q.d q.g):List Value)[j]?=some u->y.cell? ⟨b5,j,none⟩=some u:=fun j u hj=>by have:=ft R5.out l5 hy j u hj;rw[Nat.zero_add]at this;exact this
    obtain⟨z0,z1,z2,z3,z4,z5,z6,z7,z8,z9,Ry⟩:=I5.out y hy2.sc.e;exact⟨hy2.sc.b 6,hy2.sc.b 2,z0,z1,z2,z3,z4,z5,z6,z7,z8,z9,Ry,e5 0 _ rfl,e5 1 _ rfl,e5 2 _ rfl,e5 3 _ rfl,e5 4 _ rfl,e5 5 _ rfl,e5 6 _ rfl⟩
   clear K5
   go_upto_region 6 with(fail)
   go_cut [7,8] (fun v7 v8 wx=>∃b6,v7=.pointer (some ⟨b6,0,none⟩)/\v8=.bool b'/\Hid (wx.rangeAt b6 0 (ko t.c t.v t.h t.p t.s t.d t.g t.a t.b t.i t.u))/\b6<wx.heap.size/\w4.heap.size<=b6/\Hid (Below w4.heap.size w4 wx))
   case first=>
    refine wp_region_noPanic ?_;refine wp_region_held_drew (S:=fun y=>y.cell? ⟨w.heap.size,6,none⟩=some (.slice (some ⟨g2,0,none⟩) m.rs.length n2)/\y.cell? ⟨w.heap.size,2,none⟩=some (.int .i64 m.ck)/\y.cell? ⟨g2,k*11,none⟩=some (.string r.c)/\y.cell? ⟨g2,k*11+1,none⟩=some (.int .i64 r.v)/\y.cell? ⟨g2,k*11+2,none⟩=some (.string r.h)/\y.cell? ⟨g2,k*11+3,none⟩=some (.int .i64 r.p)/\y.cell? ⟨g2,k*11+4,none⟩=some (.int .i64 r.s)/\y.cell? ⟨g2,k*11+5,none⟩=some (.int .i64 r.d)/\y.cell? ⟨g2,k*11+6,none⟩=some (.int .i64 r.g)/\y.cell? ⟨g2,k*11+7,none⟩=some (.int .i64 r.a)/\y.cell? ⟨g2,k*11+8,none⟩=some (.int .i64 r.b)/\y.cell? ⟨g2,k*11+9,none⟩=some (.int .i64 r.i)/\y.cell? ⟨g2,k*11+10,none⟩=some (.int .i64 r.u)/\yE y b5 q.c q.v q.h q.p q.s q.d q.g) (by kernel_rfl) (K6.out _ bD) (fun hHeld=>?_);refine aF 0 ?_;refine aF 1 ?_;try simp only[sp]
    refine aF 2 ?_;refine aF 3 ?_;try simp only[sp]
    refine aF 4 ?_;refine aF 5 ?_;try simp only[sp]
    refine aF 6 ?_;refine aF 7 ?_;try simp only[sp]
    refine aF 8 ?_;try simp only[sp]
    refine wpAnyH_ready (rs:=[9,13]) (by kernel_rfl) (by simp) ?_;refine AllReadyH.cons rfl (fun K hK=>?_) (AllReadyH.cons rfl (fun K hK=>?_) AllReadyH.nil)
    ·
     go_simp
     refine(pW (dN vB.out) HQ.out HB.out HT.out xY.out _).mono ?_;rintro e y5 ⟨rfl,c5⟩;go_wp2_with fail
     refine hK.out _ _ (K6.out _ (af bD c5)) (fun hH1=>?_);clear hK K;try simp only[sp]
     refine aF 10 ?_;refine aF 11 ?_;try simp only[sp]
     refine aF 12 ?_;try simp only[sp]
     refine dJ 13 (by kernel_rfl) rfl fun K hK=>?_
     go_simp
     refine hK.out _ _ (K6.out _ (ae (af bD c5) _)) (fun hH2=>?_);clear hK K;try simp only[sp]
     refine dJ 14 (by kernel_rfl) rfl fun K hK=>?_
     go_simp
     refine hK.out _ _ (K6.out _ (ae (af bD c5) _)) (fun hH3=>?_);clear hK K;try simp only[sp]
     refine aF 15 ?_;try simp only[sp]
     refine wpAnyH_done (by kernel_rfl) ?_ _;refine NoPanic.normal ?_;clear hH1 hH2 hH3;go_wp2_with fail
     go_meet
     exact⟨_,rfl,rfl,by show World.rangeAt _ _ _ _;exact hU rfl bR,by simp,by have:=c5.size;simp at this;omega,ae (af bD c5) _⟩
    go_simp
    refine hK.out _ _ (K6.out _ (ae bD _)) (fun hH1=>?_);clear hK K;try simp only[sp]
    refine dJ 9 (by kernel_rfl) rfl fun K hK=>?_
    go_simp
    refine(pW (dN vB.out) HQ.out HB.out HT.out xY.out _).mono ?_;rintro e y5 ⟨rfl,c5⟩;go_wp2_with fail
    have T5:Hid (y5.there w4.heap.size 0 11):=bd (x:=((World.drew w4).alloc (.cells (aL ⟨#[]⟩ 0 ⟨#[]⟩ 0 0 0 0 0 0 0 0) 39))) (fun j hj=>⟨by simp[go_sem];omega,by simp[go_sem]⟩) (by simp) c5;have B5:Hid (Below w4.heap.size w4 y5):=af (ae bD _) c5;refine hK.out _ _ (K6.out _ B5.out) (fun hH2=>?_);clear hK K;try simp only[sp]
    refine aF 10 ?_;refine aF 11 ?_;try simp only[sp]
    refine aF 12 ?_;try simp only[sp]
    refine dJ 14 (by kernel_rfl) rfl fun K hK=>?_;refine bF (by rfl) ?_;refine wp_store_mid 39 _ _ (by rfl) w4.heap.size 0 (aL t.c t.v t.h t.p t.s t.d t.g t.a t.b t.i t.u) (by rfl) (by rfl) (by exact T5.out) Dr (by simp[Value.oneCell']) ?_;refine hK.out _ _ (K6.out _ (cL (Nat.le_refl _) _ _ _ B5.out)) (fun hH3=>?_);clear hK K;try simp only[sp]
    refine aF 15 ?_;try simp only[sp]
    refine wpAnyH_done (by kernel_rfl) ?_ _;refine NoPanic.normal ?_;clear hH1 hH2 hH3;go_wp2_with fail
    go_meet
    exact⟨_,rfl,rfl,World.rangeAt_setCells_same y5 w4.heap.size 0 (ko t.c t.v t.h t.p t.s t.d t.g t.a t.b t.i t.u) T5.out,by rw[ev];have:=c5.size;simp at this;omega,Nat.le_refl _,cL (Nat.le_refl _) _ _ _ B5.out⟩
   rename World=>w5
   obtain⟨b6,rfl,rfl,R6,l6,hb6,AU⟩:=hcut;have H5:Hid (Lv w #[.string m.nm,.bool m.up,.int .i64 m.ck,.bool m.kn,.int .i64 m.se,.slice a1 m.ws.length n1,.slice (some ⟨g2,0,none⟩) m.rs.length n2] (.slice aq (ff m.ck m.ws D k).qs.length pq) (.slice ag (ff m.ck m.ws D k).gs.length pg) (ff m.ck m.ws D k) u3 w5):=H4.out.keep AU.out;clear K6 HV H4;cases b'
   ·
    have hlv:cX m.ck m.ws r=none:=by
     have:=xY.out;cases hx:cX m.ck m.ws r with
     |none=>rfl
     |some z=>rw[hx]at this;cases this
    have I6:=ah hlv;clear hlv;obtain⟨lq,tK⟩:∃lq,lq=(ff m.ck m.ws D k).qs:=⟨_,rfl⟩
    obtain⟨lg,AV⟩:∃lg,lg=(ff m.ck m.ws D k).gs:=⟨_,rfl⟩
    have Nb:Hid (QG m.ck lq lg):=(by show QG _ _ _;rw[tK,AV];exact(iL (ws:=m.ws) BI.out k).qg);have hlq:lq.length<=100:=(by rw[tK];exact(iL (ws:=m.ws) BI.out k).lq);have Nc:lg.length<=40:=Nb.out.l4;have Rz:Hid (Lv w #[.string m.nm,.bool m.up,.int .i64 m.ck,.bool m.kn,.int .i64 m.se,.slice a1 m.ws.length n1,.slice (some ⟨g2,0,none⟩) m.rs.length n2] (ai aq lq pq) (ai ag lg pg) ⟨(ff m.ck m.ws D k).rs,lq,lg,(ff m.ck m.ws D k).cs⟩ u3 w5):=(by show Lv _ _ _ _ _ _ _;rw[tK,AV];exact H5.out);have G7:Hid (∀o,bU lq r.h=none->o=(ff m.ck m.ws D k)->ff m.ck m.ws D (k+1)=o):=fun o hao ho=>by rw[ho,AO Hr.out I6.out,vw (by rw[<-tK];exact hao)]
    have py:Hid (∀a,bU lq r.h=some a->ff m.ck m.ws D (k+1)=⟨(ff m.ck m.ws D k).rs,A.db r.h lq,if lg.length<40 then Ord.cJ A.aM a lg else lg,(ff m.ck m.ws D k).cs⟩):=fun a hao=>by rw[AO Hr.out I6.out,vy (by rw[<-tK];exact hao),tK,AV]
    have Ut:Hid ((⟨(ff m.ck m.ws D k).rs,lq,lg,(ff m.ck m.ws D k).cs⟩:WD)=(ff m.ck m.ws D k)):=(by show _=_;rw[tK,AV]);clear H5 tK AV;have H5:=Rz;clear Rz;have ka:∀j,w5.cell? ⟨w.heap.size,j,none⟩=((bY m.nm m.up m.ck m.kn m.se (ai a1 m.ws n1) (.slice (some ⟨g2,0,none⟩) m.rs.length n2) (ai aq lq pq) (ai ag lg pg)):Array Value)[j]?:=H5.out.sc.b;have kf:=H5.out.sc.c;have kh:w5.cell? ⟨g2,k*11+2,none⟩=some (.string r.h):=(I5.out w5 H5.out.sc.e).2.2.1;have xZ:Hid (A.Gv w5 aq lq):=(A.Ow.gv H5.out.oq).1;cases hao:bU lq r.h with
    |none=>
     have HH:Hid (A.fj lq r.h=-1):=oj hao;have HST:Hid (ff m.ck m.ws D (k+1)=⟨(ff m.ck m.ws D k).rs,lq,lg,(ff m.ck m.ws D k).cs⟩):=G7.out _ hao Ut.out;clear hao G7 py;cases OU:r.h.toList.isEmpty
     ·
      go_wp2_with (go_at_call 41;refine(A.cG aq _ lq r.h w5 xZ.out (by omega)).mono ?_;rintro e w' ⟨rfl,jD⟩;rw[jD,HH.out];clear jD w')
      exact⟨⟨k+1,by omega,by go_num,_,_,by rw[HST.out];exact H5.out⟩,by simp[intOf];omega⟩
     go_wp2_with (go_at_call 41;refine(A.cG aq _ lq r.h w5 xZ.out (by omega)).mono ?_;rintro e w' ⟨rfl,jD⟩;rw[jD,HH.out];clear jD w')
     exact⟨⟨k+1,by omega,by go_num,_,_,by rw[HST.out];exact H5.out⟩,by simp[intOf];omega⟩
    |some a=>
     obtain⟨hma,Nf⟩:=dt hao;have OU:r.h.toList.isEmpty=false:=(by rw[<-Nf];exact si (Nb.out.v3 a hma));obtain⟨ia,hat,hia⟩:=oh hao;have HH:=ah hat;have hil:ia<lq.length:=(List.getElem?_eq_some_iff.1 hia).1;have LK:Hid (ff m.ck m.ws D (k+1)=⟨(ff m.ck m.ws D k).rs,A.db r.h lq,if lg.length<40 then Ord.cJ A.aM a lg else lg,(ff m.ck m.ws D k).cs⟩):=py.out a hao;obtain⟨gq,rfl,Pn,LL⟩:=xZ.out.resolve_left (fun h=>by rw[h]at hil;simp at hil);have xZ:=ah xZ.out;have RE:Hid (∀y,Below w5.heap.size w5 y->y.cell? ⟨w.heap.size,8,none⟩=some (ai ag lg pg)/\y.cell? ⟨w.heap.size,7,none⟩=some (.slice (some ⟨gq,0,none⟩) lq.length pq)/\Bw y gq (ia*4) a.h a.c a.f a.t):=fun y hy=>by have hy2:=H5.out.keep hy;have:=(LL.keep Pn hy).at hia;simp only[Nat.zero_add]at this;exact⟨hy2.sc.b 8,hy2.sc.b 7,this⟩
     clear hao hat hia Nf hma LL G7 py;by_cases BM:(lg.length:Int)<40
     ·
      have Hd:Hid ((if lg.length<40 then Ord.cJ A.aM a lg else lg)=Ord.cJ A.aM a lg):=if_pos (by omega)
      go_upto_region 13 with(go_at_call 41;refine(A.cG (some ⟨gq,0,none⟩) _ lq r.h w5 xZ.out (by omega)).mono ?_;rintro e w' ⟨rfl,jD⟩;rw[jD,HH.out];clear jD w')
      clear ka;go_cut [] (fun wx=>∃g',Hid (Lv w #[.string m.nm,.bool m.up,.int .i64 m.ck,.bool m.kn,.int .i64 m.se,.slice a1 m.ws.length n1,.slice (some ⟨g2,0,none⟩) m.rs.length n2] (.slice (some ⟨gq,0,none⟩) lq.length pq) g' ⟨(ff m.ck m.ws D k).rs,lq,Ord.cJ A.aM a lg,(ff m.ck m.ws D k).cs⟩ u3 wx))
      case first=>
       have ks:=RE.out w5 bR;obtain⟨Ng,Nh,Wu,Ni,Nj,Nk⟩:=ks
       go_region_with (go_at_call 85;refine(mY ag pg 0 lg a _ (H5.out.og.keep (by repeat (first|exact bR|with_reducible refine au ?_))) (by omega)).mono ?_;rintro e w7 ⟨⟨vs,rfl,hos⟩,c7⟩;obtain⟨Dv,ps,hss⟩:=hos.shape;obtain⟨ns,hns⟩:∃ns,ns=(Ord.cJ A.aM a lg).length:=⟨_,rfl⟩;rw[<-hns]at hss;subst hss;have LM:Below w5.heap.size w5 w7:=af (by repeat (first|exact bR|with_reducible refine au ?_)) c7;have Wv:Hid (Below w5.heap.size w5 w7):=LM;have H8:Hid (Lv w _ _ _ _ u3 _):=H5.out.gives LM (A.Ow.low hos (by exact Nat.le_refl _));have Ww:w7.cell? ⟨w.heap.size,8,none⟩=_:=(RE.out w7 LM).1;have Uu:=(H5.out.sc.below LM).c;clear hos c7 LM)
       all_goals (go_wp2_with fail)
       all_goals (subst hns;go_meet;exact⟨_,H8.out⟩)
      rename World=>w8
      obtain⟨g8,H8⟩:=hcut;obtain⟨Wx,Wy,EB⟩:=H8.out.og.shape;subst EB;have LN:∀j,w8.cell? ⟨w.heap.size,j,none⟩=_:=H8.out.sc.b;have Po:=H8.out.sc.c;have Pp:w8.cell? ⟨w.heap.size,7,none⟩=some (.slice (some ⟨gq,0,none⟩) lq.length pq):=LN 7;have I7:Hid (A.Gv w8 (some ⟨gq,0,none⟩) lq):=(A.Ow.gv H8.out.oq).1;clear LN;go_wp2_with fail
      refine(A.pV _ _ lq r.h _ I7.out (by omega)).mono ?_;rintro e w9 ⟨⟨vd,rfl,hod⟩,c9⟩;have H9:=H8.out.asks c9 hod;obtain⟨ad,pd,hsd⟩:=hod.shape;have HST:Hid (ff m.ck m.ws D (k+1)=⟨(ff m.ck m.ws D k).rs,A.db r.h lq,Ord.cJ A.aM a lg,(ff m.ck m.ws D k).cs⟩):=(by show _=_;rw[LK.out,Hd.out]);have LO:∀j,w9.cell? ⟨w.heap.size,j,none⟩=_:=(H8.out.sc.below c9).b;have IY:=(H8.out.sc.below c9).c;have Uv:w9.cell? ⟨w.heap.size,7,none⟩=some (.slice (some ⟨gq,0,none⟩) lq.length pq):=LO 7;subst hsd;have Dw:=ah H9;clear hod c9 LO Pp Po H9;go_wp2_with fail
      exact⟨⟨k+1,by omega,by go_num,_,_,by rw[HST.out];exact Dw.out⟩,by simp[intOf];omega⟩
     have e40:lg.length=40:=(by omega);have Hd:Hid ((if lg.length<40 then Ord.cJ A.aM a lg else lg)=lg):=if_neg (by omega);clear BM;go_wp2_with (go_at_call 41;refine(A.cG (some ⟨gq,0,none⟩) _ lq r.h w5 xZ.out (by omega)).mono ?_;rintro e w' ⟨rfl,jD⟩;rw[jD,HH.out];clear jD w')
     have LN:∀j,w5.cell? ⟨w.heap.size,j,none⟩=_:=H5.out.sc.b;have Po:=H5.out.sc.c;have Pp:w5.cell? ⟨w.heap.size,7,none⟩=some (.slice (some ⟨gq,0,none⟩) lq.length pq):=LN 7;have I7:Hid (A.Gv w5 (some ⟨gq,0,none⟩) lq):=(A.Ow.gv H5.out.oq).1;clear LN;go_wp2_with fail
     refine(A.pV _ _ lq r.h _ I7.out (by omega)).mono ?_;rintro e w9 ⟨⟨vd,rfl,hod⟩,c9⟩;have H9:=H5.out.asks c9 hod;obtain⟨ad,pd,hsd⟩:=hod.shape;have HST:Hid (ff m.ck m.ws D (k+1)=⟨(ff m.ck m.ws D k).rs,A.db r.h lq,lg,(ff m.ck m.ws D k).cs⟩):=(by show _=_;rw[LK.out,Hd.out]);have LO:∀j,w9.cell? ⟨w.heap.size,j,none⟩=_:=(H5.out.sc.below c9).b;have IY:=(H5.out.sc.below c9).c;have Uv:w9.cell? ⟨w.heap.size,7,none⟩=some (.slice (some ⟨gq,0,none⟩) lq.length pq):=LO 7;subst hsd;have Dw:=ah H9;clear hod c9 LO Pp Po H9;go_wp2_with fail
     exact⟨⟨k+1,by omega,by go_num,_,_,by rw[HST.out];exact Dw.out⟩,by simp[intOf];omega⟩
   have hlv:cX m.ck m.ws r=some t:=by
    have h1:=xY.out;have h2:=HT.out;cases hx:cX m.ck m.ws r with
    |none=>rw[hx]at h1;cases h1
    |some z=>rw[hx]at h2;rw[<-h2];rfl
   have HST:Hid (ff m.ck m.ws D (k+1)={(ff m.ck m.ws D k)with rs:=(ff m.ck m.ws D k).rs++[t]}):=Dl Hr.out hlv;have hll:(ff m.ck m.ws D k).rs.length<=20:=Nat.le_trans (Dp k) BI.out.ln;have hbb:=ES t;have H6:Hid (Lv w #[.string m.nm,.bool m.up,.int .i64 m.ck,.bool m.kn,.int .i64 m.se,.slice a1 m.ws.length n1,.slice (some ⟨g2,0,none⟩) m.rs.length n2] (.slice aq (ff m.ck m.ws D k).qs.length pq) (.slice ag (ff m.ck m.ws D k).gs.length pg) (ff m.ck m.ws D k) u3 (w5.alloc (.cells t.cells.toArray 39))):=H5.out.keep (ae bR _);have kt:∀j u,((ko t.c t.v t.h t.p t.s t.d t.g t.a t.b t.i t.u):List Value)[j]?=some u->w5.cell? ⟨b6,j,none⟩=some u:=fun j u hj=>by have:=R6.out j u hj;rw[Nat.zero_add]at this;exact this
   have WA:=kt 0 _ rfl;have WB:=kt 1 _ rfl;have WC:=kt 2 _ rfl;have WG:=kt 3 _ rfl;have WH:=kt 4 _ rfl;have WI:=kt 5 _ rfl;have WJ:=kt 6 _ rfl;have WK:=kt 7 _ rfl;have WL:=kt 8 _ rfl;have WM:=kt 9 _ rfl;have Uw:=kt 10 _ rfl;clear kt hlv;go_wp2_with (at_builtin;refine wpList_append_own_at _ rfl _ _ 24 rfl (w.heap.size+2) 39 i0 _ 11 104 underlying24 hi hz0 hz1 hz2 rfl (by decide) u3 (ff m.ck m.ws D k).rs.length _ rfl (by exact H6.out.ov) ⟨_,0,none⟩ 1 1 t.cells rfl rfl (bG _ _ (by simp) _ _ _ rfl) (aU _) (by unfold maxLen;omega) (by omega) (by simp;have:=H5.out.lt;omega) ?_;intro v' y ho hg EU hat)
   have H7:=H6.out.row (rs:=(ff m.ck m.ws D k).rs++[t]) hg (by show World.ownsRow _ _ _ _ _ _ _;rw[List.length_append,cP];exact ho) (by rcases hat with h'|h';exact Or.inl h';exact Or.inr (by rw[h'];simp));exact⟨⟨k+1,by omega,by go_num,_,_,by rw[HST.out];exact H7⟩,by simp[intOf];omega⟩
  have e9:k=m.rs.length:=by omega
  subst e9;clear hlt;have Hf:Hid (ff m.ck m.ws D m.rs.length=⟨(dr m.ck m.ws m.rs (m.qs,m.gs)).1,(dr m.ck m.ws m.rs (m.qs,m.gs)).2.1,(dr m.ck m.ws m.rs (m.qs,m.gs)).2.2,[]⟩):=by show _=_;rw[hD];unfold ff jV dr;simp
  obtain⟨DL,RF⟩:∃DL,DL=ff m.ck m.ws D m.rs.length:=⟨_,rfl⟩
  rw[<-RF]at HV Hf;obtain⟨lr,lq,lg,lc⟩:=DL;have RH:=ah Hf.out;have Pq:Hid (cQ m.ck ⟨lr,lq,lg,lc⟩):=by have h:=iL (ws:=m.ws) BI.out D.rs.length;rw[tL,hD]at h;show cQ _ _;rw[RH.out];exact h
  clear Hf RF;have ka:∀j,wr.cell? ⟨w.heap.size,j,none⟩=((bY m.nm m.up m.ck m.kn m.se (ai a1 m.ws n1) (ai a2 m.rs n2) q0 g0):Array Value)[j]?:=HV.out.sc.b;go_wp2_with fail
  clear ka
  go_loopw [3,11] (fun v i wx=>∃(k:Nat),k<=m.ws.length/\i=.int .i64 k/\∃rs,Hid (rs=(m.ws.take k).foldl cN lr)/\Hid (Lv w #[.string m.nm,.bool m.up,.int .i64 m.ck,.bool m.kn,.int .i64 m.se,.slice a1 m.ws.length n1,.slice a2 m.rs.length n2] q0 g0 ⟨rs,lq,lg,lc⟩ v wx)) (fun _ i _=>m.ws.length-(intOf i).toNat)
  case atStart=>exact⟨0,Nat.zero_le _,rfl,_,rfl,HV.out⟩
  obtain⟨k,hk,rfl,rs,xU,HV⟩:=hrel
  rename World=>wo
  by_cases hlt:k<m.ws.length
  ·
   obtain⟨q,hq⟩:∃q,m.ws[k]?=some q:=⟨m.ws[k],List.getElem?_eq_getElem hlt⟩
   have Hq:=ah hq;have i1:(k:Int)<(m.ws.length:Int):=(by omega);obtain⟨g1,rfl,hg1,RI⟩:=I4.out.resolve_left (fun h=>by rw[h]at hlt;simp at hlt);have ka:∀j,wo.cell? ⟨w.heap.size,j,none⟩=((bY m.nm m.up m.ck m.kn m.se (.slice (some ⟨g1,0,none⟩) m.ws.length n1) (ai a2 m.rs n2) q0 g0):Array Value)[j]?:=HV.out.sc.b;have I8:Hid (cQ m.ck ⟨rs,lq,lg,lc⟩):=(by show cQ _ _;rw[xU.out];exact tM Pq.out Du.out k);have hrl2:rs.length<=20:=I8.out.ln;have Ux:Hid (dx rs):=gM.2 I8.out.rp.2;have hrw:=(RI.keep hg1 HV.out.sc.e).at hq;simp only[Nat.zero_add]at hrw;obtain⟨r0,r1,r2,r3,r4,r5,r6⟩:=hrw;obtain⟨ar,cr,rfl⟩:=HV.out.ov.shape;obtain⟨W2,hW2⟩:∃W2,W2=(wo.alloc (.cells (aX q.c q.v q.h q.p q.s q.d q.g) 37)):=⟨_,rfl⟩
   have HW2:=ah hW2;have KB:Hid (∀y,Below W2.heap.size W2 y->yE y wo.heap.size q.c q.v q.h q.p q.s q.d q.g):=fun y hb=>by rw[hW2]at hb;have hk:=aJ hb;exact⟨by rw[hk 0];simp[go_sem],by rw[hk 1];simp[go_sem],by rw[hk 2];simp[go_sem],by rw[hk 3];simp[go_sem],by rw[hk 4];simp[go_sem],by rw[hk 5];simp[go_sem],by rw[hk 6];simp[go_sem]⟩
   have HB2:Hid (Below wo.heap.size wo W2):=(by show Below _ _ _;rw[hW2];exact ae bR _);have Dx:Hid (Lv w #[.string m.nm,.bool m.up,.int .i64 m.ck,.bool m.kn,.int .i64 m.se,.slice (some ⟨g1,0,none⟩) m.ws.length n1,.slice a2 m.rs.length n2] q0 g0 ⟨rs,lq,lg,lc⟩ (ai ar rs cr) W2):=HV.out.keep HB2.out;clear hW2 hq RI;go_wp2_with fail
   rw[<-HW2.out];clear ka r0 r1 r2 r3 r4 r5 r6
   go_loopw [13] (fun i wx=>∃(j:Nat),j<=rs.length/\i=.int .i64 j/\Hid (ET rs q.c j)/\Hid (Below W2.heap.size W2 wx)) (fun i _=>rs.length-(intOf i).toNat)
   case atStart=>exact⟨0,Nat.zero_le _,rfl,(fun j y hj=>by omega),Below.refl _ _⟩
   obtain⟨j,hj,rfl,HL,HB⟩:=hrel;obtain⟨kb,-⟩:=KB.out wr HB.out;have HJ:=ah hj
   go_upto_region 20 with(fail)
   go_cut [114] (fun v wx=>v=.bool (lI rs q.c j)/\Hid (Below W2.heap.size W2 wx))
   case first=>
    by_cases hlt:j<rs.length
    ·
     obtain⟨y,hy⟩:∃y,rs[j]?=some y:=⟨rs[j],List.getElem?_eq_getElem hlt⟩
     have HC:Hid (lI rs q.c j=Op.bytesLess y.c.toList q.c.toList):=(by show _=_;unfold lI;rw[hy]);have i1:(j:Int)<(rs.length:Int):=(by omega);have hov:Ow _ (ai ar rs cr) rs (w.heap.size+2):=(Dx.out.keep HB.out).ov;rcases hov.sl with⟨-,h⟩|⟨g,cap,h,-,hg,hR,-⟩;·rw[h]at hlt;simp at hlt
     injection h with e1 e2 e3;subst e1 e3;obtain⟨c0,-⟩:=hR.at hy;rw[Nat.zero_add]at c0;clear hy hR hov;go_wp2_with fail
     go_quiet (fail)
     go_wp2_with fail
     go_meet
     exact⟨by rw[HC.out],eM HB.out⟩
    have e:j=rs.length:=(by omega);subst e;have HC:Hid (lI rs q.c rs.length=false):=(by show _=_;unfold lI;rw[List.getElem?_eq_none (Nat.le_refl _)]);clear hlt;go_wp2_with fail
    go_quiet (fail)
    go_wp2_with fail
    go_meet
    exact⟨by rw[HC.out],eM HB.out⟩
   rename World=>W1
   obtain⟨rfl,HB1⟩:=hcut;cases hc:lI rs q.c j
   ·
    have HG:Hid (∀y,rs[j]?=some y->bytesBefore (aM y) q.c.data.toList=false):=fun y hy=>by have h:Op.bytesLess y.c.toList q.c.toList=false:=(by unfold lI at hc;rw[hy]at hc;exact hc);rw[lD]at h;exact h
    clear hc kb
    go_upto_region 22 with(fail)
    go_cut [136] (fun v wx=>v=.bool (jn rs q.c j)/\Hid (Below W1.heap.size W1 wx))
    case first=>
     obtain⟨kb,-⟩:=KB.out W1 HB1.out;by_cases h20:20<=rs.length
     ·
      have HC:Hid (jn rs q.c j=true):=(by show _=_;unfold jn;rw[decide_eq_true h20];rfl);have i20:(20:Int)<=(rs.length:Int):=(by omega);clear h20
      go_quiet (fail)
      go_wp2_with fail
      go_meet
      exact⟨by rw[HC.out],eM bR⟩
     have hd0:decide ((20:Int)<=(rs.length:Int))=false:=decide_eq_false (by omega);by_cases hlt:j<rs.length
     ·
      obtain⟨y,hy⟩:∃y,rs[j]?=some y:=⟨rs[j],List.getElem?_eq_getElem hlt⟩
      have HC:Hid (jn rs q.c j=(y.c.toList==q.c.toList)):=(by show _=_;unfold jn LJ;rw[decide_eq_false h20,hy];rfl);have i1:(j:Int)<(rs.length:Int):=(by omega);have hov:Ow _ (ai ar rs cr) rs (w.heap.size+2):=(Dx.out.keep HB1.out).ov;rcases hov.sl with⟨-,h⟩|⟨g,cap,h,-,hg,hR,-⟩;·rw[h]at hlt;simp at hlt
      injection h with e1 e2 e3;subst e1 e3;obtain⟨c0,-⟩:=hR.at hy;rw[Nat.zero_add]at c0;clear hy hR hov;clear h20
      go_quiet (fail)
      go_wp2_with fail
      go_meet
      exact⟨by rw[HC.out],eM bR⟩
     have e:j=rs.length:=(by omega);subst e;have HC:Hid (jn rs q.c rs.length=false):=(by show _=_;unfold jn LJ;rw[decide_eq_false h20,List.getElem?_eq_none (Nat.le_refl _)];rfl);clear hlt h20
     go_quiet (fail)
     go_wp2_with fail
     go_meet
     exact⟨by rw[HC.out],eM bR⟩
    rename World=>Wz
    obtain⟨rfl,HD⟩:=hcut;cases hs:jn rs q.c j
    ·
     obtain⟨hst,RJ⟩:=Dq hs HJ.out Ux.out HL.out HG.out;have LP:Hid (rs.take j++[newR q]++rs.drop j=(m.ws.take (k+1)).foldl cN lr):=(by show _=_;rw[eG _ _ Hq.out,<-xU.out,hst]);have Di:Hid (Below W2.heap.size W2 Wz):=af HB1.out HD.out;have Nl:Hid (Lv w #[.string m.nm,.bool m.up,.int .i64 m.ck,.bool m.kn,.int .i64 m.se,.slice (some ⟨g1,0,none⟩) m.ws.length n1,.slice a2 m.rs.length n2] q0 g0 ⟨rs,lq,lg,lc⟩ (ai ar rs cr) Wz):=Dx.out.keep Di.out;have KZ:Hid (∀y,Below Wz.heap.size Wz y->yE y wo.heap.size q.c q.v q.h q.p q.s q.d q.g):=fun y hb=>KB.out y (af Di.out hb);have hov:Ow Wz (ai ar rs cr) rs (w.heap.size+2):=Nl.out.ov;have hcap:=(gd hov).1;have hjc:j<=cr:=Nat.le_trans HJ.out hcap;obtain⟨nR,hnR⟩:∃nR,nR=rs.length-j:=⟨_,rfl⟩
     have HN:Hid (nR=(rs.drop j).length):=(by show _=_;rw[List.length_drop];exact hnR);have GN:Hid (nR<=rs.length):=(by show _<=_;omega);have hto:=xR.Ay ar rs.length cr j hjc;have hrs:=xR.to hov HJ.out;obtain⟨aH,cH,hH⟩:∃aH cH,sliced ar 0 j cr 11=.slice aH j cH:=⟨_,_,rfl⟩
     rw[hH]at hto hrs;rw[om]at hrs;have GQ:=ah hrs;have hfr:=xR.sd ar rs.length cr j HJ.out;have hrf:=xR.Lr hov HJ.out;obtain⟨aT,cT,hT⟩:∃aT cT,sliced ar j rs.length cr 11=.slice aT nR cT:=⟨_,_,by rw[hnR];rfl⟩
     rw[hT]at hfr hrf;rw[<-hnR,ot]at hrf;have HR:=ah hrf;clear hrs hH hrf hT hs hst hnR hcap hov
     go_upto_region 23 with(fail)
     refine wp_region_noPanic ?_;refine wp_region_held_drew (S:=fun y=>yE y wo.heap.size q.c q.v q.h q.p q.s q.d q.g) (by kernel_rfl) (KZ.out _ bD) (fun hHeld=>?_);refine aF 1 ?_;refine aF 2 ?_;try simp only[sp]
     refine aF 3 ?_;refine aF 5 ?_;try simp only[sp]
     refine aF 6 ?_;refine aF 7 ?_;try simp only[sp]
     refine aF 8 ?_;refine aF 11 ?_;try simp only[sp]
     refine aF 12 ?_;refine aF 13 ?_;try simp only[sp]
     clear hto hfr;refine wpAnyH_ready (rs:=[0,9]) (by kernel_rfl) (by simp) ?_;refine(AllReadyH.cons rfl (fun K hK=>?_) (AllReadyH.cons rfl (fun K hK=>?_) AllReadyH.nil))
     ·
      have nb0:=jH
      go_simp
      clear nb0;refine hK.out _ _ (KZ.out _ (ae bD _)) (fun hH1=>?_);clear hK K;try simp only[sp]
      have O1:Hid (((World.drew Wz).alloc (.cells #[] 39)).ownsRow Wz.heap.size 39 11 (.slice (some ⟨Wz.heap.size,0,none⟩) 0 0) 0 []):=(by exact World.ownsRow_made _ #[] 0 (Below.size bD) (Nat.zero_le _) rfl);refine wpAnyH_ready (rs:=[4,9]) (by kernel_rfl) (by simp) ?_;refine(AllReadyH.cons rfl (fun K hK=>?_) (AllReadyH.cons rfl (fun K hK=>?_) AllReadyH.nil))
      ·
       refine bF (by rfl) ?_;refine xR.app Wz.heap.size (.tmp 137) (.tmp 140) rfl (.slice (some ⟨Wz.heap.size,0,none⟩) 0 0) _ (0) (j) ([]) (aA (rs.take j)) rfl O1.out (Below.size (ae bD _)) rfl (GQ.out.keep (ae bD _)) (by rw[aZ,List.length_take,Nat.min_eq_left HJ.out]) (bw _) (by omega) ?_;intro s2 w2 o2 hg2 yW;have B2:Hid (Below Wz.heap.size Wz w2):=Below.grown (ae bD _) hg2 (Below.size (ae bD _)) (br O1.out);have O2:=ah o2;refine hK.out _ _ (KZ.out _ B2.out) (fun hH2=>?_);clear o2 hg2 yW;clear hK K;try simp only[sp]
       refine wpAnyH_ready (rs:=[9]) (by kernel_rfl) (by simp) ?_;refine(AllReadyH.cons rfl (fun K hK=>?_) AllReadyH.nil);have AB:=AQ q
       go_simp
       clear AB;refine hK.out _ _ (KZ.out _ (ae B2.out _)) (fun hH3=>?_);clear hK K;try simp only[sp]
       have C3:Hid ((w2.alloc (.cells (newR q).cells.toArray 39)).heap[w2.heap.size]?=some (.cells (newR q).cells.toArray 39 (0,0))):=(by exact fy _ _);have O3:Hid ((w2.alloc (.cells (newR q).cells.toArray 39)).ownsRow Wz.heap.size 39 11 s2 ((0)+(j)) (([])++(aA (rs.take j)))):=aN O2.out (ae bR _);refine wpAnyH_ready (rs:=[10]) (by kernel_rfl) (by simp) ?_;refine(AllReadyH.cons rfl (fun K hK=>?_) AllReadyH.nil);refine bF (by rfl) ?_;refine xR.app Wz.heap.size (.tmp 141) (.tmp 146) rfl s2 _ ((0)+(j)) (1) (([])++(aA (rs.take j))) ((newR q).cells) rfl O3.out (Below.size (ae B2.out _)) rfl (jP (C:=(newR q).cells.toArray) C3.out) (by rfl) (aU _) (by omega) ?_;intro s4 w4 o4 hg4 yX;have B4:Hid (Below Wz.heap.size Wz w4):=Below.grown (ae B2.out _) hg4 (Below.size (ae B2.out _)) (br O3.out);have O4:=ah o4;refine hK.out _ _ (KZ.out _ B4.out) (fun ME=>?_);clear o4 hg4 yX;clear hK K;try simp only[sp]
       refine wpAnyH_ready (rs:=[14]) (by kernel_rfl) (by simp) ?_;refine(AllReadyH.cons rfl (fun K hK=>?_) AllReadyH.nil);refine bF (by rfl) ?_;refine xR.app Wz.heap.size (.tmp 147) (.tmp 150) rfl s4 _ (((0)+(j))+(1)) (nR) ((([])++(aA (rs.take j)))++((newR q).cells)) (aA (rs.drop j)) rfl O4.out (Below.size B4.out) rfl (HR.out.keep B4.out) (by rw[aZ,HN.out]) (bw _) (by have:=GN.out;omega) ?_;intro s5 w5 o5 hg5 GR;have B5:Hid (Below Wz.heap.size Wz w5):=Below.grown B4.out hg5 (Below.size B4.out) (br O4.out);have O5:=ah o5;refine hK.out _ _ (KZ.out _ B5.out) (fun hH5=>?_);clear o5 hg5 GR;clear hK K;try simp only[sp]
       refine aF 15 ?_;try simp only[sp]
       refine wpAnyH_done (by kernel_rfl) ?_ _;refine NoPanic.normal ?_;have ho:=O5.out;have CK:Hid (Ow w5 s5 (rs.take j++[newR q]++rs.drop j) Wz.heap.size):=(by show World.ownsRow _ _ _ _ _ _ _;rw[List.length_append,List.length_append,List.length_take,Nat.min_eq_left HJ.out,gk,gk,<-HN.out,show aA [newR q]=(newR q).cells from by simp[aA]];simp only[List.nil_append,Nat.zero_add]at ho;exact ho);clear ho;go_wp2_with fail
       exact⟨⟨k+1,by omega,by go_num,_,LP.out,Nl.out.rows B5.out CK.out⟩,by simp[intOf];omega⟩
      have AB:=AQ q
      go_simp
      clear AB;refine hK.out _ _ (KZ.out _ (ae (ae bD _) _)) (fun hH6=>?_);clear hK K;try simp only[sp]
      have C6:Hid ((((World.drew Wz).alloc (.cells #[] 39)).alloc (.cells (newR q).cells.toArray 39)).heap[Wz.heap.size+1]?=some (.cells (newR q).cells.toArray 39 (0,0))):=(by show _=_;rw[show Wz.heap.size+1=((World.drew Wz).alloc (.cells #[] 39)).heap.size from by simp];exact fy _ _);have O6:Hid ((((World.drew Wz).alloc (.cells #[] 39)).alloc (.cells (newR q).cells.toArray 39)).ownsRow Wz.heap.size 39 11 (.slice (some ⟨Wz.heap.size,0,none⟩) 0 0) (0) ([])):=aN O1.out (ae bR _);refine wpAnyH_ready (rs:=[4]) (by kernel_rfl) (by simp) ?_;refine(AllReadyH.cons rfl (fun K hK=>?_) AllReadyH.nil);refine bF (by rfl) ?_;refine xR.app Wz.heap.size (.tmp 137) (.tmp 140) rfl (.slice (some ⟨Wz.heap.size,0,none⟩) 0 0) _ (0) (j) ([]) (aA (rs.take j)) rfl O6.out (Below.size (ae (ae bD _) _)) rfl (GQ.out.keep (ae (ae bD _) _)) (by rw[aZ,List.length_take,Nat.min_eq_left HJ.out]) (bw _) (by omega) ?_;intro s7 w7 o7 GU GV;have B7:Hid (Below Wz.heap.size Wz w7):=Below.grown (ae (ae bD _) _) GU (Below.size (ae (ae bD _) _)) (br O6.out);have O7:=ah o7;have C7:Hid (w7.heap[Wz.heap.size+1]?=some (.cells (newR q).cells.toArray 39 (0,0))):=(GU.block _ (Array.getElem?_eq_some_iff.1 C6.out).1 (by simp[Value.ownBlock])).trans C6.out;refine hK.out _ _ (KZ.out _ B7.out) (fun hH7=>?_);clear o7 GU GV;clear hK K;try simp only[sp]
      refine wpAnyH_ready (rs:=[10]) (by kernel_rfl) (by simp) ?_;refine(AllReadyH.cons rfl (fun K hK=>?_) AllReadyH.nil);refine bF (by rfl) ?_;refine xR.app Wz.heap.size (.tmp 141) (.tmp 146) rfl s7 _ ((0)+(j)) (1) (([])++(aA (rs.take j))) ((newR q).cells) rfl O7.out (Below.size B7.out) rfl (jP (C:=(newR q).cells.toArray) C7.out) (by rfl) (aU _) (by omega) ?_;intro s8 w8 o8 Lt GX;have B8:Hid (Below Wz.heap.size Wz w8):=Below.grown B7.out Lt (Below.size B7.out) (br O7.out);have O8:=ah o8;refine hK.out _ _ (KZ.out _ B8.out) (fun Uq=>?_);clear o8 Lt GX;clear hK K;try simp only[sp]
      refine wpAnyH_ready (rs:=[14]) (by kernel_rfl) (by simp) ?_;refine(AllReadyH.cons rfl (fun K hK=>?_) AllReadyH.nil);refine bF (by rfl) ?_;refine xR.app Wz.heap.size (.tmp 147) (.tmp 150) rfl s8 _ (((0)+(j))+(1)) (nR) ((([])++(aA (rs.take j)))++((newR q).cells)) (aA (rs.drop j)) rfl O8.out (Below.size B8.out) rfl (HR.out.keep B8.out) (by rw[aZ,HN.out]) (bw _) (by have:=GN.out;omega) ?_;intro s9 w9 o9 lU GY;have B9:Hid (Below Wz.heap.size Wz w9):=Below.grown B8.out lU (Below.size B8.out) (br O8.out);have O9:=ah o9;refine hK.out _ _ (KZ.out _ B9.out) (fun FD=>?_);clear o9 lU GY;clear hK K;try simp only[sp]
      refine aF 15 ?_;try simp only[sp]
      refine wpAnyH_done (by kernel_rfl) ?_ _;refine NoPanic.normal ?_;have ho:=O9.out;have CK:Hid (Ow w9 s9 (rs.take j++[newR q]++rs.drop j) Wz.heap.size):=(by show World.ownsRow _ _ _ _ _ _ _;rw[List.length_append,List.length_append,List.length_take,Nat.min_eq_left HJ.out,gk,gk,<-HN.out,show aA [newR q]=(newR q).cells from by simp[aA]];simp only[List.nil_append,Nat.zero_add]at ho;exact ho);clear ho;go_wp2_with fail
      exact⟨⟨k+1,by omega,by go_num,_,LP.out,Nl.out.rows B9.out CK.out⟩,by simp[intOf];omega⟩
     have AB:=AQ q
     go_simp
     clear AB;refine hK.out _ _ (KZ.out _ (ae bD _)) (fun FE=>?_);clear hK K;try simp only[sp]
     have Pf:Hid (((World.drew Wz).alloc (.cells (newR q).cells.toArray 39)).heap[Wz.heap.size]?=some (.cells (newR q).cells.toArray 39 (0,0))):=(by exact fy _ _);refine wpAnyH_ready (rs:=[0]) (by kernel_rfl) (by simp) ?_;refine(AllReadyH.cons rfl (fun K hK=>?_) AllReadyH.nil);have nb0:=jH
     go_simp
     clear nb0;refine hK.out _ _ (KZ.out _ (ae (ae bD _) _)) (fun Pg=>?_);clear hK K;try simp only[sp]
     have Lu:Hid ((((World.drew Wz).alloc (.cells (newR q).cells.toArray 39)).alloc (.cells #[] 39)).ownsRow Wz.heap.size 39 11 (.slice (some ⟨Wz.heap.size+1,0,none⟩) 0 0) 0 []):=(by rw[show Wz.heap.size+1=((World.drew Wz).alloc (.cells (newR q).cells.toArray 39)).heap.size from by simp];exact World.ownsRow_made _ #[] 0 (Below.size (ae bD _)) (Nat.zero_le _) rfl);have Lw:Hid ((((World.drew Wz).alloc (.cells (newR q).cells.toArray 39)).alloc (.cells #[] 39)).heap[Wz.heap.size]?=some (.cells (newR q).cells.toArray 39 (0,0))):=pT Pf.out;refine wpAnyH_ready (rs:=[4]) (by kernel_rfl) (by simp) ?_;refine(AllReadyH.cons rfl (fun K hK=>?_) AllReadyH.nil);refine bF (by rfl) ?_;refine xR.app Wz.heap.size (.tmp 137) (.tmp 140) rfl (.slice (some ⟨Wz.heap.size+1,0,none⟩) 0 0) _ (0) (j) ([]) (aA (rs.take j)) rfl Lu.out (Below.size (ae (ae bD _) _)) rfl (GQ.out.keep (ae (ae bD _) _)) (by rw[aZ,List.length_take,Nat.min_eq_left HJ.out]) (bw _) (by omega) ?_;intro s12 Lx Ly vt AE;have AF:Hid (Below Wz.heap.size Wz Lx):=Below.grown (ae (ae bD _) _) vt (Below.size (ae (ae bD _) _)) (br Lu.out);have LA:=ah Ly;have I3:Hid (Lx.heap[Wz.heap.size]?=some (.cells (newR q).cells.toArray 39 (0,0))):=(vt.block _ (Array.getElem?_eq_some_iff.1 Lw.out).1 (by simp[Value.ownBlock])).trans Lw.out;refine hK.out _ _ (KZ.out _ AF.out) (fun Ph=>?_);clear Ly vt AE;clear hK K;try simp only[sp]
     refine wpAnyH_ready (rs:=[10]) (by kernel_rfl) (by simp) ?_;refine(AllReadyH.cons rfl (fun K hK=>?_) AllReadyH.nil);refine bF (by rfl) ?_;refine xR.app Wz.heap.size (.tmp 141) (.tmp 146) rfl s12 _ ((0)+(j)) (1) (([])++(aA (rs.take j))) ((newR q).cells) rfl LA.out (Below.size AF.out) rfl (jP (C:=(newR q).cells.toArray) I3.out) (by rfl) (aU _) (by omega) ?_;intro s13 yI LB AG AH;have xV:Hid (Below Wz.heap.size Wz yI):=Below.grown AF.out AG (Below.size AF.out) (br LA.out);have LC:=ah LB;refine hK.out _ _ (KZ.out _ xV.out) (fun Pj=>?_);clear LB AG AH;clear hK K;try simp only[sp]
     refine wpAnyH_ready (rs:=[14]) (by kernel_rfl) (by simp) ?_;refine(AllReadyH.cons rfl (fun K hK=>?_) AllReadyH.nil);refine bF (by rfl) ?_;refine xR.app Wz.heap.size (.tmp 147) (.tmp 150) rfl s13 _ (((0)+(j))+(1)) (nR) ((([])++(aA (rs.take j)))++((newR q).cells)) (aA (rs.drop j)) rfl LC.out (Below.size xV.out) rfl (HR.out.keep xV.out) (by rw[aZ,HN.out]) (bw _) (by have:=GN.out;omega) ?_;intro Rx Na LD AJ AK;have LG:Hid (Below Wz.heap.size Wz Na):=Below.grown xV.out AJ (Below.size xV.out) (br LC.out);have FA:=ah LD;refine hK.out _ _ (KZ.out _ LG.out) (fun Pk=>?_);clear LD AJ AK;clear hK K;try simp only[sp]
     refine aF 15 ?_;try simp only[sp]
     refine wpAnyH_done (by kernel_rfl) ?_ _;refine NoPanic.normal ?_;have ho:=FA.out;have CK:Hid (Ow Na Rx (rs.take j++[newR q]++rs.drop j) Wz.heap.size):=(by show World.ownsRow _ _ _ _ _ _ _;rw[List.length_append,List.length_append,List.length_take,Nat.min_eq_left HJ.out,gk,gk,<-HN.out,show aA [newR q]=(newR q).cells from by simp[aA]];simp only[List.nil_append,Nat.zero_add]at ho;exact ho);clear ho;go_wp2_with fail
     exact⟨⟨k+1,by omega,by go_num,_,LP.out,Nl.out.rows LG.out CK.out⟩,by simp[intOf];omega⟩
    have LP:Hid (rs=(m.ws.take (k+1)).foldl cN lr):=(by show _=_;rw[eG _ _ Hq.out,<-xU.out,AP hs]);clear hs;go_wp2_with fail
    exact⟨⟨k+1,by omega,by go_num,_,LP.out,Dx.out.keep (af HB1.out HD.out)⟩,by simp[intOf];omega⟩
   have hlt:j<rs.length:=by
    rcases Nat.lt_or_ge j rs.length with h|h;·exact h
    unfold lI at hc;rw[List.getElem?_eq_none h]at hc;cases hc
   go_wp2_with fail
   refine⟨⟨j+1,by omega,by go_num,(fun i z hi hz=>?_),HB1.out⟩,by simp[intOf];omega⟩;by_cases e:i=j
   ·
    subst e;have h:Op.bytesLess z.c.toList q.c.toList=true:=(by unfold lI at hc;rw[hz]at hc;exact hc);rw[lD]at h;exact h
   exact HL.out i z (by omega) hz
  have e9:k=m.ws.length:=by omega
  subst e9;clear hlt;have Uy:Hid (rs=kL m.ws lr):=by show _=_;rw[xU.out,List.take_length];rfl
  obtain⟨aq,pq,rfl⟩:=HV.out.oq.shape;obtain⟨ag,pg,rfl⟩:=HV.out.og.shape;obtain⟨ar,cr,rfl⟩:=HV.out.ov.shape;have ka:∀j,wo.cell? ⟨w.heap.size,j,none⟩=(#[.string m.nm,.bool m.up,.int .i64 m.ck,.bool m.kn,.int .i64 m.se,.slice a1 m.ws.length n1,.slice a2 m.rs.length n2,(ai aq lq pq),(ai ag lg pg)]:Array Value)[j]?:=HV.out.sc.b;have kf:=HV.out.sc.c;have RL:Hid (Sc w #[.string m.nm,.bool m.up,.int .i64 m.ck,.bool m.kn,.int .i64 m.se,.slice a1 m.ws.length n1,.slice ar rs.length cr,(ai aq lq pq),(ai ag lg pg)] (wo.setCell ⟨w.heap.size,6,none⟩ (ai ar rs cr))):=HV.out.sc.set 6 (by simp) _;go_wp2_with (refine wpList_store_mid (by rfl) 27 _ _ (by rfl) (w.heap.size+1) 0 #[.string m.nm,.bool m.up,.int .i64 m.ck,.bool m.kn,.int .i64 m.se,.slice a1 m.ws.length n1,.slice ar rs.length cr,(ai aq lq pq),(ai ag lg pg)] (by rfl) (by rfl) (by exact RL.out.d) vz (by simp[Value.oneCell']) ?_)
  obtain⟨e1,e2,e3,e4⟩:=HV.out.fin [.string m.nm,.bool m.up,.int .i64 m.ck,.bool m.kn,.int .i64 m.se,.slice a1 m.ws.length n1,.slice ar rs.length cr,(ai aq lq pq),(ai ag lg pg)];have hrg:=World.rangeAt_setCells_same (wo.setCell ⟨w.heap.size,6,none⟩ (ai ar rs cr)) (w.heap.size+1) 0 [.string m.nm,.bool m.up,.int .i64 m.ck,.bool m.kn,.int .i64 m.se,.slice a1 m.ws.length n1,.slice ar rs.length cr,(ai aq lq pq),(ai ag lg pg)] RL.out.d;obtain⟨d0,d1,d2,d3,d4,d5,d6,d7,d8⟩:=d9 hrg;have hdl:=RH.out;injection hdl with z1 z2 z3 z4;exact bodyPost_ret (v:=.agg #[.string m.nm,.bool m.up,.int .i64 m.ck,.bool m.kn,.int .i64 m.se,.slice a1 m.ws.length n1,.slice ar rs.length cr,(ai aq lq pq),(ai ag lg pg)]) (by simp[results,results31,go_sem,d0,d1,d2,d3,d4,d5,d6,d7,d8]) rfl ⟨⟨_,_,_,rfl,by rw[<-z1,<-Uy.out];exact e1,by rw[<-z2];exact e2,by rw[<-z3];exact e3⟩,e4⟩
end Go.Proofs.YtlfnpjcjapljpaaGreatDoor
