import Derived.Test.YtlfnpjcjapljpaaGreatDoorJ22
import Derived.Test.YtlfnpjcjapljpaaGreatDoorJ23
namespace Go.Proofs.YtlfnpjcjapljpaaGreatDoor
open Go.RowKit
set_option linter.unusedVariables false
def cx(dm:Bool)(rs:List aw):List aw:=if dm=true then((rs.filter (fun r=>bq r.a)).filter (fun r=>!r.h.toList.isEmpty)).map eZ else rs.filter (fun r=>bq r.a)
theorem jL(dm:Bool)(rs:List aw):(cx dm rs).length<=rs.length:=by
 unfold cx;split
 ·rw[List.length_map];exact Nat.le_trans (List.length_filter_le _ _) (List.length_filter_le _ _)
 exact List.length_filter_le _ _
def fQ(dm:Bool)(m:aj):aj:=⟨m.nm,false,m.ck,false,0,[],cx dm m.rs,[],[]⟩
def Falls(dm:Bool)(m r:aj):Prop:=(Valid m/\r=fQ dm m)\/(¬Valid m/\r=ju)
theorem sS(m:aj)(a:Option Addr)(n p:Nat):∀u∈((dP m.nm false m.ck false 0 (.slice none 0 0) (.slice a n p) (.slice none 0 0) (.slice none 0 0)):List Value),u.oneCell'=true:=by intro u hu;simp only[List.mem_cons,List.not_mem_nil,or_false]at hu;rcases hu with rfl|rfl|rfl|rfl|rfl|rfl|rfl|rfl|rfl<;>rfl
theorem kY(a:Value):eh a (.slice none 0 0):=by
 cases h:a.ownBlock with
 |none=>exact Or.inl h
 |some g=>exact Or.inr (by rw[h];simp[Value.ownBlock])
theorem Sl.Q9{w w':World}{v:Value}{l:List aw}{B k:Nat}(h:Sl w v l B)(he:Ex k w w')(hk:k<B):Sl w' v l B:=
 h.grown (av he) (bC (N:=k) (fun g hg=>Nat.lt_of_lt_of_le hk (h.lt g hg).1) (Nat.le_refl _))
theorem wV{x y z:List UInt8}(h1:Op.bytesLess x y=true)(h2:Op.bytesLess y z=true):Op.bytesLess x z=true:=by rw[bytesLess_eq]at h1 h2 ⊢;exact decide_eq_true (List.lt_trans (of_decide_eq_true h1) (of_decide_eq_true h2))
def dV(clock:Int)(rs:List aw):Prop:=(∀r∈rs,r.ok clock=true)/\rs.Pairwise (fun q r=>Op.bytesLess q.c.toList r.c.toList=true)
theorem sX{rs:List aw}(h:∀j q r,rs[j]?=some q->rs[j+1]?=some r->Op.bytesLess q.c.toList r.c.toList=true):rs.Pairwise (fun q r=>Op.bytesLess q.c.toList r.c.toList=true):=by
 induction rs with
 |nil=>exact List.Pairwise.nil
 |cons a l ih=>
  have hl:=ih (fun j q r hq hr=>h (j+1) q r (by simpa using hq) (by simpa using hr));refine List.Pairwise.cons ?_ hl;cases l with
  |nil=>intro b hb;cases hb
  |cons c l'=>
   have h0:=h 0 a c rfl rfl;intro b hb;rcases List.mem_cons.1 hb with rfl|hb;·exact h0
   exact wV h0 (List.rel_of_pairwise_cons hl hb)
theorem cv(clock:Int)(rs:List aw):dW clock rs rs.length↔dV clock rs:=by
 constructor
 ·
  intro h;have hs:∀j r,rs[j]?=some r->eI clock rs j r=true:=fun j r hr=>h j r ((List.getElem?_eq_some_iff.1 hr).1) hr;refine⟨fun r hr=>?_,sX fun j q r hq hr=>?_⟩
  ·
   obtain⟨j,hj⟩:=List.getElem?_of_mem hr;have:=hs j r hj;simp only[eI,Bool.and_eq_true]at this;exact this.1
  have:=hs (j+1) r hr;simp only[eI,Bool.and_eq_true,hq]at this;exact this.2
 rintro⟨h1,h2⟩ j r hj hr;have ho:=h1 r (List.mem_of_getElem? hr);cases j with
 |zero=>simp[eI,ho]
 |succ i=>
  have hi:i<rs.length:=by omega
  have hq:rs[i]?=some rs[i]:=List.getElem?_eq_getElem hi;have:=List.pairwise_iff_getElem.1 h2 i (i+1) hi hj (by omega);rw[List.getElem?_eq_getElem hj]at hr;cases hr;simp[eI,ho,hq,qJ,this]
theorem zT{clock:Int}{r:aw}(h:r.ok clock=true):(eZ r).ok clock=true:=by simp only[aw.ok,eL,Bool.and_eq_true]at h ⊢;obtain⟨h1,h2,h3,h4,h5,h6⟩:=h;exact⟨h1,by simp[eZ,cA],by simp[eZ,fK],h4,h5,by simp[eZ,bq]⟩
theorem KE{clock:Int}{dm:Bool}{rs:List aw}(h:dV clock rs):dV clock (cx dm rs):=by
 unfold cx;split
 ·
  refine⟨fun x hx=>?_,?_⟩
  ·
   obtain⟨y,hy,rfl⟩:=List.mem_map.1 hx;exact zT (h.1 y (List.mem_filter.1 (List.mem_filter.1 hy).1).1)
  rw[List.pairwise_map];exact(h.2.filter _).filter _
 exact⟨fun x hx=>h.1 x (List.mem_filter.1 hx).1,h.2.filter _⟩
theorem wW{dm:Bool}{rs:List aw}:∀r∈cx dm rs,dL r=true:=by
 intro r hr;unfold cx at hr;split at hr
 ·
  obtain⟨y,hy,rfl⟩:=List.mem_map.1 hr;have:=(List.mem_filter.1 hy).2;simp only[dL,eZ,this,Bool.or_true]
 have:=(List.mem_filter.1 hr).2;simp only[dL,this,Bool.true_or]
theorem va{dm:Bool}{m:aj}(h:Valid m):Valid (fQ dm m):=by obtain⟨h1,-,⟨h3,h4⟩,-,-,-⟩:=h;refine⟨?_,⟨⟨Nat.zero_le _,⟨fun j r hj hr=>by simp[fQ]at hr,fun j q r hj hq hr=>by simp[fQ]at hq,fun j r hj hr=>by simp[fQ]at hr⟩⟩,Or.inr rfl⟩,⟨Nat.le_trans (jL _ _) h3,(cv _ _).2 (KE ((cv _ _).1 h4))⟩,⟨⟨Nat.zero_le _,fun j q r hj hq hr=>by simp[fQ]at hq,fun r hr=>by cases hr⟩,⟨Nat.zero_le _,fun j q r hj hq hr=>by simp[fQ]at hq,fun r hr=>by cases hr⟩⟩,(fun r hr=>by cases hr),Or.inr ⟨rfl,rfl,rfl,wW⟩⟩;simp only[cV,fQ,Bool.and_eq_true]at h1 ⊢;exact⟨h1.1,h1.2.1,by decide⟩
open Go.Proofs.Tryz
set_option maxRecDepth 4000
set_option maxHeartbeats 4000000
def W.Src(w:World)(a:Option Addr)(c:Nat)(l:List W.ay):Prop:=(a=none/\c=0/\l=[])\/∃g,a=some ⟨g,0,none⟩/\g<w.heap.size/\W.aG w g 0 l
theorem W.Src.keep{w w':World}{a:Option Addr}{c:Nat}{l:List W.ay}(h:W.Src w a c l)(hb:Below w.heap.size w w'):W.Src w' a c l:=by
 rcases h with h|⟨g,h1,h2,h3⟩;·exact Or.inl h
 exact Or.inr ⟨g,h1,Nat.lt_of_lt_of_le h2 hb.size,h3.keep h2 hb⟩
theorem W.Sl.src{w:World}{a:Option Addr}{c B:Nat}{l:List W.ay}(h:W.Sl w (ai a l c) l B):W.Src w a c l:=by
 rcases h with⟨h,rfl⟩|⟨g,cap,h0,h1,h2,h3,h4⟩;·cases h;exact Or.inl ⟨rfl,rfl,rfl⟩
 cases h0;exact Or.inr ⟨g,rfl,h2,h3⟩
theorem W.yP{ops:Array Oper}{rest:List Oper}{o:Oper}{a:Act}{Q:Exit->Act->World->Prop}(Wo:World)(hgd:o.guard=none)(s x:Operand)
  (ho:o.op=.call {callee:=.builtin .append,args:=#[s,x],argTypes:=#[23,23]})
  (l:List W.ay) (ad:Option Addr) (c:Nat) (hs:a.eval s=.slice (some ⟨Wo.heap.size,0,none⟩) 0 0) (hx:a.eval x=.slice ad l.length c) (hsrc:W.Src Wo ad c l) (hl:l.length<=1048576)
  (h:∀s' w',W.Sl w' s' l Wo.heap.size->gU s'->Below Wo.heap.size Wo w'->wpList prog ops Q rest (a.put o.dst s') w'):wpList prog ops Q (o::rest) a (Wo.alloc (.cells #[] 37)):=by
 obtain⟨i0,hi,hz0,hz1,hz2⟩:=info_parts W.cE;have hown:(Wo.alloc (.cells #[] 37)).ownsRow Wo.heap.size 37 7 (.slice (some ⟨Wo.heap.size,0,none⟩) 0 0) 0 []:=World.ownsRow_made Wo #[] 0 (Nat.le_refl _) (Nat.zero_le _) rfl;have hb:Below Wo.heap.size Wo (Wo.alloc (.cells #[] 37)):=ae bR _;rcases hsrc with⟨rfl,rfl,rfl⟩|⟨g,rfl,hg,hr⟩;·exact wpList_append_own_none hgd s x 23 ho Wo.heap.size 37 i0 7 underlying23 hi _ 0 [] hs hown hx (h _ _ (W.Sl.bE (l:=[]) hown) (iy hown) hb)
 ·
  refine wpList_append_own _ hgd s x 23 ho Wo.heap.size 37 i0 _ 7 72 underlying23 hi hz0 hz1 hz2 rfl (by decide) _ 0 [] hs hown ⟨g,0,none⟩ l.length c (W.aA l) hx (W.aZ _) (W.cO (hr.keep hg hb)) (W.bw _) (by unfold maxLen;omega) (by omega) hb.size ?_;intro s' w' ho' hg' hn';exact h s' w' (W.Sl.bE (by simpa using ho')) (iy ho') (Below.grown hb hg' hb.size (fun j hj=>by cases hj;exact Nat.le_refl _))
theorem W.gV{ops:Array Oper}{rest:List Oper}{o:Oper}{a:Act}{Q:Exit->Act->World->Prop}(Wo:World)(hgd:o.guard=none)(s x:Operand)
  (ho:o.op=.call {callee:=.builtin .append,args:=#[s,x],argTypes:=#[23,23]})
  (l:List W.ay) (ad:Option Addr) (c:Nat) (hs:a.eval s=.slice (some ⟨Wo.heap.size,0,none⟩) 0 0) (hx:a.eval x=.slice ad l.length c) (hsrc:W.Src Wo ad c l) (hl:l.length<=1048576)
  (h:∀s' w',W.Sl w' s' l Wo.heap.size->Below Wo.heap.size Wo w'->wpList prog ops Q rest (a.put o.dst s') w'):wpList prog ops Q (o::rest) a (Wo.alloc (.cells #[] 37)):=
 W.yP Wo hgd s x ho l ad c hs hx hsrc hl (fun s' w' h1 _ h2=>h s' w' h1 h2)
def Src(w:World)(a:Option Addr)(c:Nat)(l:List aw):Prop:=(a=none/\c=0/\l=[])\/∃g,a=some ⟨g,0,none⟩/\g<w.heap.size/\aG w g 0 l
theorem Src.keep{w w':World}{a:Option Addr}{c:Nat}{l:List aw}(h:Src w a c l)(hb:Below w.heap.size w w'):Src w' a c l:=by
 rcases h with h|⟨g,h1,h2,h3⟩;·exact Or.inl h
 exact Or.inr ⟨g,h1,Nat.lt_of_lt_of_le h2 hb.size,h3.keep h2 hb⟩
theorem Sl.src{w:World}{a:Option Addr}{c B:Nat}{l:List aw}(h:Sl w (ai a l c) l B):Src w a c l:=by
 rcases h with⟨h,rfl⟩|⟨g,cap,h0,h1,h2,h3,h4⟩;·cases h;exact Or.inl ⟨rfl,rfl,rfl⟩
 cases h0;exact Or.inr ⟨g,rfl,h2,h3⟩
theorem gV{ops:Array Oper}{rest:List Oper}{o:Oper}{a:Act}{Q:Exit->Act->World->Prop}(Wo:World)(hgd:o.guard=none)(s x:Operand)
  (ho:o.op=.call {callee:=.builtin .append,args:=#[s,x],argTypes:=#[24,24]})
  (l:List aw) (ad:Option Addr) (c:Nat) (hs:a.eval s=.slice (some ⟨Wo.heap.size,0,none⟩) 0 0) (hx:a.eval x=.slice ad l.length c) (hsrc:Src Wo ad c l) (hl:l.length<=1048576)
  (h:∀s' w',Sl w' s' l Wo.heap.size->Below Wo.heap.size Wo w'->wpList prog ops Q rest (a.put o.dst s') w'):wpList prog ops Q (o::rest) a (Wo.alloc (.cells #[] 39)):=by
 obtain⟨i0,hi,hz0,hz1,hz2⟩:=info_parts cE;have hown:(Wo.alloc (.cells #[] 39)).ownsRow Wo.heap.size 39 11 (.slice (some ⟨Wo.heap.size,0,none⟩) 0 0) 0 []:=World.ownsRow_made Wo #[] 0 (Nat.le_refl _) (Nat.zero_le _) rfl;have hb:Below Wo.heap.size Wo (Wo.alloc (.cells #[] 39)):=ae bR _;rcases hsrc with⟨rfl,rfl,rfl⟩|⟨g,rfl,hg,hr⟩;·exact wpList_append_own_none hgd s x 24 ho Wo.heap.size 39 i0 11 underlying24 hi _ 0 [] hs hown hx (h _ _ (Sl.bE (l:=[]) hown) hb)
 ·
  refine wpList_append_own _ hgd s x 24 ho Wo.heap.size 39 i0 _ 11 104 underlying24 hi hz0 hz1 hz2 rfl (by decide) _ 0 [] hs hown ⟨g,0,none⟩ l.length c (aA l) hx (aZ _) (cO (hr.keep hg hb)) (bw _) (by unfold maxLen;omega) (by omega) hb.size ?_;intro s' w' ho' hg' hn';exact h s' w' (Sl.bE (by simpa using ho')) (Below.grown hb hg' hb.size (fun j hj=>by cases hj;exact Nat.le_refl _))
def A.Src(w:World)(a:Option Addr)(c:Nat)(l:List A.aC):Prop:=(a=none/\c=0/\l=[])\/∃g,a=some ⟨g,0,none⟩/\g<w.heap.size/\A.aG w g 0 l
theorem A.Src.keep{w w':World}{a:Option Addr}{c:Nat}{l:List A.aC}(h:A.Src w a c l)(hb:Below w.heap.size w w'):A.Src w' a c l:=by
 rcases h with h|⟨g,h1,h2,h3⟩;·exact Or.inl h
 exact Or.inr ⟨g,h1,Nat.lt_of_lt_of_le h2 hb.size,h3.keep h2 hb⟩
theorem A.Sl.src{w:World}{a:Option Addr}{c B:Nat}{l:List A.aC}(h:A.Sl w (ai a l c) l B):A.Src w a c l:=by
 rcases h with⟨h,rfl⟩|⟨g,cap,h0,h1,h2,h3,h4⟩;·cases h;exact Or.inl ⟨rfl,rfl,rfl⟩
 cases h0;exact Or.inr ⟨g,rfl,h2,h3⟩
theorem A.gV{ops:Array Oper}{rest:List Oper}{o:Oper}{a:Act}{Q:Exit->Act->World->Prop}(Wo:World)(hgd:o.guard=none)(s x:Operand)
  (ho:o.op=.call {callee:=.builtin .append,args:=#[s,x],argTypes:=#[25,25]})
  (l:List A.aC) (ad:Option Addr) (c:Nat) (hs:a.eval s=.slice (some ⟨Wo.heap.size,0,none⟩) 0 0) (hx:a.eval x=.slice ad l.length c) (hsrc:A.Src Wo ad c l) (hl:l.length<=1048576)
  (h:∀s' w',A.Sl w' s' l Wo.heap.size->Below Wo.heap.size Wo w'->wpList prog ops Q rest (a.put o.dst s') w'):wpList prog ops Q (o::rest) a (Wo.alloc (.cells #[] 64)):=by
 obtain⟨i0,hi,hz0,hz1,hz2⟩:=info_parts A.cE;have hown:(Wo.alloc (.cells #[] 64)).ownsRow Wo.heap.size 64 4 (.slice (some ⟨Wo.heap.size,0,none⟩) 0 0) 0 []:=World.ownsRow_made Wo #[] 0 (Nat.le_refl _) (Nat.zero_le _) rfl;have hb:Below Wo.heap.size Wo (Wo.alloc (.cells #[] 64)):=ae bR _;rcases hsrc with⟨rfl,rfl,rfl⟩|⟨g,rfl,hg,hr⟩;·exact wpList_append_own_none hgd s x 25 ho Wo.heap.size 64 i0 4 underlying25 hi _ 0 [] hs hown hx (h _ _ (A.Sl.bE (l:=[]) hown) hb)
 ·
  refine wpList_append_own _ hgd s x 25 ho Wo.heap.size 64 i0 _ 4 48 underlying25 hi hz0 hz1 hz2 rfl (by decide) _ 0 [] hs hown ⟨g,0,none⟩ l.length c (A.aA l) hx (A.aZ _) (A.cO (hr.keep hg hb)) (A.bw _) (by unfold maxLen;omega) (by omega) hb.size ?_;intro s' w' ho' hg' hn';exact h s' w' (A.Sl.bE (by simpa using ho')) (Below.grown hb hg' hb.size (fun j hj=>by cases hj;exact Nat.le_refl _))
theorem ic(m:aj)(x1 x2 x3 x4:Option Addr)(c1 c2 c3 c4:Nat)(w:World):Sc w (bK m x1 x2 x3 x4 c1 c2 c3 c4) ((w.alloc (.cells (bK m x1 x2 x3 x4 c1 c2 c3 c4) 27)).alloc (.cells iU 27)):=
 ⟨fun k=>by simp[go_sem],fun k=>by simp[go_sem],fun j hj=>⟨by simp[go_sem]<;>omega,by simp[go_sem]⟩,ae (ae bR _) _,by simp⟩
theorem nc(m:aj)(x1 x2 x3 x4:Option Addr)(c1 c2 c3 c4:Nat)(w:World)(h1:W.Src w x1 c1 m.ws)(h2:Src w x2 c2 m.rs)(h3:A.Src w x3 c3 m.qs)(h4:A.Src w x4 c4 m.gs)(hf:Lens m):
  Calls prog 27 #[.agg (bK m x1 x2 x3 x4 c1 c2 c3 c4)] w fun e w'=>(∃s1 s2 s3 s4,e=.returned (.agg (bY m.nm m.up m.ck m.kn m.se s1 s2 s3 s4))/\dI w' m s1 s2 s3 s4 w.heap.size)/\Below w.heap.size w w':=by
 have S0:=ah (ic m x1 x2 x3 x4 c1 c2 c3 c4 w);have hinfo:(prog.info? 27).map (·.size)=some 9:=by kernel_rfl
 have MB:=kS;have Es:=jH;have Qm:=fS;have SX:w.heap.size<w.heap.size+1:=by omega
 have H1:=ah h1;have H2:=ah h2;have H3:=ah h3;have H4:=ah h4;clear h1 h2 h3 h4;go_enter func27,ntmps27
 go_wp2_with (first|(at_builtin;refine W.gV ((w.alloc (.cells (bK m x1 x2 x3 x4 c1 c2 c3 c4) 27)).alloc (.cells iU 27)) rfl (.tmp 3) (.tmp 5) rfl m.ws x1 c1 (by first|rfl|simp[Act.eval]) (by first|rfl|simp[Act.eval]) (W.Src.keep H1.out S0.out.e) hf.k1 ?_;intro s1 w1 r1 y1;obtain⟨a1,p1,hs1⟩:=W.Sl.shape r1;subst hs1;have Y1:Hid (Below ((w.alloc (.cells (bK m x1 x2 x3 x4 c1 c2 c3 c4) 27)).alloc (.cells iU 27)).heap.size ((w.alloc (.cells (bK m x1 x2 x3 x4 c1 c2 c3 c4) 27)).alloc (.cells iU 27)) w1):=y1;have Q1:Hid (W.Sl w1 (ai a1 m.ws p1) m.ws ((w.alloc (.cells (bK m x1 x2 x3 x4 c1 c2 c3 c4) 27)).alloc (.cells iU 27)).heap.size):=r1;have T1:Hid (Sc w (bK m x1 x2 x3 x4 c1 c2 c3 c4) w1):=S0.out.below Y1.out;have S1:Hid (Sc w #[.string m.nm,.bool m.up,.int .i64 m.ck,.bool m.kn,.int .i64 m.se,(ai a1 m.ws p1),.slice x2 m.rs.length c2,.slice x3 m.qs.length c3,.slice x4 m.gs.length c4] (w1.setCell ⟨w.heap.size,5,none⟩ (ai a1 m.ws p1))):=T1.out.set 5 (by simp) _;have X1:Hid (Ex w.heap.size w1 (w1.setCell ⟨w.heap.size,5,none⟩ (ai a1 m.ws p1))):=Ex.set (Ex.refl _ _) 5 _;clear r1 y1;have Jr:=T1.out.b;have Js:=T1.out.c;have Jt:w.heap.size<w1.heap.size:=by have:=T1.out.f;omega)|(at_builtin;refine gV (w1.setCell ⟨w.heap.size,5,none⟩ (ai a1 m.ws p1)) rfl (.tmp 8) (.tmp 10) rfl m.rs x2 c2 (by first|rfl|simp[Act.eval]) (by first|rfl|simp[Act.eval]) (Src.keep H2.out S1.out.e) hf.k2 ?_;intro s2 w2 r2 y2;obtain⟨a2,p2,hs2⟩:=Sl.shape r2;subst hs2;have Y2:Hid (Below (w1.setCell ⟨w.heap.size,5,none⟩ (ai a1 m.ws p1)).heap.size (w1.setCell ⟨w.heap.size,5,none⟩ (ai a1 m.ws p1)) w2):=y2;have Q2:Hid (Sl w2 (ai a2 m.rs p2) m.rs (w1.setCell ⟨w.heap.size,5,none⟩ (ai a1 m.ws p1)).heap.size):=r2;have T2:Hid (Sc w #[.string m.nm,.bool m.up,.int .i64 m.ck,.bool m.kn,.int .i64 m.se,(ai a1 m.ws p1),.slice x2 m.rs.length c2,.slice x3 m.qs.length c3,.slice x4 m.gs.length c4] w2):=S1.out.below Y2.out;have S2:Hid (Sc w #[.string m.nm,.bool m.up,.int .i64 m.ck,.bool m.kn,.int .i64 m.se,(ai a1 m.ws p1),(ai a2 m.rs p2),.slice x3 m.qs.length c3,.slice x4 m.gs.length c4] (w2.setCell ⟨w.heap.size,6,none⟩ (ai a2 m.rs p2))):=T2.out.set 6 (by simp) _;have X2:Hid (Ex w.heap.size w2 (w2.setCell ⟨w.heap.size,6,none⟩ (ai a2 m.rs p2))):=Ex.set (Ex.refl _ _) 6 _;clear r2 y2;have Ju:=T2.out.b;have Jv:=T2.out.c;have Jw:w.heap.size<w2.heap.size:=by have:=T2.out.f;omega)|(at_builtin;refine A.gV (w2.setCell ⟨w.heap.size,6,none⟩ (ai a2 m.rs p2)) rfl (.tmp 13) (.tmp 15) rfl m.qs x3 c3 (by first|rfl|simp[Act.eval]) (by first|rfl|simp[Act.eval]) (A.Src.keep H3.out S2.out.e) hf.k3 ?_;intro s3 w3 r3 y3;obtain⟨a3,p3,hs3⟩:=A.Sl.shape r3;subst hs3;have Y3:Hid (Below (w2.setCell ⟨w.heap.size,6,none⟩ (ai a2 m.rs p2)).heap.size (w2.setCell ⟨w.heap.size,6,none⟩ (ai a2 m.rs p2)) w3):=y3;have Q3:Hid (A.Sl w3 (ai a3 m.qs p3) m.qs (w2.setCell ⟨w.heap.size,6,none⟩ (ai a2 m.rs p2)).heap.size):=r3;have T3:Hid (Sc w #[.string m.nm,.bool m.up,.int .i64 m.ck,.bool m.kn,.int .i64 m.se,(ai a1 m.ws p1),(ai a2 m.rs p2),.slice x3 m.qs.length c3,.slice x4 m.gs.length c4] w3):=S2.out.below Y3.out;have S3:Hid (Sc w #[.string m.nm,.bool m.up,.int .i64 m.ck,.bool m.kn,.int .i64 m.se,(ai a1 m.ws p1),(ai a2 m.rs p2),(ai a3 m.qs p3),.slice x4 m.gs.length c4] (w3.setCell ⟨w.heap.size,7,none⟩ (ai a3 m.qs p3))):=T3.out.set 7 (by simp) _;have X3:Hid (Ex w.heap.size w3 (w3.setCell ⟨w.heap.size,7,none⟩ (ai a3 m.qs p3))):=Ex.set (Ex.refl _ _) 7 _;clear r3 y3;have Jx:=T3.out.b;have IK:=T3.out.c;have Jy:w.heap.size<w3.heap.size:=by have:=T3.out.f;omega)|(at_builtin;refine A.gV (w3.setCell ⟨w.heap.size,7,none⟩ (ai a3 m.qs p3)) rfl (.tmp 18) (.tmp 20) rfl m.gs x4 c4 (by first|rfl|simp[Act.eval]) (by first|rfl|simp[Act.eval]) (A.Src.keep H4.out S3.out.e) hf.k4 ?_;intro s4 w4 r4 y4;obtain⟨a4,p4,hs4⟩:=A.Sl.shape r4;subst hs4;have Y4:Hid (Below (w3.setCell ⟨w.heap.size,7,none⟩ (ai a3 m.qs p3)).heap.size (w3.setCell ⟨w.heap.size,7,none⟩ (ai a3 m.qs p3)) w4):=y4;have Q4:Hid (A.Sl w4 (ai a4 m.gs p4) m.gs (w3.setCell ⟨w.heap.size,7,none⟩ (ai a3 m.qs p3)).heap.size):=r4;have T4:Hid (Sc w #[.string m.nm,.bool m.up,.int .i64 m.ck,.bool m.kn,.int .i64 m.se,(ai a1 m.ws p1),(ai a2 m.rs p2),(ai a3 m.qs p3),.slice x4 m.gs.length c4] w4):=S3.out.below Y4.out;have S4:Hid (Sc w #[.string m.nm,.bool m.up,.int .i64 m.ck,.bool m.kn,.int .i64 m.se,(ai a1 m.ws p1),(ai a2 m.rs p2),(ai a3 m.qs p3),(ai a4 m.gs p4)] (w4.setCell ⟨w.heap.size,8,none⟩ (ai a4 m.gs p4))):=T4.out.set 8 (by simp) _;have X4:Hid (Ex w.heap.size w4 (w4.setCell ⟨w.heap.size,8,none⟩ (ai a4 m.gs p4))):=Ex.set (Ex.refl _ _) 8 _;clear r4 y4;have NF:=T4.out.b;have MC:=T4.out.c;have NG:w.heap.size<w4.heap.size:=by have:=T4.out.f;omega)|(refine wpList_store_mid (by rfl) 27 _ _ (by rfl) (w.heap.size+1) 0 #[.string m.nm,.bool m.up,.int .i64 m.ck,.bool m.kn,.int .i64 m.se,(ai a1 m.ws p1),(ai a2 m.rs p2),(ai a3 m.qs p3),(ai a4 m.gs p4)] (by rfl) (by rfl) (by exact S4.out.d) hinfo (by exact all_oneCell_toArray (ones m Q1.out Q2.out Q3.out Q4.out)) ?_))
 have hx1:Ex (w.heap.size+1) (w4.setCell ⟨w.heap.size,8,none⟩ (ai a4 m.gs p4)) (World.setCells (w4.setCell ⟨w.heap.size,8,none⟩ (ai a4 m.gs p4)) (w.heap.size+1) 0 [.string m.nm,.bool m.up,.int .i64 m.ck,.bool m.kn,.int .i64 m.se,(ai a1 m.ws p1),(ai a2 m.rs p2),(ai a3 m.qs p3),(ai a4 m.gs p4)]):=(Ex.refl _ _).cells _ _;have P1:Hid (W.Sl (World.setCells (w4.setCell ⟨w.heap.size,8,none⟩ (ai a4 m.gs p4)) (w.heap.size+1) 0 [.string m.nm,.bool m.up,.int .i64 m.ck,.bool m.kn,.int .i64 m.se,(ai a1 m.ws p1),(ai a2 m.rs p2),(ai a3 m.qs p3),(ai a4 m.gs p4)]) (ai a1 m.ws p1) m.ws w.heap.size):=W.Sl.low (((((((((Q1.out).grown (W.av X1.out) (bC (N:=w.heap.size+1) (fun g hg=>by have h1:=(Q1.out.lt g hg).1;have h2:=S0.out.f;omega) (by omega))).keep Y2.out).grown (W.av X2.out) (bC (N:=w.heap.size+1) (fun g hg=>by have h1:=(Q1.out.lt g hg).1;have h2:=S0.out.f;omega) (by omega))).keep Y3.out).grown (W.av X3.out) (bC (N:=w.heap.size+1) (fun g hg=>by have h1:=(Q1.out.lt g hg).1;have h2:=S0.out.f;omega) (by omega))).keep Y4.out).grown (W.av X4.out) (bC (N:=w.heap.size+1) (fun g hg=>by have h1:=(Q1.out.lt g hg).1;have h2:=S0.out.f;omega) (by omega))).grown (W.av hx1) (bC (N:=w.heap.size+1) (fun g hg=>by have h1:=(Q1.out.lt g hg).1;have h2:=S0.out.f;omega) (by omega))) (by have:=S0.out.f;omega);have P2:Hid (Sl (World.setCells (w4.setCell ⟨w.heap.size,8,none⟩ (ai a4 m.gs p4)) (w.heap.size+1) 0 [.string m.nm,.bool m.up,.int .i64 m.ck,.bool m.kn,.int .i64 m.se,(ai a1 m.ws p1),(ai a2 m.rs p2),(ai a3 m.qs p3),(ai a4 m.gs p4)]) (ai a2 m.rs p2) m.rs w.heap.size):=Sl.low (((((((Q2.out).grown (av X2.out) (bC (N:=w.heap.size+1) (fun g hg=>by have h1:=(Q2.out.lt g hg).1;have h2:=S1.out.f;omega) (by omega))).keep Y3.out).grown (av X3.out) (bC (N:=w.heap.size+1) (fun g hg=>by have h1:=(Q2.out.lt g hg).1;have h2:=S1.out.f;omega) (by omega))).keep Y4.out).grown (av X4.out) (bC (N:=w.heap.size+1) (fun g hg=>by have h1:=(Q2.out.lt g hg).1;have h2:=S1.out.f;omega) (by omega))).grown (av hx1) (bC (N:=w.heap.size+1) (fun g hg=>by have h1:=(Q2.out.lt g hg).1;have h2:=S1.out.f;omega) (by omega))) (by have:=S1.out.f;omega);have P3:Hid (A.Sl (World.setCells (w4.setCell ⟨w.heap.size,8,none⟩ (ai a4 m.gs p4)) (w.heap.size+1) 0 [.string m.nm,.bool m.up,.int .i64 m.ck,.bool m.kn,.int .i64 m.se,(ai a1 m.ws p1),(ai a2 m.rs p2),(ai a3 m.qs p3),(ai a4 m.gs p4)]) (ai a3 m.qs p3) m.qs w.heap.size):=A.Sl.low (((((Q3.out).grown (A.av X3.out) (bC (N:=w.heap.size+1) (fun g hg=>by have h1:=(Q3.out.lt g hg).1;have h2:=S2.out.f;omega) (by omega))).keep Y4.out).grown (A.av X4.out) (bC (N:=w.heap.size+1) (fun g hg=>by have h1:=(Q3.out.lt g hg).1;have h2:=S2.out.f;omega) (by omega))).grown (A.av hx1) (bC (N:=w.heap.size+1) (fun g hg=>by have h1:=(Q3.out.lt g hg).1;have h2:=S2.out.f;omega) (by omega))) (by have:=S2.out.f;omega);have P4:Hid (A.Sl (World.setCells (w4.setCell ⟨w.heap.size,8,none⟩ (ai a4 m.gs p4)) (w.heap.size+1) 0 [.string m.nm,.bool m.up,.int .i64 m.ck,.bool m.kn,.int .i64 m.se,(ai a1 m.ws p1),(ai a2 m.rs p2),(ai a3 m.qs p3),(ai a4 m.gs p4)]) (ai a4 m.gs p4) m.gs w.heap.size):=A.Sl.low (((Q4.out).grown (A.av X4.out) (bC (N:=w.heap.size+1) (fun g hg=>by have h1:=(Q4.out.lt g hg).1;have h2:=S3.out.f;omega) (by omega))).grown (A.av hx1) (bC (N:=w.heap.size+1) (fun g hg=>by have h1:=(Q4.out.lt g hg).1;have h2:=S3.out.f;omega) (by omega))) (by have:=S3.out.f;omega);have sC:Hid (eh (ai a1 m.ws p1) (ai a2 m.rs p2)):=cj (fun g hg=>(Q1.out.lt g hg).2) (fun g hg=>(Q2.out.lt g hg).1) (by have h0:=X1.out.size;omega);have oO:Hid (eh (ai a1 m.ws p1) (ai a3 m.qs p3)):=cj (fun g hg=>(Q1.out.lt g hg).2) (fun g hg=>(Q3.out.lt g hg).1) (by have h0:=X1.out.size;have h1:=X2.out.size;have h2:=Y2.out.size;omega);have qx:Hid (eh (ai a1 m.ws p1) (ai a4 m.gs p4)):=cj (fun g hg=>(Q1.out.lt g hg).2) (fun g hg=>(Q4.out.lt g hg).1) (by have h0:=X1.out.size;have h1:=X2.out.size;have h2:=X3.out.size;have h3:=Y2.out.size;have h4:=Y3.out.size;omega);have Fj:Hid (eh (ai a2 m.rs p2) (ai a3 m.qs p3)):=cj (fun g hg=>(Q2.out.lt g hg).2) (fun g hg=>(Q3.out.lt g hg).1) (by have h0:=X2.out.size;omega);have Fl:Hid (eh (ai a2 m.rs p2) (ai a4 m.gs p4)):=cj (fun g hg=>(Q2.out.lt g hg).2) (fun g hg=>(Q4.out.lt g hg).1) (by have h0:=X2.out.size;have h1:=X3.out.size;have h2:=Y3.out.size;omega);have Fo:Hid (eh (ai a3 m.qs p3) (ai a4 m.gs p4)):=cj (fun g hg=>(Q3.out.lt g hg).2) (fun g hg=>(Q4.out.lt g hg).1) (by have h0:=X3.out.size;omega);have LS:Hid (dI (World.setCells (w4.setCell ⟨w.heap.size,8,none⟩ (ai a4 m.gs p4)) (w.heap.size+1) 0 [.string m.nm,.bool m.up,.int .i64 m.ck,.bool m.kn,.int .i64 m.se,(ai a1 m.ws p1),(ai a2 m.rs p2),(ai a3 m.qs p3),(ai a4 m.gs p4)]) m (ai a1 m.ws p1) (ai a2 m.rs p2) (ai a3 m.qs p3) (ai a4 m.gs p4) w.heap.size):=⟨P1.out,P2.out,P3.out,P4.out,sC.out,oO.out,qx.out,Fj.out,Fl.out,Fo.out⟩
 have BE:Hid (Below w.heap.size w (World.setCells (w4.setCell ⟨w.heap.size,8,none⟩ (ai a4 m.gs p4)) (w.heap.size+1) 0 [.string m.nm,.bool m.up,.int .i64 m.ck,.bool m.kn,.int .i64 m.se,(ai a1 m.ws p1),(ai a2 m.rs p2),(ai a3 m.qs p3),(ai a4 m.gs p4)])):=⟨hx1.os.trans S4.out.e.os,hx1.tape.trans S4.out.e.tape,hx1.output.trans S4.out.e.output,Nat.le_trans S4.out.e.size hx1.size,fun k hk=>(hx1.block k (Nat.lt_of_lt_of_le hk S4.out.e.size) (by omega)).trans (S4.out.e.block k hk)⟩
 have RG:Hid _:=World.rangeAt_setCells_same (w4.setCell ⟨w.heap.size,8,none⟩ (ai a4 m.gs p4)) (w.heap.size+1) 0 [.string m.nm,.bool m.up,.int .i64 m.ck,.bool m.kn,.int .i64 m.se,(ai a1 m.ws p1),(ai a2 m.rs p2),(ai a3 m.qs p3),(ai a4 m.gs p4)] S4.out.d;clear hx1 P1 P2 P3 P4;have hrg:=RG.out;obtain⟨d0,d1,d2,d3,d4,d5,d6,d7,d8⟩:=d9 hrg;exact bodyPost_ret (v:=.agg #[.string m.nm,.bool m.up,.int .i64 m.ck,.bool m.kn,.int .i64 m.se,(ai a1 m.ws p1),(ai a2 m.rs p2),(ai a3 m.qs p3),(ai a4 m.gs p4)]) (by simp[results,results27,go_sem,d0,d1,d2,d3,d4,d5,d6,d7,d8]) rfl ⟨⟨_,_,_,_,rfl,LS.out⟩,BE.out⟩
set_option maxHeartbeats 2000000
theorem Bi(m:aj)(a1 a2 a3 a4:Option Addr)(n1 n2 n3 n4:Nat)(w:World)(hL:fO w m a1 a2 a3 a4)(hc:m.ws.length<=n1)(hf:m.fits):
  Calls prog 44 #[.agg (bK m a1 a2 a3 a4 n1 n2 n3 n4)] w fun e w'=>(∃q:Bool,e=.returned (.bool q)/\tY q m)/\Below w.heap.size w w':=by
 have Hb0:Hid (Below w.heap.size w (w.alloc (.cells (bK m a1 a2 a3 a4 n1 n2 n3 n4) 27))):=ae bR _;have HL:=ah (hL.keep Hb0.out);cases qn:cF m.nm
 ·
  go_enter func44,ntmps44
  go_wp2_with (first|(go_at_call 89;refine mr (bX m.nm _ hf.n) ?_)|(go_at_call 19;refine mr (aP _ _ _ _) ?_))
  go_ret
  exact⟨⟨false,rfl,by unfold tY;simp[cV,qn]⟩,Hb0.out⟩
 cases qc:cA m.ck 0 1000000
 ·
  go_enter func44,ntmps44
  go_wp2_with (first|(go_at_call 89;refine mr (bX m.nm _ hf.n) ?_)|(go_at_call 19;refine mr (aP _ _ _ _) ?_))
  go_ret
  exact⟨⟨false,rfl,by unfold tY;simp[cV,qc]⟩,Hb0.out⟩
 cases qs:cA m.se 0 1000000
 ·
  go_enter func44,ntmps44
  go_wp2_with (first|(go_at_call 89;refine mr (bX m.nm _ hf.n) ?_)|(go_at_call 19;refine mr (aP _ _ _ _) ?_))
  go_ret
  exact⟨⟨false,rfl,by unfold tY;simp[cV,qs]⟩,Hb0.out⟩
 go_enter func44,ntmps44
 go_wp2_with (first|(go_at_call 89;refine mr (bX m.nm _ hf.n) ?_)|(go_at_call 19;refine mr (aP _ _ _ _) ?_))
 go_ret
 exact⟨⟨true,rfl,by unfold tY;simp[cV,qn,qc,qs]⟩,Hb0.out⟩
theorem t7(m:aj)(a1 a2 a3 a4:Option Addr)(n1 n2 n3 n4:Nat)(w:World)(hL:fO w m a1 a2 a3 a4)(hc:m.ws.length<=n1)(hf:m.fits):
  Calls prog 45 #[.agg (bK m a1 a2 a3 a4 n1 n2 n3 n4)] w fun e w'=>(∃q:Bool,e=.returned (.bool q)/\(q=true↔tF m/\(m.kn=true\/m.ws.length=0)))/\Below w.heap.size w w':=by
 have Hb0:Hid (Below w.heap.size w (w.alloc (.cells (bK m a1 a2 a3 a4 n1 n2 n3 n4) 27))):=ae bR _;have HL:=ah (hL.keep Hb0.out);go_enter func45,ntmps45
 go_wp2_with fail
 refine(W.gp a1 n1 m.ws _ HL.out.r1 hc hf.f1 hf.k1).mono ?_;rintro e w1 ⟨⟨q1,rfl,h1⟩,c1⟩;have H1:=ah h1;have k1:=aJ c1;have C1:=ah (af Hb0.out c1);clear h1 c1;cases q1
 ·
  go_wp2
  go_ret
  exact⟨⟨false,rfl,⟨fun h=>(by cases h),fun h=>by have:=H1.out.2 h.1;cases this⟩⟩,C1.out⟩
 have G1:=ah (H1.out.1 rfl);clear H1;cases hk:m.kn
 ·
  by_cases hz:m.ws.length=0
  ·
   have hz':((m.ws.length:Int)==0)=true:=(by simp[hz]);have Hz:=ah hz;clear hz;go_wp2
   go_ret
   exact⟨⟨true,rfl,⟨fun _=>⟨G1.out,Or.inr Hz.out⟩,fun _=>rfl⟩⟩,C1.out⟩
  have hz':((m.ws.length:Int)==0)=false:=beq_false_of_ne (by omega);have Hz:=ah hz;clear hz;go_wp2
  go_ret
  exact⟨⟨false,rfl,⟨fun h=>(by cases h),fun h=>by
   rcases h.2 with h'|h';·rw[hk]at h';cases h'
   exact absurd h' Hz.out⟩⟩,C1.out⟩
 ·
  go_wp2
  go_ret
  exact⟨⟨true,rfl,⟨fun _=>⟨G1.out,Or.inl hk⟩,fun _=>rfl⟩⟩,C1.out⟩
theorem vJ(m:aj)(a1 a2 a3 a4:Option Addr)(n1 n2 n3 n4:Nat)(w:World)(hL:fO w m a1 a2 a3 a4)(hc:m.ws.length<=n1)(hf:m.fits):
  Calls prog 46 #[.agg (bK m a1 a2 a3 a4 n1 n2 n3 n4)] w fun e w'=>(∃q:Bool,e=.returned (.bool q)/\(q=true↔wi m))/\Below w.heap.size w w':=by
 have Hb0:Hid (Below w.heap.size w (w.alloc (.cells (bK m a1 a2 a3 a4 n1 n2 n3 n4) 27))):=ae bR _;have HL:=ah (hL.keep Hb0.out);go_enter func46,ntmps46
 go_wp2_with fail
 refine(oQ a2 _ m.rs m.ck _ HL.out.r2 hf.f2 hf.k2).mono ?_;rintro e w1 ⟨⟨q1,rfl,h1⟩,c1⟩;have H1:=ah h1;have C1:=ah (af Hb0.out c1);clear h1 c1;go_wp2
 go_ret
 exact⟨⟨q1,rfl,H1.out⟩,C1.out⟩
theorem Ef(m:aj)(a1 a2 a3 a4:Option Addr)(n1 n2 n3 n4:Nat)(w:World)(hL:fO w m a1 a2 a3 a4)(hc:m.ws.length<=n1)(hf:m.fits):
  Calls prog 47 #[.agg (bK m a1 a2 a3 a4 n1 n2 n3 n4)] w fun e w'=>(∃q:Bool,e=.returned (.bool q)/\(q=true↔ml m.ck m.qs/\ml m.ck m.gs))/\Below w.heap.size w w':=by
 have Hb0:Hid (Below w.heap.size w (w.alloc (.cells (bK m a1 a2 a3 a4 n1 n2 n3 n4) 27))):=ae bR _;have HL:=ah (hL.keep Hb0.out);go_enter func47,ntmps47
 go_wp2_with fail
 refine(A.ki a3 _ m.qs m.ck _ HL.out.r3 hf.f3 hf.k3).mono ?_;rintro e w1 ⟨⟨q1,rfl,h1⟩,c1⟩;have H1:=ah h1;have k1:=aJ c1;have E8:=ah (HL.out.keep c1);have C1:=ah (af Hb0.out c1);clear h1 c1;cases q1
 ·
  go_wp2
  go_ret
  exact⟨⟨false,rfl,⟨fun h=>(by cases h),fun h=>by have:=H1.out.2 h.1;cases this⟩⟩,C1.out⟩
 have G1:=ah (H1.out.1 rfl);clear H1;go_wp2_with fail
 refine(A.ki a4 _ m.gs m.ck _ E8.out.r4 hf.f4 hf.k4).mono ?_;rintro e w2 ⟨⟨q2,rfl,h2⟩,c2⟩;have H2:=ah h2;have C2:=ah (af C1.out c2);clear h2 c2;go_wp2
 go_ret
 exact⟨⟨q2,rfl,⟨fun h=>⟨G1.out,H2.out.1 h⟩,fun h=>H2.out.2 h.2⟩⟩,C2.out⟩
theorem Eg(m:aj)(a1 a2 a3 a4:Option Addr)(n1 n2 n3 n4:Nat)(w:World)(hL:fO w m a1 a2 a3 a4)(hc:m.ws.length<=n1)(hf:m.fits):
  Calls prog 49 #[.agg (bK m a1 a2 a3 a4 n1 n2 n3 n4)] w fun e w'=>(∃q:Bool,e=.returned (.bool q)/\(q=true↔m.up=true\/jO m))/\Below w.heap.size w w':=by
 have Hb0:Hid (Below w.heap.size w (w.alloc (.cells (bK m a1 a2 a3 a4 n1 n2 n3 n4) 27))):=ae bR _;have HL:=ah (hL.keep Hb0.out);obtain⟨u,hu⟩:∃u,m.up=u:=⟨_,rfl⟩
 cases u
 ·
  obtain⟨kk,hk⟩:∃kk,m.kn=kk:=⟨_,rfl⟩
  cases kk
  ·
   by_cases hse:m.se=0
   ·
    have hs':(m.se==0)=true:=(by simp[hse]);have Mt:=ah hse;clear hse;have k1:=hf.k1;have k3:=hf.k3;have k4:=hf.k4;by_cases hz:m.ws.length+m.qs.length+m.gs.length=0
    ·
     have hz':((m.ws.length:Int)+(m.qs.length:Int)+(m.gs.length:Int)==0)=true:=(by have:(m.ws.length:Int)+(m.qs.length:Int)+(m.gs.length:Int)=0:=(by omega);simpa using this);have Hz:=ah hz;clear hz;go_enter func49,ntmps49
     go_wp2_with fail
     refine(vh dL a2 _ m.rs _ (hL.keep (ae bR _)).r2 hf.k2 (fun r hr x hx=>Bh r x)).mono ?_;rintro e w1 ⟨⟨q1,rfl,h1⟩,c1⟩;have H1:=ah h1;have C1:Hid _:=af (ae bR _) c1;clear h1 c1;go_wp2
     go_ret
     exact⟨⟨q1,rfl,⟨fun h=>Or.inr ⟨hk,Mt.out,Hz.out,H1.out.1 h⟩,fun h=>H1.out.2 (m6 h hu).2.2.2⟩⟩,C1.out⟩
    have hz':((m.ws.length:Int)+(m.qs.length:Int)+(m.gs.length:Int)==0)=false:=beq_false_of_ne (by omega);have Hz:=ah hz;clear hz;go_enter func49,ntmps49
    go_wp2
    go_ret
    exact⟨⟨false,rfl,⟨fun h=>(by cases h),fun h=>absurd (m6 h hu).2.2.1 Hz.out⟩⟩,ae bR _⟩
   have hs':(m.se==0)=false:=(by simp[hse]);have Mt:=ah hse;clear hse;go_enter func49,ntmps49
   go_wp2
   go_ret
   exact⟨⟨false,rfl,⟨fun h=>(by cases h),fun h=>absurd (m6 h hu).2.1 Mt.out⟩⟩,ae bR _⟩
  go_enter func49,ntmps49
  go_wp2
  go_ret
  exact⟨⟨false,rfl,⟨fun h=>(by cases h),fun h=>by have:=(m6 h hu).1;rw[hk]at this;cases this⟩⟩,ae bR _⟩
 ·
  go_enter func49,ntmps49
  go_wp2
  go_ret
  exact⟨⟨true,rfl,⟨fun _=>Or.inl hu,fun _=>rfl⟩⟩,ae bR _⟩
theorem eH{w w':World}{m:aj}{a1 a2 a3 a4:Option Addr}{n1 n2 n3 n4:Nat}(hb:Below (((w.alloc (.cells (bK m a1 a2 a3 a4 n1 n2 n3 n4) 27)).alloc (.cells #[.func (.func 44) #[] #[],.func (.func 45) #[] #[],.func (.func 46) #[] #[],.func (.func 47) #[] #[],.func (.func 48) #[] #[],.func (.func 49) #[] #[]] 35)).alloc (.cells (bK m a1 a2 a3 a4 n1 n2 n3 n4) 27)).heap.size (((w.alloc (.cells (bK m a1 a2 a3 a4 n1 n2 n3 n4) 27)).alloc (.cells #[.func (.func 44) #[] #[],.func (.func 45) #[] #[],.func (.func 46) #[] #[],.func (.func 47) #[] #[],.func (.func 48) #[] #[],.func (.func 49) #[] #[]] 35)).alloc (.cells (bK m a1 a2 a3 a4 n1 n2 n3 n4) 27)) w'):
  (∀k,w'.cell? ⟨w.heap.size+1,k,none⟩=(#[.func (.func 44) #[] #[],.func (.func 45) #[] #[],.func (.func 46) #[] #[],.func (.func 47) #[] #[],.func (.func 48) #[] #[],.func (.func 49) #[] #[]]:Array Value)[k]?)/\(∀k,w'.cell? ⟨w.heap.size+1+1,k,none⟩=((bK m a1 a2 a3 a4 n1 n2 n3 n4):Array Value)[k]?):=by
 constructor
 ·
  intro k;rw[hb.cell (p:=⟨w.heap.size+1,k,none⟩) (by simp)];simp[go_sem,World.cell?_alloc_past]
 ·
  intro k;rw[hb.cell (p:=⟨w.heap.size+1+1,k,none⟩) (by simp)];simp[go_sem]
theorem Iu(m:aj)(a1 a2 a3 a4:Option Addr)(n1 n2 n3 n4:Nat)(w:World)(hL:fO w m a1 a2 a3 a4)(hc:m.ws.length<=n1)(hf:m.fits):
  Calls prog 48 #[.agg (bK m a1 a2 a3 a4 n1 n2 n3 n4)] w fun e w'=>(∃q:Bool,e=.returned (.bool q)/\(q=true↔∀r∈m.qs,¬A.jt m.gs r.h))/\Below w.heap.size w w':=by
 have Hb0:Hid (Below w.heap.size w (w.alloc (.cells (bK m a1 a2 a3 a4 n1 n2 n3 n4) 27))):=ae bR _;have HL:=ah (hL.keep Hb0.out);go_enter func48,ntmps48
 go_wp2_with fail
 refine(A.xu a3 _ m.qs _ HL.out.r3 hf.f3 hf.k3).mono ?_;rintro e w1 ⟨rfl,o1,c1⟩;have k1:=aJ c1;have lb:w.heap.size<w1.heap.size:=jm c1;have E8:=ah (HL.out.keep c1);have C1:=ah (af Hb0.out c1);have O1:Hid (w1.ownsMap prog 9 A.RU (w.heap.size+1) m.qs.length (A.mapD m.qs)):=by have:=o1;simp only[World.size_alloc]at this;exact this
 clear o1 c1;go_wp2_with fail
 have hb1:Hid (Below w1.heap.size w1 (w1.alloc (.cells #[.map (some (w.heap.size+1))] 108))):=ae bR _;have hck:∀x,Below (w1.alloc (.cells #[.map (some (w.heap.size+1))] 108)).heap.size (w1.alloc (.cells #[.map (some (w.heap.size+1))] 108)) x->x.cell? ⟨w1.heap.size,0,none⟩=some (.map (some (w.heap.size+1))):=fun x hx=>by rw[aJ hx 0];simp[go_sem]
 have hlk:∀x,Below (w1.alloc (.cells #[.map (some (w.heap.size+1))] 108)).heap.size (w1.alloc (.cells #[.map (some (w.heap.size+1))] 108)) x->w1.heap.size<x.heap.size:=fun x hx=>by have:=hx.size;simp at this;omega
 have all:=A.td w1.heap.size (fun r=>!Maps.has (A.mapD m.qs) (A.ji r.h)) a4 n4 m.gs (w1.alloc (.cells #[.map (some (w.heap.size+1))] 108)) (E8.out.keep hb1.out).r4 hf.k4 (fun r hr x hx=>A.xO r w1.heap.size _ _ _ x (hck x hx) (hlk x hx) (A.gH (World.ownsMap.alloc O1.out _) hx) (hf.f4 r hr));have ALL:=ah all;clear all hck hlk;first
 |refine Calls.mono ALL.out ?_
 |(have a2:=ALL.out;simp only[World.size_alloc]at a2;refine Calls.mono a2 ?_)
 rintro e w2 ⟨⟨q2,rfl,h2⟩,c2⟩;have H2:=ah h2;have C2:=ah (af (af C1.out hb1.out) c2);clear h2 c2;go_wp2
 go_ret
 exact⟨⟨q2,rfl,H2.out.trans (vI m.qs m.gs)⟩,C2.out⟩
theorem gF(m:aj)(a1 a2 a3 a4:Option Addr)(n1 n2 n3 n4:Nat)(w:World)(hL:fO w m a1 a2 a3 a4)(hc:m.ws.length<=n1)(hf:m.fits):
  Calls prog 10 #[.agg (bK m a1 a2 a3 a4 n1 n2 n3 n4)] w fun e w'=>(∃q:Bool,e=.returned (.bool q)/\tT q m)/\Below w.heap.size w w':=by
 have Hb0:Hid (Below w.heap.size w (w.alloc (.cells (bK m a1 a2 a3 a4 n1 n2 n3 n4) 27))):=ae bR _;have HL:=ah (hL.keep Hb0.out);have hbv:=tZ;have hx0:Below w.heap.size w (((w.alloc (.cells (bK m a1 a2 a3 a4 n1 n2 n3 n4) 27)).alloc (.cells #[.func (.func 44) #[] #[],.func (.func 45) #[] #[],.func (.func 46) #[] #[],.func (.func 47) #[] #[],.func (.func 48) #[] #[],.func (.func 49) #[] #[]] 35)).alloc (.cells (bK m a1 a2 a3 a4 n1 n2 n3 n4) 27)):=ae (ae (ae bR _) _) _;have Iv:=ah hx0;have Iy:=ah (hL.keep hx0);clear hx0;go_enter func10,ntmps10
 go_wp2_with go_in
 clear hbv;refine wp_loop_rounds 7 ?_;rw[rounds_succ];go_wp2_with fail
 refine(Bi m a1 a2 a3 a4 n1 n2 n3 n4 _ Iy.out hc hf).mono ?_;rintro e w1 ⟨⟨q1,rfl,h1⟩,c1⟩;have H1:=ah h1;have C1:=ah c1;clear h1 c1;obtain⟨Js,Vj⟩:=eH C1.out;cases q1
 ·
  go_wp2
  go_ret
  exact⟨⟨false,rfl,bV (fun h=>by have:=H1.out.2 h.1;cases this)⟩,af Iv.out C1.out⟩
 have G1:=ah (H1.out.1 rfl);clear H1;have E8:=ah (Iy.out.keep C1.out);go_wp2_with fail
 rw[rounds_succ];go_wp2_with fail
 refine(t7 m a1 a2 a3 a4 n1 n2 n3 n4 _ E8.out hc hf).mono ?_;rintro e w2 ⟨⟨q2,rfl,h2⟩,c2⟩;have H2:=ah h2;have C2:=ah (af C1.out c2);clear Js Vj;clear h2 c2;obtain⟨Jv,Vk⟩:=eH C2.out;cases q2
 ·
  go_wp2
  go_ret
  exact⟨⟨false,rfl,bV (fun h=>by have:=H2.out.2 h.2.1;cases this)⟩,af Iv.out C2.out⟩
 have G2:=ah (H2.out.1 rfl);clear H2;have HL2:=ah (Iy.out.keep C2.out);go_wp2_with fail
 rw[rounds_succ];go_wp2_with fail
 refine(vJ m a1 a2 a3 a4 n1 n2 n3 n4 _ HL2.out hc hf).mono ?_;rintro e w3 ⟨⟨q3,rfl,h3⟩,c3⟩;have H3:=ah h3;have C3:=ah (af C2.out c3);clear Jv Vk;clear h3 c3;obtain⟨IK,Vl⟩:=eH C3.out;cases q3
 ·
  go_wp2
  go_ret
  exact⟨⟨false,rfl,bV (fun h=>by have:=H3.out.2 h.2.2.1;cases this)⟩,af Iv.out C3.out⟩
 have G3:=ah (H3.out.1 rfl);clear H3;have Mu:=ah (Iy.out.keep C3.out);go_wp2_with fail
 rw[rounds_succ];go_wp2_with fail
 refine(Ef m a1 a2 a3 a4 n1 n2 n3 n4 _ Mu.out hc hf).mono ?_;rintro e w4 ⟨⟨q4,rfl,h4⟩,c4⟩;have H4:=ah h4;have C4:=ah (af C3.out c4);clear IK Vl;clear h4 c4;obtain⟨MC,Vm⟩:=eH C4.out;cases q4
 ·
  go_wp2
  go_ret
  exact⟨⟨false,rfl,bV (fun h=>by have:=H4.out.2 h.2.2.2.1;cases this)⟩,af Iv.out C4.out⟩
 have G4:=ah (H4.out.1 rfl);clear H4;have IA:=ah (Iy.out.keep C4.out);go_wp2_with fail
 rw[rounds_succ];go_wp2_with fail
 refine(Iu m a1 a2 a3 a4 n1 n2 n3 n4 _ IA.out hc hf).mono ?_;rintro e w5 ⟨⟨q5,rfl,h5⟩,c5⟩;have H5:=ah h5;have C5:=ah (af C4.out c5);clear MC Vm;clear h5 c5;obtain⟨Vn,Vo⟩:=eH C5.out;cases q5
 ·
  go_wp2
  go_ret
  exact⟨⟨false,rfl,bV (fun h=>by have:=H5.out.2 h.2.2.2.2.1;cases this)⟩,af Iv.out C5.out⟩
 have G5:=ah (H5.out.1 rfl);clear H5;have Vp:=ah (Iy.out.keep C5.out);go_wp2_with fail
 rw[rounds_succ];go_wp2_with fail
 refine(Eg m a1 a2 a3 a4 n1 n2 n3 n4 _ Vp.out hc hf).mono ?_;rintro e w6 ⟨⟨q6,rfl,h6⟩,c6⟩;have H6:=ah h6;have C6:=ah (af C5.out c6);clear Vn Vo;clear h6 c6;obtain⟨WV,WW⟩:=eH C6.out;cases q6
 ·
  go_wp2
  go_ret
  exact⟨⟨false,rfl,bV (fun h=>by have:=H6.out.2 h.2.2.2.2.2;cases this)⟩,af Iv.out C6.out⟩
 have G6:=ah (H6.out.1 rfl);clear H6;have WZ:=ah (Iy.out.keep C6.out);go_wp2_with fail
 rw[rounds_succ];go_wp2
 go_ret
 exact⟨⟨true,rfl,⟨fun _=>⟨G1.out,G2.out,G3.out,G4.out,G5.out,G6.out⟩,fun _=>rfl⟩⟩,af Iv.out C6.out⟩
theorem W.vg(a:Option Addr)(c:Nat)(l:List W.ay)(w:World)(h:W.Src w a c l)(hl:l.length<=1048576):
  Calls prog 62 #[.slice a l.length c] w fun e w'=>(∃v,e=.returned v/\W.Sl w' v l w.heap.size/\gU v)/\Below w.heap.size w w':=by
 rcases h with⟨rfl,rfl,rfl⟩|⟨g,rfl,hg,hr⟩
 ·
  obtain⟨i0,hi,hz0,hz1,hz2⟩:=info_parts W.cE;show Calls prog _ #[.slice none 0 0] w _;go_enter func62,ntmps62
  go_wp2_with (at_builtin;refine wpList_append_own_none rfl _ _ 23 rfl w.heap.size 37 i0 7 underlying23 hi (.slice none 0 0) 0 [] rfl (World.ownsRow_nil _ _ _ _) rfl ?_)
  go_ret
  exact⟨⟨_,rfl,Or.inl ⟨rfl,rfl⟩,fun a n c h=>by cases h;exact Nat.le_refl _⟩,Below.refl _ _⟩
 ·exact W.Fp g c l w hr hl
theorem W.Src.gv{w:World}{a:Option Addr}{c:Nat}{l:List W.ay}(h:W.Src w a c l):W.Gv w a l:=by
 rcases h with⟨-,-,h⟩|⟨g,h1,h2,h3⟩;·exact Or.inl h
 exact Or.inr ⟨g,h1,h2,h3⟩
theorem jN(a:Option Addr)(c:Nat)(l:List aw)(w:World)(h:Src w a c l)(hl:l.length<=1048576):
  Calls prog 63 #[.slice a l.length c] w fun e w'=>(∃v,e=.returned v/\Sl w' v l w.heap.size)/\Below w.heap.size w w':=by
 rcases h with⟨rfl,rfl,rfl⟩|⟨g,rfl,hg,hr⟩
 ·
  obtain⟨i0,hi,hz0,hz1,hz2⟩:=info_parts cE;show Calls prog _ #[.slice none 0 0] w _;go_enter func63,ntmps63
  go_wp2_with (at_builtin;refine wpList_append_own_none rfl _ _ 24 rfl w.heap.size 39 i0 11 underlying24 hi (.slice none 0 0) 0 [] rfl (World.ownsRow_nil _ _ _ _) rfl ?_)
  go_ret
  exact⟨⟨_,rfl,Or.inl ⟨rfl,rfl⟩⟩,Below.refl _ _⟩
 ·exact fresh g c l w hr hl
theorem Src.gv{w:World}{a:Option Addr}{c:Nat}{l:List aw}(h:Src w a c l):Gv w a l:=by
 rcases h with⟨-,-,h⟩|⟨g,h1,h2,h3⟩;·exact Or.inl h
 exact Or.inr ⟨g,h1,h2,h3⟩
theorem A.jN(a:Option Addr)(c:Nat)(l:List A.aC)(w:World)(h:A.Src w a c l)(hl:l.length<=1048576):
  Calls prog 64 #[.slice a l.length c] w fun e w'=>(∃v,e=.returned v/\A.Sl w' v l w.heap.size)/\Below w.heap.size w w':=by
 rcases h with⟨rfl,rfl,rfl⟩|⟨g,rfl,hg,hr⟩
 ·
  obtain⟨i0,hi,hz0,hz1,hz2⟩:=info_parts A.cE;show Calls prog _ #[.slice none 0 0] w _;go_enter func64,ntmps64
  go_wp2_with (at_builtin;refine wpList_append_own_none rfl _ _ 25 rfl w.heap.size 64 i0 4 underlying25 hi (.slice none 0 0) 0 [] rfl (World.ownsRow_nil _ _ _ _) rfl ?_)
  go_ret
  exact⟨⟨_,rfl,Or.inl ⟨rfl,rfl⟩⟩,Below.refl _ _⟩
 ·exact A.fresh g c l w hr hl
theorem A.Src.gv{w:World}{a:Option Addr}{c:Nat}{l:List A.aC}(h:A.Src w a c l):A.Gv w a l:=by
 rcases h with⟨-,-,h⟩|⟨g,h1,h2,h3⟩;·exact Or.inl h
 exact Or.inr ⟨g,h1,h2,h3⟩
structure gx(w:World)(m:aj)(x1 x2 x3 x4:Option Addr)(n1 n2 n3 n4:Nat):Prop where
 r1:W.Src w x1 n1 m.ws
 r2:Src w x2 n2 m.rs
 r3:A.Src w x3 n3 m.qs
 r4:A.Src w x4 n4 m.gs
 cap:m.ws.length<=n1
theorem gx.keep{w w':World}{m:aj}{x1 x2 x3 x4:Option Addr}{n1 n2 n3 n4:Nat}(h:gx w m x1 x2 x3 x4 n1 n2 n3 n4)(hB:Below w.heap.size w w'):gx w' m x1 x2 x3 x4 n1 n2 n3 n4:=⟨h.r1.keep hB,h.r2.keep hB,h.r3.keep hB,h.r4.keep hB,h.cap⟩
theorem gx.lists{w:World}{m:aj}{x1 x2 x3 x4:Option Addr}{n1 n2 n3 n4:Nat}(h:gx w m x1 x2 x3 x4 n1 n2 n3 n4):fO w m x1 x2 x3 x4:=⟨h.r1.gv,h.r2.gv,h.r3.gv,h.r4.gv⟩
set_option maxHeartbeats 4000000
theorem gW{w w':World}(h:Below w.heap.size w w')(b o:Nat)(u:Value)(hp:w.heap.size<=b):Below w.heap.size w (w'.setCell ⟨b,o,none⟩ u):=iY h hp u
def Small(r:aw):Prop:=r.c.size<=maxLen/\r.h.size<=maxLen/\(0<=r.b/\r.b<=1000)/\(0<=r.i/\r.i<=1000)/\(-1000000<=r.u/\r.u<=1000000)
theorem iF{c h:ByteArray}{v p s d g a b i u:Int}(hc:c.size<=maxLen)(hh:h.size<=maxLen)(hb:0<=b/\b<=1000)(hi:0<=i/\i<=1000)(hu:-1000000<=u/\u<=1000000):Small ⟨c,h,v,p,s,d,g,a,b,i,u⟩:=⟨hc,hh,hb,hi,hu⟩
theorem nu{rs:List aw}{r:aw}(h:∀x∈rs,Small x)(hr:Small r):∀x∈rs++[r],Small x:=by
 intro x hx;rcases List.mem_append.1 hx with h1|h1;·exact h x h1
 rw[List.mem_singleton.1 h1];exact hr
theorem zg{x y:World}{base k:Nat}{e:TypeId}{size:Nat}{v:Value}{n:Nat}{xs:List Value}(h:x.ownsRow base e size v n xs)(he:Ex k x y)(hk:k<base):y.ownsRow base e size v n xs:=
 ⟨h.1,h.2.imp id (fun⟨g,cap,cur,h1,h2,h3,h4⟩=>⟨g,cap,cur,h1,h2,by
  have hg:g<x.heap.size:=by
   rcases Nat.lt_or_ge g x.heap.size with h'|h';·exact h'
   rw[Array.getElem?_eq_none h']at h3;cases h3
  rw[he.block g hg (by omega)];exact h3,h4⟩)⟩
theorem wM(w:World)(t:TypeId)(size:Nat):(w.alloc (.cells #[] t)).ownsRow w.heap.size t size (.slice (some ⟨w.heap.size,0,none⟩) 0 0) 0 []:=World.ownsRow_made w #[] 0 (Nat.le_refl _) (Nat.zero_le _) (by simp)
theorem JR(kr:Nat)(q clock:Int)(w:World)(hr:Rq w kr q)(hq:q<600000)(k0:0<=clock)(k1:clock<=100000):
  Calls prog 105 #[.pointer (some ⟨kr,0,none⟩),.int .i64 clock,.bool true] w fun e w'=>∃rs v,e=.returned v/\w'.ownsRow w.heap.size 39 11 v rs.length (aA rs)/\rs.length<=4/\(∀x∈rs,Small x)/\Rq w' kr (q+500)/\Ex kr w w':=by
 obtain⟨i0,hi,hz0,hz1,hz2⟩:=info_parts cE;have hkr:=hr.lt;have Es:=jH;have HR:=ah hr;clear hr;go_enter func105,ntmps105
 go_wp2_with fail
 go_loopw [7,8] (fun v i wx=>∃(k:Nat)(rs:List aw),k<=4/\i=.int .i64 k/\rs.length<=k/\Hid (∀x∈rs,Small x)/\Hid (wx.ownsRow w.heap.size 39 11 v rs.length (aA rs))/\Hid (Rq wx kr (q+101*k))/\Hid (Ex kr w wx)) (fun _ i _=>4-(intOf i).toNat)
 case atStart=>exact⟨0,[],by omega,rfl,Nat.le_refl _,(fun x hx=>by cases hx),wM _ _ _,(HR.out.below (ae bR (.cells #[] 39))).up (by omega),Ex.of_below (ae bR _)⟩
 case round=>
  obtain⟨k,rs,hk,rfl,hws,HF,HO,HQ,HE⟩:=hrel;by_cases hlt:k<4
  ·
   go_wp2_with fail
   refine(bO kr _ 2 _ HQ.out (by omega) (by omega) (by omega)).mono ?_;rintro e w1 ⟨m,rfl,m0,m1,r1,e1⟩;have O1:=ah (zg HO.out e1 hkr);have E1:=ah (HE.out.trans e1);have R1:=ah r1;clear HO HE HQ r1 e1;by_cases hm:m=0
   ·
    subst hm;go_wp2_with fail
    refine(jI k (by omega) (by omega) _).mono ?_;rintro e w2 ⟨x,rfl,hx,b2⟩;have R2:=ah (R1.out.below b2);have E2:=ah (E1.out.dh b2);have O2:=ah (aN O1.out b2);clear b2 R1 E1 O1;go_wp2_with fail
    refine(zf kr _ clock _ _ R2.out (by omega) k0 k1).mono ?_;rintro e w3 ⟨h,v1,p1,s,d,g,st,lf,fl,un,rfl,⟨lf0,lf1⟩,⟨VP,VQ⟩,hh,⟨VR,VT⟩,r3,e3⟩;have O3:=ah (zg O2.out e3 hkr);have E3:=ah (E2.out.trans e3);have R3:=ah r3;have hxs:({data:=#[99]}++x).size<=maxLen:=(by rw[i7,hx];unfold maxLen;omega);have np:h.size<=maxLen:=(by unfold maxLen;omega);have hz3:=E3.out.size;clear r3 e3 O2 E2 R2;go_wp2_with fail
    refine(fC _ h v1 p1 s d g st lf fl un clock _ hxs np).mono ?_;rintro e w4 ⟨rfl,b4⟩;have kb:=aJ b4;have kf:∀j,w4.frozen? ⟨w3.heap.size,j,none⟩=false:=fun j=>by rw[b4.frozen (p:=⟨w3.heap.size,j,none⟩) (by simp)];simp[go_sem]
    have Bz:Hid (Below w3.heap.size w3 w4):=af (ae bR _) b4;have Tm:w3.heap.size<w4.heap.size:=Nat.lt_of_lt_of_le (by simp) b4.size;clear b4;cases hB:eL ({data:=#[99]}++x) h v1 p1 s d g st lf fl un clock
    ·
     go_wp2_with (at_builtin;refine wpList_append_own _ rfl _ _ 24 rfl w.heap.size 39 i0 _ 11 104 underlying24 hi hz0 hz1 hz2 rfl (by decide) u7 rs.length _ rfl (by exact aN O3.out (ae (gW (gW Bz.out w3.heap.size 7 (.int .i64 2) (Nat.le_refl _)) w3.heap.size 8 (.int .i64 0) (Nat.le_refl _)) _)) ⟨_,0,none⟩ 1 1 (⟨{data:=#[99]}++x,h,v1,p1,s,d,g,2,0,fl,un⟩:aw).cells rfl rfl (bG _ _ (by simp) _ _ _ rfl) (aU (⟨{data:=#[99]}++x,h,v1,p1,s,d,g,2,0,fl,un⟩:aw)) (by unfold maxLen;omega) (by omega) (by have:=(ae (gW (gW Bz.out w3.heap.size 7 (.int .i64 2) (Nat.le_refl _)) w3.heap.size 8 (.int .i64 0) (Nat.le_refl _)) (.cells #[] 39)).size;simp at this ⊢;omega) ?_;intro v' w5 ho hg hn)
     refine⟨⟨k+1,rs++[(⟨{data:=#[99]}++x,h,v1,p1,s,d,g,2,0,fl,un⟩:aw)],by omega,by go_num,by simp;omega,nu HF.out (iF hxs np ⟨by omega,by omega⟩ ⟨by omega,by omega⟩ ⟨by omega,by omega⟩),?_,((R3.out.below (ae (gW (gW Bz.out w3.heap.size 7 (.int .i64 2) (Nat.le_refl _)) w3.heap.size 8 (.int .i64 0) (Nat.le_refl _)) _)).grown hg (fun j hj=>Nat.lt_of_lt_of_le hkr (br O3.out j hj))).up (by omega),(E3.out.dh (ae (gW (gW Bz.out w3.heap.size 7 (.int .i64 2) (Nat.le_refl _)) w3.heap.size 8 (.int .i64 0) (Nat.le_refl _)) _)).grown hg (fun j hj=>br O3.out j hj)⟩,by simp[intOf];omega⟩;show w5.ownsRow _ _ _ _ (rs++[(⟨{data:=#[99]}++x,h,v1,p1,s,d,g,2,0,fl,un⟩:aw)]).length _;rw[List.length_append,dU];simpa[aA]using ho
    go_wp2_with (at_builtin;refine wpList_append_own _ rfl _ _ 24 rfl w.heap.size 39 i0 _ 11 104 underlying24 hi hz0 hz1 hz2 rfl (by decide) u7 rs.length _ rfl (by exact aN O3.out (ae Bz.out _)) ⟨_,0,none⟩ 1 1 (⟨{data:=#[99]}++x,h,v1,p1,s,d,g,st,lf,fl,un⟩:aw).cells rfl rfl (bG _ _ (by simp) _ _ _ rfl) (aU (⟨{data:=#[99]}++x,h,v1,p1,s,d,g,st,lf,fl,un⟩:aw)) (by unfold maxLen;omega) (by omega) (by have:=(ae Bz.out (.cells #[] 39)).size;simp at this ⊢;omega) ?_;intro v' w5 ho hg hn)
    refine⟨⟨k+1,rs++[(⟨{data:=#[99]}++x,h,v1,p1,s,d,g,st,lf,fl,un⟩:aw)],by omega,by go_num,by simp;omega,nu HF.out (iF hxs np ⟨by omega,by omega⟩ ⟨by omega,by omega⟩ ⟨by omega,by omega⟩),?_,((R3.out.below (ae Bz.out _)).grown hg (fun j hj=>Nat.lt_of_lt_of_le hkr (br O3.out j hj))).up (by omega),(E3.out.dh (ae Bz.out _)).grown hg (fun j hj=>br O3.out j hj)⟩,by simp[intOf];omega⟩;show w5.ownsRow _ _ _ _ (rs++[(⟨{data:=#[99]}++x,h,v1,p1,s,d,g,st,lf,fl,un⟩:aw)]).length _;rw[List.length_append,dU];simpa[aA]using ho
   go_wp2
   exact⟨⟨k+1,rs,by omega,by go_num,by omega,HF.out,O1.out,R1.out.up (by omega),E1.out⟩,by simp[intOf];omega⟩
  go_wp2
  go_ret
  have hk4:k=4:=by omega
  subst hk4;exact⟨rs,_,rfl,HO.out,by omega,HF.out,HQ.out.up (by omega),HE.out⟩
end Go.Proofs.YtlfnpjcjapljpaaGreatDoor
