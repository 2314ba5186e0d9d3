import Derived.Test.YtlfnpjcjapljpaaGreatDoorJ28
import Derived.Test.YtlfnpjcjapljpaaGreatDoorJ30
import Derived.Test.YtlfnpjcjapljpaaGreatDoorJ29
namespace Go.Proofs.YtlfnpjcjapljpaaGreatDoor
open Go.Proofs.Tryz Go.RowKit
set_option maxRecDepth 4000
set_option maxHeartbeats 4000000
set_option linter.unusedVariables false
theorem W.gl{ops:Array Oper}{rest:List Oper}{o:Oper}{a:Act}{Q:Exit->Act->World->Prop}(Wo:World)(hgd:o.guard=none)(s x:Operand)
  (ho:o.op=.call {callee:=.builtin .append,args:=#[s,x],argTypes:=#[23,23]})
  (l:List W.ay) (ad:Option Addr) (c:Nat) (hs:a.eval s=.slice (some ⟨Wo.heap.size,0,none⟩) 0 0) (hx:a.eval x=.slice ad l.length c) (hsrc:W.Src Wo ad c l) (hl:l.length<=1048576)
  (h:∀s' w',W.Ow w' s' l Wo.heap.size->Below Wo.heap.size Wo w'->wpList prog ops Q rest (a.put o.dst s') w'):wpList prog ops Q (o::rest) a (Wo.alloc (.cells #[] 37)):=by
 obtain⟨i0,hi,hz0,hz1,hz2⟩:=info_parts W.cE;have hown:(Wo.alloc (.cells #[] 37)).ownsRow Wo.heap.size 37 7 (.slice (some ⟨Wo.heap.size,0,none⟩) 0 0) 0 []:=World.ownsRow_made Wo #[] 0 (Nat.le_refl _) (Nat.zero_le _) rfl;have hb:Below Wo.heap.size Wo (Wo.alloc (.cells #[] 37)):=ae bR _;rcases hsrc with⟨rfl,rfl,rfl⟩|⟨g,rfl,hg,hr⟩;·exact wpList_append_own_none hgd s x 23 ho Wo.heap.size 37 i0 7 underlying23 hi _ 0 [] hs hown hx (h _ _ (W.Ow.bE (l:=[]) hown) hb)
 ·
  refine wpList_append_own _ hgd s x 23 ho Wo.heap.size 37 i0 _ 7 72 underlying23 hi hz0 hz1 hz2 rfl (by decide) _ 0 [] hs hown ⟨g,0,none⟩ l.length c (W.aA l) hx (W.aZ _) (W.cO (hr.keep hg hb)) (W.bw _) (by unfold maxLen;omega) (by omega) hb.size ?_;intro s' w' ho' hg' hn';exact h s' w' (W.Ow.bE (by simpa using ho')) (Below.grown hb hg' hb.size (fun j hj=>by cases hj;exact Nat.le_refl _))
theorem gl{ops:Array Oper}{rest:List Oper}{o:Oper}{a:Act}{Q:Exit->Act->World->Prop}(Wo:World)(hgd:o.guard=none)(s x:Operand)
  (ho:o.op=.call {callee:=.builtin .append,args:=#[s,x],argTypes:=#[24,24]})
  (l:List aw) (ad:Option Addr) (c:Nat) (hs:a.eval s=.slice (some ⟨Wo.heap.size,0,none⟩) 0 0) (hx:a.eval x=.slice ad l.length c) (hsrc:Src Wo ad c l) (hl:l.length<=1048576)
  (h:∀s' w',Ow w' s' l Wo.heap.size->Below Wo.heap.size Wo w'->wpList prog ops Q rest (a.put o.dst s') w'):wpList prog ops Q (o::rest) a (Wo.alloc (.cells #[] 39)):=by
 obtain⟨i0,hi,hz0,hz1,hz2⟩:=info_parts cE;have hown:(Wo.alloc (.cells #[] 39)).ownsRow Wo.heap.size 39 11 (.slice (some ⟨Wo.heap.size,0,none⟩) 0 0) 0 []:=World.ownsRow_made Wo #[] 0 (Nat.le_refl _) (Nat.zero_le _) rfl;have hb:Below Wo.heap.size Wo (Wo.alloc (.cells #[] 39)):=ae bR _;rcases hsrc with⟨rfl,rfl,rfl⟩|⟨g,rfl,hg,hr⟩;·exact wpList_append_own_none hgd s x 24 ho Wo.heap.size 39 i0 11 underlying24 hi _ 0 [] hs hown hx (h _ _ (Ow.bE (l:=[]) hown) hb)
 ·
  refine wpList_append_own _ hgd s x 24 ho Wo.heap.size 39 i0 _ 11 104 underlying24 hi hz0 hz1 hz2 rfl (by decide) _ 0 [] hs hown ⟨g,0,none⟩ l.length c (aA l) hx (aZ _) (cO (hr.keep hg hb)) (bw _) (by unfold maxLen;omega) (by omega) hb.size ?_;intro s' w' ho' hg' hn';exact h s' w' (Ow.bE (by simpa using ho')) (Below.grown hb hg' hb.size (fun j hj=>by cases hj;exact Nat.le_refl _))
theorem A.gl{ops:Array Oper}{rest:List Oper}{o:Oper}{a:Act}{Q:Exit->Act->World->Prop}(Wo:World)(hgd:o.guard=none)(s x:Operand)
  (ho:o.op=.call {callee:=.builtin .append,args:=#[s,x],argTypes:=#[25,25]})
  (l:List A.aC) (ad:Option Addr) (c:Nat) (hs:a.eval s=.slice (some ⟨Wo.heap.size,0,none⟩) 0 0) (hx:a.eval x=.slice ad l.length c) (hsrc:A.Src Wo ad c l) (hl:l.length<=1048576)
  (h:∀s' w',A.Ow w' s' l Wo.heap.size->Below Wo.heap.size Wo w'->wpList prog ops Q rest (a.put o.dst s') w'):wpList prog ops Q (o::rest) a (Wo.alloc (.cells #[] 64)):=by
 obtain⟨i0,hi,hz0,hz1,hz2⟩:=info_parts A.cE;have hown:(Wo.alloc (.cells #[] 64)).ownsRow Wo.heap.size 64 4 (.slice (some ⟨Wo.heap.size,0,none⟩) 0 0) 0 []:=World.ownsRow_made Wo #[] 0 (Nat.le_refl _) (Nat.zero_le _) rfl;have hb:Below Wo.heap.size Wo (Wo.alloc (.cells #[] 64)):=ae bR _;rcases hsrc with⟨rfl,rfl,rfl⟩|⟨g,rfl,hg,hr⟩;·exact wpList_append_own_none hgd s x 25 ho Wo.heap.size 64 i0 4 underlying25 hi _ 0 [] hs hown hx (h _ _ (A.Ow.bE (l:=[]) hown) hb)
 ·
  refine wpList_append_own _ hgd s x 25 ho Wo.heap.size 64 i0 _ 4 48 underlying25 hi hz0 hz1 hz2 rfl (by decide) _ 0 [] hs hown ⟨g,0,none⟩ l.length c (A.aA l) hx (A.aZ _) (A.cO (hr.keep hg hb)) (A.bw _) (by unfold maxLen;omega) (by omega) hb.size ?_;intro s' w' ho' hg' hn';exact h s' w' (A.Ow.bE (by simpa using ho')) (Below.grown hb hg' hb.size (fun j hj=>by cases hj;exact Nat.le_refl _))
theorem ku(m:aj)(x1 x2 x3 x4:Option Addr)(c1 c2 c3 c4:Nat)(w:World)(h1:W.Src w x1 c1 m.ws)(h2:Src w x2 c2 m.rs)(h3:A.Src w x3 c3 m.qs)(h4:A.Src w x4 c4 m.gs)(hf:Lens m):
  Calls prog 27 #[.agg (bK m x1 x2 x3 x4 c1 c2 c3 c4)] w fun e w'=>(∃s1 s2 s3 s4,e=.returned (.agg (bY m.nm m.up m.ck m.kn m.se s1 s2 s3 s4))/\mS w' m s1 s2 s3 s4 w.heap.size)/\Below w.heap.size w w':=by
 have S0:=ah (ic m x1 x2 x3 x4 c1 c2 c3 c4 w);have hinfo:(prog.info? 27).map (·.size)=some 9:=by kernel_rfl
 have MB:=kS;have Es:=jH;have Qm:=fS;have SX:w.heap.size<w.heap.size+1:=by omega
 have H1:=ah h1;have H2:=ah h2;have H3:=ah h3;have H4:=ah h4;clear h1 h2 h3 h4;go_enter func27,ntmps27
 go_wp2_with (first|(at_builtin;refine W.gl ((w.alloc (.cells (bK m x1 x2 x3 x4 c1 c2 c3 c4) 27)).alloc (.cells iU 27)) rfl (.tmp 3) (.tmp 5) rfl m.ws x1 c1 (by first|rfl|simp[Act.eval]) (by first|rfl|simp[Act.eval]) (W.Src.keep H1.out S0.out.e) hf.k1 ?_;intro s1 w1 r1 y1;obtain⟨a1,p1,hs1⟩:=W.Ow.shape r1;subst hs1;have Y1:Hid (Below ((w.alloc (.cells (bK m x1 x2 x3 x4 c1 c2 c3 c4) 27)).alloc (.cells iU 27)).heap.size ((w.alloc (.cells (bK m x1 x2 x3 x4 c1 c2 c3 c4) 27)).alloc (.cells iU 27)) w1):=y1;have Q1:Hid (W.Ow w1 (ai a1 m.ws p1) m.ws ((w.alloc (.cells (bK m x1 x2 x3 x4 c1 c2 c3 c4) 27)).alloc (.cells iU 27)).heap.size):=r1;have T1:Hid (Sc w (bK m x1 x2 x3 x4 c1 c2 c3 c4) w1):=S0.out.below Y1.out;have S1:Hid (Sc w #[.string m.nm,.bool m.up,.int .i64 m.ck,.bool m.kn,.int .i64 m.se,(ai a1 m.ws p1),.slice x2 m.rs.length c2,.slice x3 m.qs.length c3,.slice x4 m.gs.length c4] (w1.setCell ⟨w.heap.size,5,none⟩ (ai a1 m.ws p1))):=T1.out.set 5 (by simp) _;have X1:Hid (Ex w.heap.size w1 (w1.setCell ⟨w.heap.size,5,none⟩ (ai a1 m.ws p1))):=Ex.set (Ex.refl _ _) 5 _;clear r1 y1;have Jr:=T1.out.b;have Js:=T1.out.c;have Jt:w.heap.size<w1.heap.size:=by have:=T1.out.f;omega)|(at_builtin;refine gl (w1.setCell ⟨w.heap.size,5,none⟩ (ai a1 m.ws p1)) rfl (.tmp 8) (.tmp 10) rfl m.rs x2 c2 (by first|rfl|simp[Act.eval]) (by first|rfl|simp[Act.eval]) (Src.keep H2.out S1.out.e) hf.k2 ?_;intro s2 w2 r2 y2;obtain⟨a2,p2,hs2⟩:=Ow.shape r2;subst hs2;have Y2:Hid (Below (w1.setCell ⟨w.heap.size,5,none⟩ (ai a1 m.ws p1)).heap.size (w1.setCell ⟨w.heap.size,5,none⟩ (ai a1 m.ws p1)) w2):=y2;have Q2:Hid (Ow w2 (ai a2 m.rs p2) m.rs (w1.setCell ⟨w.heap.size,5,none⟩ (ai a1 m.ws p1)).heap.size):=r2;have T2:Hid (Sc w #[.string m.nm,.bool m.up,.int .i64 m.ck,.bool m.kn,.int .i64 m.se,(ai a1 m.ws p1),.slice x2 m.rs.length c2,.slice x3 m.qs.length c3,.slice x4 m.gs.length c4] w2):=S1.out.below Y2.out;have S2:Hid (Sc w #[.string m.nm,.bool m.up,.int .i64 m.ck,.bool m.kn,.int .i64 m.se,(ai a1 m.ws p1),(ai a2 m.rs p2),.slice x3 m.qs.length c3,.slice x4 m.gs.length c4] (w2.setCell ⟨w.heap.size,6,none⟩ (ai a2 m.rs p2))):=T2.out.set 6 (by simp) _;have X2:Hid (Ex w.heap.size w2 (w2.setCell ⟨w.heap.size,6,none⟩ (ai a2 m.rs p2))):=Ex.set (Ex.refl _ _) 6 _;clear r2 y2;have Ju:=T2.out.b;have Jv:=T2.out.c;have Jw:w.heap.size<w2.heap.size:=by have:=T2.out.f;omega)|(at_builtin;refine A.gl (w2.setCell ⟨w.heap.size,6,none⟩ (ai a2 m.rs p2)) rfl (.tmp 13) (.tmp 15) rfl m.qs x3 c3 (by first|rfl|simp[Act.eval]) (by first|rfl|simp[Act.eval]) (A.Src.keep H3.out S2.out.e) hf.k3 ?_;intro s3 w3 r3 y3;obtain⟨a3,p3,hs3⟩:=A.Ow.shape r3;subst hs3;have Y3:Hid (Below (w2.setCell ⟨w.heap.size,6,none⟩ (ai a2 m.rs p2)).heap.size (w2.setCell ⟨w.heap.size,6,none⟩ (ai a2 m.rs p2)) w3):=y3;have Q3:Hid (A.Ow w3 (ai a3 m.qs p3) m.qs (w2.setCell ⟨w.heap.size,6,none⟩ (ai a2 m.rs p2)).heap.size):=r3;have T3:Hid (Sc w #[.string m.nm,.bool m.up,.int .i64 m.ck,.bool m.kn,.int .i64 m.se,(ai a1 m.ws p1),(ai a2 m.rs p2),.slice x3 m.qs.length c3,.slice x4 m.gs.length c4] w3):=S2.out.below Y3.out;have S3:Hid (Sc w #[.string m.nm,.bool m.up,.int .i64 m.ck,.bool m.kn,.int .i64 m.se,(ai a1 m.ws p1),(ai a2 m.rs p2),(ai a3 m.qs p3),.slice x4 m.gs.length c4] (w3.setCell ⟨w.heap.size,7,none⟩ (ai a3 m.qs p3))):=T3.out.set 7 (by simp) _;have X3:Hid (Ex w.heap.size w3 (w3.setCell ⟨w.heap.size,7,none⟩ (ai a3 m.qs p3))):=Ex.set (Ex.refl _ _) 7 _;clear r3 y3;have Jx:=T3.out.b;have IK:=T3.out.c;have Jy:w.heap.size<w3.heap.size:=by have:=T3.out.f;omega)|(at_builtin;refine A.gl (w3.setCell ⟨w.heap.size,7,none⟩ (ai a3 m.qs p3)) rfl (.tmp 18) (.tmp 20) rfl m.gs x4 c4 (by first|rfl|simp[Act.eval]) (by first|rfl|simp[Act.eval]) (A.Src.keep H4.out S3.out.e) hf.k4 ?_;intro s4 w4 r4 y4;obtain⟨a4,p4,hs4⟩:=A.Ow.shape r4;subst hs4;have Y4:Hid (Below (w3.setCell ⟨w.heap.size,7,none⟩ (ai a3 m.qs p3)).heap.size (w3.setCell ⟨w.heap.size,7,none⟩ (ai a3 m.qs p3)) w4):=y4;have Q4:Hid (A.Ow w4 (ai a4 m.gs p4) m.gs (w3.setCell ⟨w.heap.size,7,none⟩ (ai a3 m.qs p3)).heap.size):=r4;have T4:Hid (Sc w #[.string m.nm,.bool m.up,.int .i64 m.ck,.bool m.kn,.int .i64 m.se,(ai a1 m.ws p1),(ai a2 m.rs p2),(ai a3 m.qs p3),.slice x4 m.gs.length c4] w4):=S3.out.below Y4.out;have S4:Hid (Sc w #[.string m.nm,.bool m.up,.int .i64 m.ck,.bool m.kn,.int .i64 m.se,(ai a1 m.ws p1),(ai a2 m.rs p2),(ai a3 m.qs p3),(ai a4 m.gs p4)] (w4.setCell ⟨w.heap.size,8,none⟩ (ai a4 m.gs p4))):=T4.out.set 8 (by simp) _;have X4:Hid (Ex w.heap.size w4 (w4.setCell ⟨w.heap.size,8,none⟩ (ai a4 m.gs p4))):=Ex.set (Ex.refl _ _) 8 _;clear r4 y4;have NF:=T4.out.b;have MC:=T4.out.c;have NG:w.heap.size<w4.heap.size:=by have:=T4.out.f;omega)|(refine wpList_store_mid (by rfl) 27 _ _ (by rfl) (w.heap.size+1) 0 #[.string m.nm,.bool m.up,.int .i64 m.ck,.bool m.kn,.int .i64 m.se,(ai a1 m.ws p1),(ai a2 m.rs p2),(ai a3 m.qs p3),(ai a4 m.gs p4)] (by rfl) (by rfl) (by exact S4.out.d) hinfo (by exact all_oneCell_toArray (ones m Q1.out.sl Q2.out.sl Q3.out.sl Q4.out.sl)) ?_))
 have hx1:Ex (w.heap.size+1) (w4.setCell ⟨w.heap.size,8,none⟩ (ai a4 m.gs p4)) (World.setCells (w4.setCell ⟨w.heap.size,8,none⟩ (ai a4 m.gs p4)) (w.heap.size+1) 0 [.string m.nm,.bool m.up,.int .i64 m.ck,.bool m.kn,.int .i64 m.se,(ai a1 m.ws p1),(ai a2 m.rs p2),(ai a3 m.qs p3),(ai a4 m.gs p4)]):=(Ex.refl _ _).cells _ _;have P1:Hid (W.Ow (World.setCells (w4.setCell ⟨w.heap.size,8,none⟩ (ai a4 m.gs p4)) (w.heap.size+1) 0 [.string m.nm,.bool m.up,.int .i64 m.ck,.bool m.kn,.int .i64 m.se,(ai a1 m.ws p1),(ai a2 m.rs p2),(ai a3 m.qs p3),(ai a4 m.gs p4)]) (ai a1 m.ws p1) m.ws w.heap.size):=W.Ow.low (((((((((Q1.out).grown (W.av X1.out) (bC (N:=w.heap.size+1) (fun g hg=>by have h1:=(Q1.out.lt g hg).1;have h2:=S0.out.f;omega) (by omega))).keep Y2.out).grown (W.av X2.out) (bC (N:=w.heap.size+1) (fun g hg=>by have h1:=(Q1.out.lt g hg).1;have h2:=S0.out.f;omega) (by omega))).keep Y3.out).grown (W.av X3.out) (bC (N:=w.heap.size+1) (fun g hg=>by have h1:=(Q1.out.lt g hg).1;have h2:=S0.out.f;omega) (by omega))).keep Y4.out).grown (W.av X4.out) (bC (N:=w.heap.size+1) (fun g hg=>by have h1:=(Q1.out.lt g hg).1;have h2:=S0.out.f;omega) (by omega))).grown (W.av hx1) (bC (N:=w.heap.size+1) (fun g hg=>by have h1:=(Q1.out.lt g hg).1;have h2:=S0.out.f;omega) (by omega))) (by have:=S0.out.f;omega);have P2:Hid (Ow (World.setCells (w4.setCell ⟨w.heap.size,8,none⟩ (ai a4 m.gs p4)) (w.heap.size+1) 0 [.string m.nm,.bool m.up,.int .i64 m.ck,.bool m.kn,.int .i64 m.se,(ai a1 m.ws p1),(ai a2 m.rs p2),(ai a3 m.qs p3),(ai a4 m.gs p4)]) (ai a2 m.rs p2) m.rs w.heap.size):=Ow.low (((((((Q2.out).grown (av X2.out) (bC (N:=w.heap.size+1) (fun g hg=>by have h1:=(Q2.out.lt g hg).1;have h2:=S1.out.f;omega) (by omega))).keep Y3.out).grown (av X3.out) (bC (N:=w.heap.size+1) (fun g hg=>by have h1:=(Q2.out.lt g hg).1;have h2:=S1.out.f;omega) (by omega))).keep Y4.out).grown (av X4.out) (bC (N:=w.heap.size+1) (fun g hg=>by have h1:=(Q2.out.lt g hg).1;have h2:=S1.out.f;omega) (by omega))).grown (av hx1) (bC (N:=w.heap.size+1) (fun g hg=>by have h1:=(Q2.out.lt g hg).1;have h2:=S1.out.f;omega) (by omega))) (by have:=S1.out.f;omega);have P3:Hid (A.Ow (World.setCells (w4.setCell ⟨w.heap.size,8,none⟩ (ai a4 m.gs p4)) (w.heap.size+1) 0 [.string m.nm,.bool m.up,.int .i64 m.ck,.bool m.kn,.int .i64 m.se,(ai a1 m.ws p1),(ai a2 m.rs p2),(ai a3 m.qs p3),(ai a4 m.gs p4)]) (ai a3 m.qs p3) m.qs w.heap.size):=A.Ow.low (((((Q3.out).grown (A.av X3.out) (bC (N:=w.heap.size+1) (fun g hg=>by have h1:=(Q3.out.lt g hg).1;have h2:=S2.out.f;omega) (by omega))).keep Y4.out).grown (A.av X4.out) (bC (N:=w.heap.size+1) (fun g hg=>by have h1:=(Q3.out.lt g hg).1;have h2:=S2.out.f;omega) (by omega))).grown (A.av hx1) (bC (N:=w.heap.size+1) (fun g hg=>by have h1:=(Q3.out.lt g hg).1;have h2:=S2.out.f;omega) (by omega))) (by have:=S2.out.f;omega);have P4:Hid (A.Ow (World.setCells (w4.setCell ⟨w.heap.size,8,none⟩ (ai a4 m.gs p4)) (w.heap.size+1) 0 [.string m.nm,.bool m.up,.int .i64 m.ck,.bool m.kn,.int .i64 m.se,(ai a1 m.ws p1),(ai a2 m.rs p2),(ai a3 m.qs p3),(ai a4 m.gs p4)]) (ai a4 m.gs p4) m.gs w.heap.size):=A.Ow.low (((Q4.out).grown (A.av X4.out) (bC (N:=w.heap.size+1) (fun g hg=>by have h1:=(Q4.out.lt g hg).1;have h2:=S3.out.f;omega) (by omega))).grown (A.av hx1) (bC (N:=w.heap.size+1) (fun g hg=>by have h1:=(Q4.out.lt g hg).1;have h2:=S3.out.f;omega) (by omega))) (by have:=S3.out.f;omega);have sC:Hid (eh (ai a1 m.ws p1) (ai a2 m.rs p2)):=cj (fun g hg=>(Q1.out.lt g hg).2) (fun g hg=>(Q2.out.lt g hg).1) (by have h0:=X1.out.size;omega);have oO:Hid (eh (ai a1 m.ws p1) (ai a3 m.qs p3)):=cj (fun g hg=>(Q1.out.lt g hg).2) (fun g hg=>(Q3.out.lt g hg).1) (by have h0:=X1.out.size;have h1:=X2.out.size;have h2:=Y2.out.size;omega);have qx:Hid (eh (ai a1 m.ws p1) (ai a4 m.gs p4)):=cj (fun g hg=>(Q1.out.lt g hg).2) (fun g hg=>(Q4.out.lt g hg).1) (by have h0:=X1.out.size;have h1:=X2.out.size;have h2:=X3.out.size;have h3:=Y2.out.size;have h4:=Y3.out.size;omega);have Fj:Hid (eh (ai a2 m.rs p2) (ai a3 m.qs p3)):=cj (fun g hg=>(Q2.out.lt g hg).2) (fun g hg=>(Q3.out.lt g hg).1) (by have h0:=X2.out.size;omega);have Fl:Hid (eh (ai a2 m.rs p2) (ai a4 m.gs p4)):=cj (fun g hg=>(Q2.out.lt g hg).2) (fun g hg=>(Q4.out.lt g hg).1) (by have h0:=X2.out.size;have h1:=X3.out.size;have h2:=Y3.out.size;omega);have Fo:Hid (eh (ai a3 m.qs p3) (ai a4 m.gs p4)):=cj (fun g hg=>(Q3.out.lt g hg).2) (fun g hg=>(Q4.out.lt g hg).1) (by have h0:=X3.out.size;omega);have LS:Hid (mS (World.setCells (w4.setCell ⟨w.heap.size,8,none⟩ (ai a4 m.gs p4)) (w.heap.size+1) 0 [.string m.nm,.bool m.up,.int .i64 m.ck,.bool m.kn,.int .i64 m.se,(ai a1 m.ws p1),(ai a2 m.rs p2),(ai a3 m.qs p3),(ai a4 m.gs p4)]) m (ai a1 m.ws p1) (ai a2 m.rs p2) (ai a3 m.qs p3) (ai a4 m.gs p4) w.heap.size):=⟨P1.out,P2.out,P3.out,P4.out,sC.out,oO.out,qx.out,Fj.out,Fl.out,Fo.out⟩
 have BE:Hid (Below w.heap.size w (World.setCells (w4.setCell ⟨w.heap.size,8,none⟩ (ai a4 m.gs p4)) (w.heap.size+1) 0 [.string m.nm,.bool m.up,.int .i64 m.ck,.bool m.kn,.int .i64 m.se,(ai a1 m.ws p1),(ai a2 m.rs p2),(ai a3 m.qs p3),(ai a4 m.gs p4)])):=⟨hx1.os.trans S4.out.e.os,hx1.tape.trans S4.out.e.tape,hx1.output.trans S4.out.e.output,Nat.le_trans S4.out.e.size hx1.size,fun k hk=>(hx1.block k (Nat.lt_of_lt_of_le hk S4.out.e.size) (by omega)).trans (S4.out.e.block k hk)⟩
 have RG:Hid _:=World.rangeAt_setCells_same (w4.setCell ⟨w.heap.size,8,none⟩ (ai a4 m.gs p4)) (w.heap.size+1) 0 [.string m.nm,.bool m.up,.int .i64 m.ck,.bool m.kn,.int .i64 m.se,(ai a1 m.ws p1),(ai a2 m.rs p2),(ai a3 m.qs p3),(ai a4 m.gs p4)] S4.out.d;clear hx1 P1 P2 P3 P4;have hrg:=RG.out;obtain⟨d0,d1,d2,d3,d4,d5,d6,d7,d8⟩:=d9 hrg;exact bodyPost_ret (v:=.agg #[.string m.nm,.bool m.up,.int .i64 m.ck,.bool m.kn,.int .i64 m.se,(ai a1 m.ws p1),(ai a2 m.rs p2),(ai a3 m.qs p3),(ai a4 m.gs p4)]) (by simp[results,results27,go_sem,d0,d1,d2,d3,d4,d5,d6,d7,d8]) rfl ⟨⟨_,_,_,_,rfl,LS.out⟩,BE.out⟩
theorem heap_put{w:World}{b i:Nat}{cur:Array Value}{e:TypeId}(h:w.heap[b]?=some (.cells cur e (0,0)))(v:Value):(w.setCell ⟨b,i,none⟩ v).heap[b]?=some (.cells (cur.setIfInBounds i v) e (0,0)):=heap_setCell_same w b i cur e v h
theorem sL{x:World}{B size g n c:Nat}{e:TypeId}{xs:List Value}(h:x.ownsRow B e size (.slice (some ⟨g,0,none⟩) n c) n xs)(p:Nat)(hp:p<xs.length)(v:Value):(x.setCell ⟨g,p,none⟩ v).ownsRow B e size (.slice (some ⟨g,0,none⟩) n c) n (xs.set p v):=by
 obtain⟨hl,⟨h1,-⟩|⟨g',cap,cur,h1,h2,h3,h4,h5,h6,h7⟩⟩:=h;·cases h1
 cases h1;refine⟨by simpa using hl,Or.inr ⟨g,c,cur.setIfInBounds p v,rfl,h2,heap_put h3 v,h4,h5,by simpa using h6,?_⟩⟩;rw[Array.toList_setIfInBounds,List.take_set,h7]
theorem eu(r:aw)(rs:List aw):aA (r::rs)=r.cells++aA rs:=by simp[aA]
theorem pF:∀(rs:List aw)(i j:Nat)(r r':aw)(v:Value),rs[i]?=some r->r'.cells=r.cells.set j v->j<11->aA (rs.set i r')=(aA rs).set (i*11+j) v
 |[],i,j,r,r',v,h,hc,hj=>by simp at h
 |q::rs,0,j,r,r',v,h,hc,hj=>by simp at h;subst h;rw[List.set_cons_zero,eu,eu,hc,Nat.zero_mul,Nat.zero_add,List.set_append_left _ _ (by show j<11;exact hj)]
 |q::rs,i+1,j,r,r',v,h,hc,hj=>by have ih:=pF rs i j r r' v (by simpa using h) hc hj;rw[List.set_cons_succ,eu,eu,ih,List.set_append_right _ _ (by show 11<=(i+1)*11+j;omega)];congr 1;show _=(aA rs).set ((i+1)*11+j-11) v;congr 1;omega
theorem Ow.put{x:World}{g n c B i j:Nat}{rs:List aw}{r r':aw}{v:Value}(h:Ow x (.slice (some ⟨g,0,none⟩) n c) rs B)(hr:rs[i]?=some r)(hc:r'.cells=r.cells.set j v)(hj:j<11):Ow (x.setCell ⟨g,i*11+j,none⟩ v) (.slice (some ⟨g,0,none⟩) n c) (rs.set i r') B:=by
 have hn:n=rs.length:=by obtain⟨a,p,e⟩:=h.shape;cases e;rfl
 subst hn;have hi:i<rs.length:=(List.getElem?_eq_some_iff.1 hr).1;have h1:=sL h (i*11+j) (by rw[aZ];omega) v;rw[<-pF rs i j r r' v hr hc hj]at h1;show World.ownsRow _ _ _ _ _ (rs.set i r').length _;rw[List.length_set];exact h1
theorem Ow.blk{x:World}{v:Value}{rs:List aw}{B i:Nat}(h:Ow x v rs B)(hi:i<rs.length):∃g c,v=.slice (some ⟨g,0,none⟩) rs.length c/\B<=g/\g<x.heap.size/\aG x g 0 rs/\x.there g 0 (rs.length*11):=by
 rcases h.sl with⟨-,h0⟩|⟨g,c,h1,h2,h3,h4,h5⟩;·rw[h0]at hi;simp at hi
 exact⟨g,c,h1,h2,h3,h4,h5⟩
theorem W.Ow.blk{x:World}{v:Value}{rs:List W.ay}{B i:Nat}(h:W.Ow x v rs B)(hi:i<rs.length):∃g c,v=.slice (some ⟨g,0,none⟩) rs.length c/\B<=g/\g<x.heap.size/\W.aG x g 0 rs/\x.there g 0 (rs.length*7):=by
 rcases h.sl with⟨-,h0⟩|⟨g,c,h1,h2,h3,h4,h5⟩;·rw[h0]at hi;simp at hi
 exact⟨g,c,h1,h2,h3,h4,h5⟩
structure Dm(w:World)(kr bm:Nat)(m:aj)(s1 s2 s3 s4:Value)(q:Int)(x:World):Prop where
 b:∀k,x.cell? ⟨bm,k,none⟩=((bY m.nm m.up m.ck m.kn m.se s1 s2 s3 s4):Array Value)[k]?
 c:∀k,x.frozen? ⟨bm,k,none⟩=false
 d:x.there w.heap.size 0 9
 l:mS x m s1 s2 s3 s4 (bm+1)
 r:Rq x kr q
 e:Ex kr w x
 z:bm<x.heap.size
 zw:w.heap.size<bm
 zk:kr<w.heap.size
theorem eV{v:Value}{row:Option Nat}(h:∀k,row=some k->v.ownBlock≠some k):v.ownBlock=none\/v.ownBlock≠row:=by
 cases hv:v.ownBlock with
 |none=>exact Or.inl rfl
 |some g=>exact Or.inr (fun e=>h g e.symm hv)
theorem Dm.grown{w:World}{kr bm:Nat}{m:aj}{s1 s2 s3 s4:Value}{q:Int}{x y:World}{row:Option Nat}(h:Dm w kr bm m s1 s2 s3 s4 q x)(hg:x.grownBy y row)(hr:∀k,row=some k->bm<k)
  (hn:∀k,row=some k->s1.ownBlock≠some k/\s2.ownBlock≠some k/\s3.ownBlock≠some k/\s4.ownBlock≠some k):Dm w kr bm m s1 s2 s3 s4 q y:=by
 have z:=h.z;have zw:=h.zw;have zk:=h.zk;have kb:y.heap[bm]?=x.heap[bm]?:=hg.block bm z (fun e=>by have:=hr _ e.symm;omega);have kw:y.heap[w.heap.size]?=x.heap[w.heap.size]?:=hg.block _ (by omega) (fun e=>by have:=hr _ e.symm;omega);refine⟨fun k=>(World.cell?_of_block (w:=x) (a:=⟨bm,k,none⟩) kb).trans (h.b k),fun k=>(World.frozen?_of_block (w:=x) (a:=⟨bm,k,none⟩) kb).trans (h.c k),fun j hj=>⟨by rw[World.cell?_of_block (w:=x) (a:=⟨w.heap.size,0+j,none⟩) kw];exact(h.d j hj).1,by rw[World.frozen?_of_block (w:=x) (a:=⟨w.heap.size,0+j,none⟩) kw];exact(h.d j hj).2⟩,?_,h.r.grown hg (fun k hk=>by have:=hr k hk;omega),h.e.grown hg (fun k hk=>by have:=hr k hk;omega),Nat.lt_of_lt_of_le z hg.size,zw,zk⟩;have l:=h.l;exact⟨l.a1.grown hg (eV fun k hk=>(hn k hk).1),l.a2.grown hg (eV fun k hk=>(hn k hk).2.1),l.a3.grown hg (eV fun k hk=>(hn k hk).2.2.1),l.a4.grown hg (eV fun k hk=>(hn k hk).2.2.2),l.gR,l.im,l.iq,l.iu,l.iV,l.jo⟩
theorem Dm.below{w:World}{kr bm:Nat}{m:aj}{s1 s2 s3 s4:Value}{q:Int}{x y:World}(h:Dm w kr bm m s1 s2 s3 s4 q x)(hb:Below x.heap.size x y):Dm w kr bm m s1 s2 s3 s4 q y:=
 h.grown (gT hb) (fun k hk=>by cases hk) (fun k hk=>by cases hk)
theorem Dm.pick{w:World}{kr bm:Nat}{m:aj}{s1 s2 s3 s4:Value}{q q':Int}{x y:World}(h:Dm w kr bm m s1 s2 s3 s4 q x)(he:Ex kr x y)(hr:Rq y kr q'):Dm w kr bm m s1 s2 s3 s4 q' y:=by have z:=h.z;have zw:=h.zw;have zk:=h.zk;exact⟨fun k=>(he.cell (p:=⟨bm,k,none⟩) z (by show bm≠kr;omega)).trans (h.b k),fun k=>(he.frozen (p:=⟨bm,k,none⟩) z (by show bm≠kr;omega)).trans (h.c k),bh h.d (by omega) he (by omega),h.l.ex he (by omega),hr,h.e.trans he,Nat.lt_of_lt_of_le z he.size,zw,zk⟩
theorem Dm.up{w:World}{kr bm:Nat}{m:aj}{s1 s2 s3 s4:Value}{q q':Int}{x:World}(h:Dm w kr bm m s1 s2 s3 s4 q x)(hq:q<=q'):Dm w kr bm m s1 s2 s3 s4 q' x:=⟨h.b,h.c,h.d,h.l,h.r.up hq,h.e,h.z,h.zw,h.zk⟩
theorem uJ{w:World}{kr bm:Nat}{m m':aj}{s1 s2 s3 s4 t1 t2 t3 t4:Value}{q:Int}{x:World}(hb:∀k,x.cell? ⟨bm,k,none⟩=((bY m.nm m.up m.ck m.kn m.se s1 s2 s3 s4):Array Value)[k]?)(hc:∀k,x.frozen? ⟨bm,k,none⟩=false)(hd:x.there w.heap.size 0 9)(hr:Rq x kr q)(he0:Ex kr w x)(z:bm<x.heap.size)(zw:w.heap.size<bm)(zk:kr<w.heap.size)(j:Nat)(u:Value)(hj:j<9)(hO:((bY m'.nm m'.up m'.ck m'.kn m'.se t1 t2 t3 t4):Array Value)=((bY m.nm m.up m.ck m.kn m.se s1 s2 s3 s4):Array Value).setIfInBounds j u)
  (hl:mS x m' t1 t2 t3 t4 (bm+1)):Dm w kr bm m' t1 t2 t3 t4 q (x.setCell ⟨bm,j,none⟩ u):=by
 have he:Ex bm x (x.setCell ⟨bm,j,none⟩ u):=(Ex.refl _ _).set j u;have hg:x.grownBy (x.setCell ⟨bm,j,none⟩ u) (some bm):=A.av he;refine⟨fun k=>?_,fun k=>by rw[World.frozen?_setCell];exact hc k,bh hd (by omega) he (by omega),hl.ex he (by omega),?_,he0.grown hg (fun k hk=>by cases hk;omega),Nat.lt_of_lt_of_le z he.size,zw,zk⟩
 ·
  rw[hO];by_cases e:k=j
  ·
   subst e;have h1:=hb k;rw[Array.getElem?_eq_getElem (by simpa using hj)]at h1;rw[World.cell?_setCell_same _ _ _ h1,Array.getElem?_setIfInBounds_self_of_lt (by simpa using hj)]
  rw[World.cell?_setCell_other _ _ _ _ (fun h'=>e (by have:=congrArg Addr.off h';exact this.symm)),hb k,Array.getElem?_setIfInBounds_ne (fun e'=>e e'.symm)]
 ·exact hr.grown hg (fun k hk=>by cases hk;omega)
theorem Dm.set{w:World}{kr bm:Nat}{m m':aj}{s1 s2 s3 s4 t1 t2 t3 t4:Value}{q:Int}{x:World}(h:Dm w kr bm m s1 s2 s3 s4 q x)(j:Nat)(u:Value)(hj:j<9)(hO:((bY m'.nm m'.up m'.ck m'.kn m'.se t1 t2 t3 t4):Array Value)=((bY m.nm m.up m.ck m.kn m.se s1 s2 s3 s4):Array Value).setIfInBounds j u)
  (hl:mS x m' t1 t2 t3 t4 (bm+1)):Dm w kr bm m' t1 t2 t3 t4 q (x.setCell ⟨bm,j,none⟩ u):=uJ h.b h.c h.d h.r h.e h.z h.zw h.zk j u hj hO hl
theorem kX{w:World}{kr bm:Nat}{m:aj}{s1 s2 s3 s4:Value}{q:Int}{x y:World}{row:Option Nat}(h:Dm w kr bm m s1 s2 s3 s4 q x)(hg:x.grownBy y row)(hr:∀k,row=some k->bm<k):
  (∀k,y.cell? ⟨bm,k,none⟩=((bY m.nm m.up m.ck m.kn m.se s1 s2 s3 s4):Array Value)[k]?)/\(∀k,y.frozen? ⟨bm,k,none⟩=false)/\y.there w.heap.size 0 9/\Rq y kr q/\Ex kr w y/\bm<y.heap.size:=by
 have z:=h.z;have zw:=h.zw;have zk:=h.zk;have kb:y.heap[bm]?=x.heap[bm]?:=hg.block bm z (fun e=>by have:=hr _ e.symm;omega);have kw:y.heap[w.heap.size]?=x.heap[w.heap.size]?:=hg.block _ (by omega) (fun e=>by have:=hr _ e.symm;omega);exact⟨fun k=>(World.cell?_of_block (w:=x) (a:=⟨bm,k,none⟩) kb).trans (h.b k),fun k=>(World.frozen?_of_block (w:=x) (a:=⟨bm,k,none⟩) kb).trans (h.c k),fun j hj=>⟨by rw[World.cell?_of_block (w:=x) (a:=⟨w.heap.size,0+j,none⟩) kw];exact(h.d j hj).1,by rw[World.frozen?_of_block (w:=x) (a:=⟨w.heap.size,0+j,none⟩) kw];exact(h.d j hj).2⟩,h.r.grown hg (fun k hk=>by have:=hr k hk;omega),h.e.grown hg (fun k hk=>by have:=hr k hk;omega),Nat.lt_of_lt_of_le z hg.size⟩
theorem dw{s v v':Value}{n:Nat}(hd:eh s v)(hs:∀g,s.ownBlock=some g->g<n)(hat:v'.ownBlock=v.ownBlock\/v'.ownBlock=some n):eh s v':=by
 rcases hat with h|h;·rw[eh,h];exact hd
 cases hb:s.ownBlock with
 |none=>exact Or.inl hb
 |some g=>exact Or.inr (by rw[hb,h];intro e;have:=hs g hb;cases e;omega)
theorem Dm.Ck{w:World}{kr bm:Nat}{m:aj}{s1 s2 s3 s4 v:Value}{q:Int}{x y:World}{l:List A.aC}(h:Dm w kr bm m s1 s2 s3 s4 q x)(hg:x.grownBy y s3.ownBlock)(ho:A.Ow y v l (bm+1))(hat:v.ownBlock=s3.ownBlock\/v.ownBlock=some x.heap.size):
  Dm w kr bm {m with qs:=l} s1 s2 v s4 q (y.setCell ⟨bm,7,none⟩ v):=by
 have o:=h.l;obtain⟨hb,hc,hd,hr,he,z⟩:=kX h hg (fun k hk=>(o.a3.lt k hk).1);exact uJ hb hc hd hr he z h.zw h.zk 7 v (by omega) rfl ⟨o.a1.grown hg o.im,o.a2.grown hg o.iu,ho,o.a4.grown hg o.jo.symm,o.gR,dw o.im (fun g hg=>(o.a1.lt g hg).2) hat,o.iq,dw o.iu (fun g hg=>(o.a2.lt g hg).2) hat,o.iV,(dw o.jo.symm (fun g hg=>(o.a4.lt g hg).2) hat).symm⟩
theorem Dm.FJ{w:World}{kr bm:Nat}{m:aj}{s1 s2 s3 s4 v:Value}{q:Int}{x y:World}{l:List A.aC}(h:Dm w kr bm m s1 s2 s3 s4 q x)(hg:x.grownBy y s4.ownBlock)(ho:A.Ow y v l (bm+1))(hat:v.ownBlock=s4.ownBlock\/v.ownBlock=some x.heap.size):
  Dm w kr bm {m with gs:=l} s1 s2 s3 v q (y.setCell ⟨bm,8,none⟩ v):=by
 have o:=h.l;obtain⟨hb,hc,hd,hr,he,z⟩:=kX h hg (fun k hk=>(o.a4.lt k hk).1);exact uJ hb hc hd hr he z h.zw h.zk 8 v (by omega) rfl ⟨o.a1.grown hg o.iq,o.a2.grown hg o.iV,o.a3.grown hg o.jo,ho,o.gR,o.im,dw o.iq (fun g hg=>(o.a1.lt g hg).2) hat,o.iu,dw o.iV (fun g hg=>(o.a2.lt g hg).2) hat,dw o.jo (fun g hg=>(o.a3.lt g hg).2) hat⟩
theorem Dm.runs{w:World}{kr bm g n c:Nat}{m:aj}{s1 s3 s4:Value}{q:Int}{x:World}{rs:List aw}{j:Nat}{v:Value}(h:Dm w kr bm m s1 (.slice (some ⟨g,0,none⟩) n c) s3 s4 q x)(ho:Ow (x.setCell ⟨g,j,none⟩ v) (.slice (some ⟨g,0,none⟩) n c) rs (bm+1)):
  Dm w kr bm {m with rs:=rs} s1 (.slice (some ⟨g,0,none⟩) n c) s3 s4 q (x.setCell ⟨g,j,none⟩ v):=by
 have he:Ex g x (x.setCell ⟨g,j,none⟩ v):=(Ex.refl _ _).set j v;have hg:x.grownBy (x.setCell ⟨g,j,none⟩ v) (some g):=A.av he;have z:=h.z;have zw:=h.zw;have zk:=h.zk;have l:=h.l;have hbg:bm<g:=(l.a2.lt g rfl).1;have kb:(x.setCell ⟨g,j,none⟩ v).heap[bm]?=x.heap[bm]?:=hg.block bm z (fun e=>by cases e;omega);have kw:(x.setCell ⟨g,j,none⟩ v).heap[w.heap.size]?=x.heap[w.heap.size]?:=hg.block _ (by omega) (fun e=>by cases e;omega);have n1:s1.ownBlock=none\/s1.ownBlock≠some g:=by have:=l.gR;simpa[eh,Value.ownBlock]using this
 have n3:s3.ownBlock=none\/s3.ownBlock≠some g:=by have:=l.iu.symm;simpa[eh,Value.ownBlock]using this
 have n4:s4.ownBlock=none\/s4.ownBlock≠some g:=by have:=l.iV.symm;simpa[eh,Value.ownBlock]using this
 exact⟨fun k=>(World.cell?_of_block (w:=x) (a:=⟨bm,k,none⟩) kb).trans (h.b k),fun k=>(World.frozen?_of_block (w:=x) (a:=⟨bm,k,none⟩) kb).trans (h.c k),fun i hi=>⟨by rw[World.cell?_of_block (w:=x) (a:=⟨w.heap.size,0+i,none⟩) kw];exact(h.d i hi).1,by rw[World.frozen?_of_block (w:=x) (a:=⟨w.heap.size,0+i,none⟩) kw];exact(h.d i hi).2⟩,
  ⟨l.a1.grown hg n1,ho,l.a3.grown hg n3,l.a4.grown hg n4,l.gR,l.im,l.iq,l.iu,l.iV,l.jo⟩,h.r.grown hg (fun k hk=>by cases hk;omega),h.e.grown hg (fun k hk=>by cases hk;omega),Nat.lt_of_lt_of_le z hg.size,zw,zk⟩
theorem kB{rs:List aw}{i:Nat}{r r':aw}(h:rs[i]?=some r):(rs.set i r')[i]?=some r':=by have hi:i<rs.length:=(List.getElem?_eq_some_iff.1 h).1;rw[List.getElem?_set_self hi]
theorem Dm.run{w:World}{kr bm g n c i j:Nat}{m:aj}{s1 s3 s4:Value}{q:Int}{x:World}{rs:List aw}{r r':aw}{v:Value}(h:Dm w kr bm {m with rs:=rs} s1 (.slice (some ⟨g,0,none⟩) n c) s3 s4 q x)(hr:rs[i]?=some r)(hc:r'.cells=r.cells.set j v)(hj:j<11):
  Dm w kr bm {m with rs:=rs.set i r'} s1 (.slice (some ⟨g,0,none⟩) n c) s3 s4 q (x.setCell ⟨g,i*11+j,none⟩ v):=h.runs (Ow.put h.l.a2 hr hc hj)
theorem Dm.nw{w:World}{kr bm g n c i j:Nat}{m:aj}{s1 s3 s4:Value}{q:Int}{x:World}{rs:List aw}{r0 r r':aw}{v:Value}(h:Dm w kr bm {m with rs:=rs.set i r} s1 (.slice (some ⟨g,0,none⟩) n c) s3 s4 q x)(hr:rs[i]?=some r0)(hc:r'.cells=r.cells.set j v)(hj:j<11):
  Dm w kr bm {m with rs:=rs.set i r'} s1 (.slice (some ⟨g,0,none⟩) n c) s3 s4 q (x.setCell ⟨g,i*11+j,none⟩ v):=by
 have h1:=h.run (kB hr) hc hj;rw[List.set_set]at h1;exact h1
theorem Dm.want{w:World}{kr bm g n c i:Nat}{m:aj}{s1 s3 s4:Value}{q:Int}{x:World}{rs:List aw}{r:aw}(h:Dm w kr bm {m with rs:=rs} s1 (.slice (some ⟨g,0,none⟩) n c) s3 s4 q x)(hr:rs[i]?=some r)(t:W.ay):
  Dm w kr bm {m with rs:=rs.set i ⟨t.c,t.h,t.v,t.p,t.s,t.d,t.g,r.a,r.b,r.i,r.u⟩} s1 (.slice (some ⟨g,0,none⟩) n c) s3 s4 q (x.setCells g (i*11) (iT t.c t.v t.h t.p t.s t.d t.g)):=by
 have h0:=h.run (r':=⟨t.c,r.h,r.v,r.p,r.s,r.d,r.g,r.a,r.b,r.i,r.u⟩) (j:=0) (v:=.string t.c) hr rfl (by omega);have h1:=h0.nw (r':=⟨t.c,r.h,t.v,r.p,r.s,r.d,r.g,r.a,r.b,r.i,r.u⟩) (j:=1) (v:=.int .i64 t.v) hr rfl (by omega);have h2:=h1.nw (r':=⟨t.c,t.h,t.v,r.p,r.s,r.d,r.g,r.a,r.b,r.i,r.u⟩) (j:=2) (v:=.string t.h) hr rfl (by omega);have h3:=h2.nw (r':=⟨t.c,t.h,t.v,t.p,r.s,r.d,r.g,r.a,r.b,r.i,r.u⟩) (j:=3) (v:=.int .i64 t.p) hr rfl (by omega);have h4:=h3.nw (r':=⟨t.c,t.h,t.v,t.p,t.s,r.d,r.g,r.a,r.b,r.i,r.u⟩) (j:=4) (v:=.int .i64 t.s) hr rfl (by omega);have h5:=h4.nw (r':=⟨t.c,t.h,t.v,t.p,t.s,t.d,r.g,r.a,r.b,r.i,r.u⟩) (j:=5) (v:=.int .i64 t.d) hr rfl (by omega);exact h5.nw (r':=⟨t.c,t.h,t.v,t.p,t.s,t.d,t.g,r.a,r.b,r.i,r.u⟩) (j:=6) (v:=.int .i64 t.g) hr rfl (by omega)
theorem jJ{rs:List aw}{r:aw}{i:Nat}(h:∀x∈rs,Small x)(hr:Small r):∀x∈rs.set i r,Small x:=by
 intro x hx;rcases List.mem_or_eq_of_mem_set hx with h1|h1;·exact h x h1
 rw[h1];exact hr
structure jZ(m:aj):Prop where
 n:m.nm.size<=maxLen
 c0:0<=m.ck
 c1:m.ck<=1000
 w1:m.ws.length<=4
 w2:∀x∈m.ws,x.fits
 r1:m.rs.length<=4
 r2:∀x∈m.rs,Small x
 q1:m.qs.length<=3
 q2:∀x∈m.qs,x.fits
 g1:m.gs.length<=3
 g2:∀x∈m.gs,x.fits
theorem Small.fits{r:aw}(h:Small r):r.fits:=⟨h.1,h.2.1,by have:=h.2.2.1.2;omega,by have:=h.2.2.2.1.1;omega⟩
theorem jZ.fits{m:aj}(h:jZ m):m.fits:=⟨h.n,h.w2,fun x hx=>(h.r2 x hx).fits,h.q2,h.g2,by have:=h.w1;omega,by have:=h.r1;omega,by have:=h.q1;omega,by have:=h.g1;omega⟩
def aj.fq(m:aj):Prop:=m.fits/\m.qs.length<=20/\m.gs.length<=20
theorem jZ.fq{m:aj}(h:jZ m):m.fq:=⟨h.fits,by have:=h.q1;omega,by have:=h.g1;omega⟩
theorem uK{dm:Bool}{m r:aj}(h:jZ m)(hf:Falls dm m r):jZ r:=by
 rcases hf with⟨-,rfl⟩|⟨-,rfl⟩
 ·
  refine⟨h.n,h.c0,h.c1,Nat.zero_le _,(fun x hx=>by cases hx),Nat.le_trans (jL _ _) h.r1,?_,Nat.zero_le _,(fun x hx=>by cases hx),Nat.zero_le _,(fun x hx=>by cases hx)⟩;intro x hx;have hx:x∈cx dm m.rs:=hx;unfold cx at hx;split at hx
  ·
   obtain⟨y,hy,rfl⟩:=List.mem_map.1 hx;have:=h.r2 y (List.mem_filter.1 (List.mem_filter.1 hy).1).1;exact⟨this.1,this.2.1,⟨Int.le_refl _,by show(0:Int)<=1000;omega⟩,this.2.2.2.1,this.2.2.2.2⟩
  exact h.r2 x (List.mem_filter.1 hx).1
 exact⟨Nat.zero_le _,Int.le_refl _,by show(0:Int)<=1000;omega,Nat.zero_le _,(fun x hx=>by cases hx),Nat.zero_le _,(fun x hx=>by cases hx),Nat.zero_le _,(fun x hx=>by cases hx),Nat.zero_le _,(fun x hx=>by cases hx)⟩
theorem jK{x:World}{b n o l:Nat}(h:x.there b 0 n)(hl:o+l<=n):x.there b o l:=fun j hj=>by
 have h1:=h (o+j) (by omega)
 rwa [Nat.zero_add]at h1
theorem Cn(y:World)(t:TypeId):(y.alloc (.cells (cZ ⟨#[]⟩ ⟨#[]⟩ 0 0) t)).there y.heap.size 0 4:=
 fun j hj=>⟨by simp[go_sem];omega,by simp[go_sem]⟩
theorem mF{v:Value}{a u:Nat}(h:∀j,v.ownBlock=some j->j<a)(hu:a<=u):v.ownBlock≠some u:=fun e=>by have:=h u e;omega
theorem eb{x:World}{b n:Nat}(h:x.there b 0 n)(j:Nat)(hj:j<n):(∃v,x.cell? ⟨b,j,none⟩=some v)/\x.frozen? ⟨b,j,none⟩=false:=by have h1:=h j hj;rw[Nat.zero_add]at h1;exact⟨Option.isSome_iff_exists.1 h1.1,h1.2⟩
theorem FP{k:Nat}{w w':World}(h:Below k w w'){n:Nat}:Below k w (w'.drewN n):=⟨h.os,h.tape,h.output,h.size,h.block⟩
theorem qH{y:World}{u i:Nat}{vs:List Value}{v:Value}(h:y.rangeAt u 0 vs)(ht:y.there u 0 4)(hl:vs.length=4)(hi:i<4):(y.setCell ⟨u,i,none⟩ v).rangeAt u 0 (vs.set i v):=by
 obtain⟨⟨x1,k1⟩,-⟩:=eb ht i hi;intro a w hw;rw[Nat.zero_add];by_cases e:a=i
 ·
  subst e;rw[List.getElem?_set_self (by omega)]at hw;cases hw;exact World.cell?_setCell_same _ _ _ k1
 rw[List.getElem?_set_ne (fun e'=>e e'.symm)]at hw;rw[World.cell?_setCell_other _ _ _ _ (fun e'=>e (by have:=congrArg Addr.off e';exact this.symm))];have:=h a w hw
 rwa [Nat.zero_add]at this
theorem zu{y:World}{u:Nat}{h c d:ByteArray}{f t:Int}(h1:y.rangeAt u 0 (mD h c f t))(ht:y.there u 0 4):(y.setCell ⟨u,1,none⟩ (.string d)).rangeAt u 0 (mD h d f t):=by
 obtain⟨⟨x1,k1⟩,-⟩:=eb ht 1 (by omega);intro a v hv;rw[Nat.zero_add];have g0:∀b,b≠1->(y.setCell ⟨u,1,none⟩ (.string d)).cell? ⟨u,b,none⟩=y.cell? ⟨u,b,none⟩:=fun b hb=>World.cell?_setCell_other _ _ _ _ (fun e=>hb (by have:=congrArg Addr.off e;exact this.symm));have g1:∀b w,[Value.string h,.string c,.int .i64 f,.int .i64 t][b]?=some w->y.cell? ⟨u,b,none⟩=some w:=fun b w hw=>by have:=h1 b w hw;rwa [Nat.zero_add]at this
 rcases a with _|_|_|_|a;·rw[g0 0 (by omega)];exact g1 0 v hv
 ·cases hv;exact World.cell?_setCell_same _ _ _ k1
 ·rw[g0 2 (by omega)];exact g1 2 v hv
 ·rw[g0 3 (by omega)];exact g1 3 v hv
 simp at hv
theorem gB{rs:List A.aC}{r:A.aC}(h:∀x∈rs,x.fits)(hr:r.fits):∀x∈rs++[r],x.fits:=by
 intro x hx;rcases List.mem_append.1 hx with h1|h1;·exact h x h1
 rw[List.mem_singleton.1 h1];exact hr
theorem qA{y:World}{x:Option Addr}{n B:Nat}{l:List W.ay}(h:W.Ow y (ai x l n) l B):l.length<=n:=by
 rcases h.2 with⟨h1,h2⟩|⟨g,cap,cur,h1,-,-,h4,-⟩;·simp only[Value.slice.injEq]at h1;omega
 simp only[Value.slice.injEq]at h1;obtain⟨-,-,rfl⟩:=h1;exact h4
theorem ny(w:World)(t:TypeId):(w.alloc (.cells iU t)).there w.heap.size 0 9:=
 fun j hj=>⟨by simp[go_sem];omega,by simp[go_sem]⟩
theorem Co(w:World)(m:aj)(B:Nat)(h1:m.ws=[])(h2:m.rs=[])(h3:m.qs=[])(h4:m.gs=[]):mS w m (.slice none 0 0) (.slice none 0 0) (.slice none 0 0) (.slice none 0 0) B:=
 ⟨by rw[h1];exact W.Ow.nil _ _,by rw[h2];exact Ow.nil _ _,by rw[h3];exact A.Ow.nil _ _,by rw[h4];exact A.Ow.nil _ _,Or.inl rfl,Or.inl rfl,Or.inl rfl,Or.inl rfl,Or.inl rfl,Or.inl rfl⟩
theorem FK{w w2:World}{kr:Nat}{q p60:Int}{up:Bool}(hd:w2.there w.heap.size 0 9)(hr:Rq w2 kr q)(he:Ex kr w w2)(hz:w.heap.size<w2.heap.size)(hk:kr<w.heap.size):
  Dm w kr w2.heap.size ⟨{data:=#[97]},up,p60,false,0,[],[],[],[]⟩ (.slice none 0 0) (.slice none 0 0) (.slice none 0 0) (.slice none 0 0) q (w2.alloc (.cells (bY ⟨#[97]⟩ up p60 false 0 (.slice none 0 0) (.slice none 0 0) (.slice none 0 0) (.slice none 0 0)) 27)):=
 ⟨fun k=>by simp[go_sem],fun k=>by simp[go_sem],bd hd hz (ae bR _),Co _ _ _ rfl rfl rfl rfl,hr.below (ae bR _),he.dh (ae bR _),by simp,hz,hk⟩
theorem iA{y y':World}{b k:Nat}{C:List Value}(h:y.rangeAt b 0 C)(he:Ex k y y')(hb:b<y.heap.size)(hn:b≠k):y'.rangeAt b 0 C:=fun j u hj=>(he.cell (p:=⟨b,0+j,none⟩) hb hn).trans (h j u hj)
theorem eR{y:World}{b:Nat}{vs:List Value}(h:y.rangeAt b 0 vs)(j:Nat){u:Value}(hj:vs[j]?=some u):y.cell? ⟨b,j,none⟩=some u:=by simpa using h j u hj
theorem sJ{S:Nat->Bool}{i c:Nat}(h:sset S i c=false):S c=false:=by
 unfold sset at h;cases hs:S c;·rfl
 rw[hs]at h;simp at h
structure Dt(kr b2 lb:Nat)(w w1:World)(m:aj)(s1 s2 s3 s4:Value)(y:World):Prop where
 c:y.rangeAt lb 0 (dP m.nm m.up m.ck m.kn m.se s1 s2 s3 s4)
 l:dI y m s1 s2 s3 s4 w1.heap.size
 b:y.there b2 0 9
 e:Below w.heap.size w y
 z:w.heap.size<=b2/\b2<kr/\kr<w1.heap.size/\w1.heap.size<=lb/\lb<y.heap.size
section
variable {kr b2 lb:Nat} {w w1:World} {m:aj} {s1 s2 s3 s4:Value} {y y':World}
theorem Dt.ex(h:Dt kr b2 lb w w1 m s1 s2 s3 s4 y)(he:Ex kr y y'):Dt kr b2 lb w w1 m s1 s2 s3 s4 y':=by obtain⟨z1,z2,z3,z4,z5⟩:=h.z;exact⟨iA h.c he z5 (by omega),h.l.ex he z3,bh h.b (by omega) he (by omega),Ex.mono h.e he (by omega),⟨z1,z2,z3,z4,Nat.lt_of_lt_of_le z5 he.size⟩⟩
theorem Dt.ans{vs:List Value}(h:Dt kr b2 lb w w1 m s1 s2 s3 s4 y):Dt kr b2 lb w w1 m s1 s2 s3 s4 (y.setCells b2 0 vs):=by obtain⟨z1,z2,z3,z4,z5⟩:=h.z;have he:Ex b2 y (y.setCells b2 0 vs):=(Ex.refl _ _).cells _ _;exact⟨iA h.c he z5 (by omega),h.l.ex he (by omega),World.there_setCells h.b _ _ _,Ex.mono h.e he (by omega),⟨z1,z2,z3,z4,Nat.lt_of_lt_of_le z5 he.size⟩⟩
end
structure Dn(w:World)(kr bm B:Nat)(m:aj)(s1 s2 s3 s4:Value)(q:Int)(x:World):Prop where
 b:∀k,x.cell? ⟨bm,k,none⟩=((bY m.nm m.up m.ck m.kn m.se s1 s2 s3 s4):Array Value)[k]?
 c:∀k,x.frozen? ⟨bm,k,none⟩=false
 d:x.there w.heap.size 0 9
 l:mS x m s1 s2 s3 s4 B
 nb:s1.ownBlock≠some bm/\s2.ownBlock≠some bm/\s3.ownBlock≠some bm/\s4.ownBlock≠some bm
 r:Rq x kr q
 e:Ex kr w x
 z:bm<x.heap.size
 zw:w.heap.size<bm
 zb:w.heap.size<B
 zk:kr<w.heap.size
theorem gX{w:World}{kr bm B:Nat}{m:aj}{s1 s2 s3 s4:Value}{q:Int}{x y:World}{row:Option Nat}(h:Dn w kr bm B m s1 s2 s3 s4 q x)(hg:x.grownBy y row)(hr:∀k,row=some k->w.heap.size<k/\k≠bm):
  (∀k,y.cell? ⟨bm,k,none⟩=((bY m.nm m.up m.ck m.kn m.se s1 s2 s3 s4):Array Value)[k]?)/\(∀k,y.frozen? ⟨bm,k,none⟩=false)/\y.there w.heap.size 0 9/\Rq y kr q/\Ex kr w y/\bm<y.heap.size:=by
 have z:=h.z;have zw:=h.zw;have zk:=h.zk;have kb:y.heap[bm]?=x.heap[bm]?:=hg.block bm z (fun e=>by have:=hr _ e.symm;omega);have kw:y.heap[w.heap.size]?=x.heap[w.heap.size]?:=hg.block _ (by omega) (fun e=>by have:=hr _ e.symm;omega);exact⟨fun k=>(World.cell?_of_block (w:=x) (a:=⟨bm,k,none⟩) kb).trans (h.b k),fun k=>(World.frozen?_of_block (w:=x) (a:=⟨bm,k,none⟩) kb).trans (h.c k),fun j hj=>⟨by rw[World.cell?_of_block (w:=x) (a:=⟨w.heap.size,0+j,none⟩) kw];exact(h.d j hj).1,by rw[World.frozen?_of_block (w:=x) (a:=⟨w.heap.size,0+j,none⟩) kw];exact(h.d j hj).2⟩,h.r.grown hg (fun k hk=>by have:=hr k hk;omega),h.e.grown hg (fun k hk=>by have:=hr k hk;omega),Nat.lt_of_lt_of_le z hg.size⟩
theorem Dn.grown{w:World}{kr bm B:Nat}{m:aj}{s1 s2 s3 s4:Value}{q:Int}{x y:World}{row:Option Nat}(h:Dn w kr bm B m s1 s2 s3 s4 q x)(hg:x.grownBy y row)(hr:∀k,row=some k->w.heap.size<k/\k≠bm)
  (hn:∀k,row=some k->s1.ownBlock≠some k/\s2.ownBlock≠some k/\s3.ownBlock≠some k/\s4.ownBlock≠some k):Dn w kr bm B m s1 s2 s3 s4 q y:=by
 obtain⟨hb,hc,hd,hr',he,z⟩:=gX h hg hr;have l:=h.l;exact⟨hb,hc,hd,⟨l.a1.grown hg (eV fun k hk=>(hn k hk).1),l.a2.grown hg (eV fun k hk=>(hn k hk).2.1),l.a3.grown hg (eV fun k hk=>(hn k hk).2.2.1),l.a4.grown hg (eV fun k hk=>(hn k hk).2.2.2),l.gR,l.im,l.iq,l.iu,l.iV,l.jo⟩,h.nb,hr',he,z,h.zw,h.zb,h.zk⟩
theorem Dn.below{w:World}{kr bm B:Nat}{m:aj}{s1 s2 s3 s4:Value}{q:Int}{x y:World}(h:Dn w kr bm B m s1 s2 s3 s4 q x)(hb:Below x.heap.size x y):Dn w kr bm B m s1 s2 s3 s4 q y:=
 h.grown (gT hb) (fun k hk=>by cases hk) (fun k hk=>by cases hk)
theorem Dn.pick{w:World}{kr bm B:Nat}{m:aj}{s1 s2 s3 s4:Value}{q q':Int}{x y:World}(h:Dn w kr bm B m s1 s2 s3 s4 q x)(he:Ex kr x y)(hr:Rq y kr q'):Dn w kr bm B m s1 s2 s3 s4 q' y:=by have z:=h.z;have zw:=h.zw;have zb:=h.zb;have zk:=h.zk;exact⟨fun k=>(he.cell (p:=⟨bm,k,none⟩) z (by show bm≠kr;omega)).trans (h.b k),fun k=>(he.frozen (p:=⟨bm,k,none⟩) z (by show bm≠kr;omega)).trans (h.c k),bh h.d (by omega) he (by omega),h.l.ex he (by omega),h.nb,hr,h.e.trans he,Nat.lt_of_lt_of_le z he.size,zw,zb,zk⟩
theorem Dn.up{w:World}{kr bm B:Nat}{m:aj}{s1 s2 s3 s4:Value}{q q':Int}{x:World}(h:Dn w kr bm B m s1 s2 s3 s4 q x)(hq:q<=q'):Dn w kr bm B m s1 s2 s3 s4 q' x:=⟨h.b,h.c,h.d,h.l,h.nb,h.r.up hq,h.e,h.z,h.zw,h.zb,h.zk⟩
theorem iW{v:Value}{k:Nat}(h:v.ownBlock≠some k):v.ownBlock=none\/v.ownBlock≠some k:=Or.inr h
theorem sj{w:World}{kr bm B:Nat}{m m':aj}{s1 s2 s3 s4 t1 t2 t3 t4:Value}{q:Int}{x:World}(hb:∀k,x.cell? ⟨bm,k,none⟩=((bY m.nm m.up m.ck m.kn m.se s1 s2 s3 s4):Array Value)[k]?)(hc:∀k,x.frozen? ⟨bm,k,none⟩=false)(hd:x.there w.heap.size 0 9)(hr:Rq x kr q)(he0:Ex kr w x)(z:bm<x.heap.size)(zw:w.heap.size<bm)(zb:w.heap.size<B)(zk:kr<w.heap.size)(j:Nat)(u:Value)(hj:j<9)(hO:((bY m'.nm m'.up m'.ck m'.kn m'.se t1 t2 t3 t4):Array Value)=((bY m.nm m.up m.ck m.kn m.se s1 s2 s3 s4):Array Value).setIfInBounds j u)
  (hl:mS x m' t1 t2 t3 t4 B) (nb:t1.ownBlock≠some bm/\t2.ownBlock≠some bm/\t3.ownBlock≠some bm/\t4.ownBlock≠some bm):Dn w kr bm B m' t1 t2 t3 t4 q (x.setCell ⟨bm,j,none⟩ u):=by
 have he:Ex bm x (x.setCell ⟨bm,j,none⟩ u):=(Ex.refl _ _).set j u;have hg:x.grownBy (x.setCell ⟨bm,j,none⟩ u) (some bm):=A.av he;refine⟨fun k=>?_,fun k=>by rw[World.frozen?_setCell];exact hc k,bh hd (by omega) he (by omega),⟨hl.a1.grown hg (iW nb.1),hl.a2.grown hg (iW nb.2.1),hl.a3.grown hg (iW nb.2.2.1),hl.a4.grown hg (iW nb.2.2.2),hl.gR,hl.im,hl.iq,hl.iu,hl.iV,hl.jo⟩,nb,hr.grown hg (fun k hk=>by cases hk;omega),he0.grown hg (fun k hk=>by cases hk;omega),Nat.lt_of_lt_of_le z he.size,zw,zb,zk⟩;rw[hO];by_cases e:k=j
 ·
  subst e;have h1:=hb k;rw[Array.getElem?_eq_getElem (by simpa using hj)]at h1;rw[World.cell?_setCell_same _ _ _ h1,Array.getElem?_setIfInBounds_self_of_lt (by simpa using hj)]
 ·rw[World.cell?_setCell_other _ _ _ _ (fun h'=>e (by have:=congrArg Addr.off h';exact this.symm)),hb k,Array.getElem?_setIfInBounds_ne (fun e'=>e e'.symm)]
theorem Dn.set{w:World}{kr bm B:Nat}{m m':aj}{s1 s2 s3 s4 t1 t2 t3 t4:Value}{q:Int}{x:World}(h:Dn w kr bm B m s1 s2 s3 s4 q x)(j:Nat)(u:Value)(hj:j<9)(hO:((bY m'.nm m'.up m'.ck m'.kn m'.se t1 t2 t3 t4):Array Value)=((bY m.nm m.up m.ck m.kn m.se s1 s2 s3 s4):Array Value).setIfInBounds j u)
  (hl:mS x m' t1 t2 t3 t4 B) (nb:t1.ownBlock≠some bm/\t2.ownBlock≠some bm/\t3.ownBlock≠some bm/\t4.ownBlock≠some bm):Dn w kr bm B m' t1 t2 t3 t4 q (x.setCell ⟨bm,j,none⟩ u):=sj h.b h.c h.d h.r h.e h.z h.zw h.zb h.zk j u hj hO hl nb
theorem qw{v s:Value}{bm n:Nat}(hs:s.ownBlock≠some bm)(hz:bm<n)(hat:v.ownBlock=s.ownBlock\/v.ownBlock=some n):v.ownBlock≠some bm:=by
 rcases hat with h|h;·rw[h];exact hs
 rw[h];intro e;cases e;omega
theorem Dn.Ck{w:World}{kr bm B:Nat}{m:aj}{s1 s2 s3 s4 v:Value}{q:Int}{x y:World}{l:List A.aC}(h:Dn w kr bm B m s1 s2 s3 s4 q x)(hg:x.grownBy y s3.ownBlock)(ho:A.Ow y v l B)(hat:v.ownBlock=s3.ownBlock\/v.ownBlock=some x.heap.size):
  Dn w kr bm B {m with qs:=l} s1 s2 v s4 q (y.setCell ⟨bm,7,none⟩ v):=by
 have o:=h.l;have zb:=h.zb;obtain⟨hb,hc,hd,hr,he,z⟩:=gX h hg (fun k hk=>⟨by have:=(o.a3.lt k hk).1;omega,fun e=>h.nb.2.2.1 (by rw[hk,e])⟩);exact sj hb hc hd hr he z h.zw h.zb h.zk 7 v (by omega) rfl ⟨o.a1.grown hg o.im,o.a2.grown hg o.iu,ho,o.a4.grown hg o.jo.symm,o.gR,dw o.im (fun g hg=>(o.a1.lt g hg).2) hat,o.iq,dw o.iu (fun g hg=>(o.a2.lt g hg).2) hat,o.iV,(dw o.jo.symm (fun g hg=>(o.a4.lt g hg).2) hat).symm⟩ ⟨h.nb.1,h.nb.2.1,qw h.nb.2.2.1 h.z hat,h.nb.2.2.2⟩
theorem Dn.FJ{w:World}{kr bm B:Nat}{m:aj}{s1 s2 s3 s4 v:Value}{q:Int}{x y:World}{l:List A.aC}(h:Dn w kr bm B m s1 s2 s3 s4 q x)(hg:x.grownBy y s4.ownBlock)(ho:A.Ow y v l B)(hat:v.ownBlock=s4.ownBlock\/v.ownBlock=some x.heap.size):
  Dn w kr bm B {m with gs:=l} s1 s2 s3 v q (y.setCell ⟨bm,8,none⟩ v):=by
 have o:=h.l;have zb:=h.zb;obtain⟨hb,hc,hd,hr,he,z⟩:=gX h hg (fun k hk=>⟨by have:=(o.a4.lt k hk).1;omega,fun e=>h.nb.2.2.2 (by rw[hk,e])⟩);exact sj hb hc hd hr he z h.zw h.zb h.zk 8 v (by omega) rfl ⟨o.a1.grown hg o.iq,o.a2.grown hg o.iV,o.a3.grown hg o.jo,ho,o.gR,o.im,dw o.iq (fun g hg=>(o.a1.lt g hg).2) hat,o.iu,dw o.iV (fun g hg=>(o.a2.lt g hg).2) hat,dw o.jo (fun g hg=>(o.a3.lt g hg).2) hat⟩ ⟨h.nb.1,h.nb.2.1,h.nb.2.2.1,qw h.nb.2.2.2 h.z hat⟩
theorem Dn.Ff{w:World}{kr bm B:Nat}{m:aj}{s1 s2 s3 s4 v:Value}{q:Int}{x y:World}{l:List aw}(h:Dn w kr bm B m s1 s2 s3 s4 q x)(hg:x.grownBy y s2.ownBlock)(ho:Ow y v l B)(hat:v.ownBlock=s2.ownBlock\/v.ownBlock=some x.heap.size):
  Dn w kr bm B {m with rs:=l} s1 v s3 s4 q (y.setCell ⟨bm,6,none⟩ v):=by
 have o:=h.l;have zb:=h.zb;obtain⟨hb,hc,hd,hr,he,z⟩:=gX h hg (fun k hk=>⟨by have:=(o.a2.lt k hk).1;omega,fun e=>h.nb.2.1 (by rw[hk,e])⟩);exact sj hb hc hd hr he z h.zw h.zb h.zk 6 v (by omega) rfl ⟨o.a1.grown hg o.gR,ho,o.a3.grown hg o.iu.symm,o.a4.grown hg o.iV.symm,dw o.gR (fun g hg=>(o.a1.lt g hg).2) hat,o.im,o.iq,(dw o.iu.symm (fun g hg=>(o.a3.lt g hg).2) hat).symm,(dw o.iV.symm (fun g hg=>(o.a4.lt g hg).2) hat).symm,o.jo⟩ ⟨h.nb.1,qw h.nb.2.1 h.z hat,h.nb.2.2.1,h.nb.2.2.2⟩
theorem Dn.gives{w:World}{kr bm B:Nat}{m:aj}{s1 s2 s3 s4 v:Value}{q:Int}{x y:World}{l:List A.aC}(h:Dn w kr bm B m s1 s2 s3 s4 q x)(hb:Below x.heap.size x y)(ho:A.Ow y v l x.heap.size)(hB:B<=x.heap.size):
  Dn w kr bm B {m with gs:=l} s1 s2 s3 v q (y.setCell ⟨bm,8,none⟩ v):=by
 have h1:=h.below hb;have o:=h1.l;have hz:=h.z;have hne:∀s:Value,(∀g,s.ownBlock=some g->g<x.heap.size)->eh s v:=fun s hs=>cj hs (fun g hg=>(ho.lt g hg).1) (Nat.le_refl _);refine h1.set 8 v (by omega) rfl ⟨o.a1,o.a2,o.a3,ho.low hB,o.gR,o.im,hne _ (fun g hg=>(h.l.a1.lt g hg).2),o.iu,hne _ (fun g hg=>(h.l.a2.lt g hg).2),hne _ (fun g hg=>(h.l.a3.lt g hg).2)⟩ ⟨h.nb.1,h.nb.2.1,h.nb.2.2.1,fun e=>?_⟩;have:=(ho.lt bm e).1;omega
theorem tO{w:World}{kr bm B g:Nat}{m:aj}{s1 s2 s3 s4:Value}{q:Int}{x y:World}(h:Dn w kr bm B m s1 s2 s3 s4 q x)(he:Ex g x y)(hg0:B<=g)(hgb:g≠bm):
  (∀k,y.cell? ⟨bm,k,none⟩=((bY m.nm m.up m.ck m.kn m.se s1 s2 s3 s4):Array Value)[k]?)/\(∀k,y.frozen? ⟨bm,k,none⟩=false)/\y.there w.heap.size 0 9/\Rq y kr q/\Ex kr w y/\bm<y.heap.size:=
 gX h (A.av he) (fun k hk=>by cases hk;exact⟨by have:=h.zb;omega,hgb⟩)
theorem Dn.yO{w:World}{kr bm B g n c:Nat}{m:aj}{s1 s3 s4:Value}{q:Int}{x y:World}{rs:List aw}(h:Dn w kr bm B m s1 (.slice (some ⟨g,0,none⟩) n c) s3 s4 q x)(he:Ex g x y)(ho:Ow y (.slice (some ⟨g,0,none⟩) n c) rs B):
  Dn w kr bm B {m with rs:=rs} s1 (.slice (some ⟨g,0,none⟩) n c) s3 s4 q y:=by
 have l:=h.l;have hg:x.grownBy y (some g):=A.av he;have n1:s1.ownBlock=none\/s1.ownBlock≠some g:=by have:=l.gR;simpa[eh,Value.ownBlock]using this
 have n3:s3.ownBlock=none\/s3.ownBlock≠some g:=by have:=l.iu.symm;simpa[eh,Value.ownBlock]using this
 have n4:s4.ownBlock=none\/s4.ownBlock≠some g:=by have:=l.iV.symm;simpa[eh,Value.ownBlock]using this
 obtain⟨hb,hc,hd,hr,he',z⟩:=tO h he (l.a2.lt g rfl).1 (fun e=>h.nb.2.1 (by rw[e];rfl));exact⟨hb,hc,hd,⟨l.a1.grown hg n1,ho,l.a3.grown hg n3,l.a4.grown hg n4,l.gR,l.im,l.iq,l.iu,l.iV,l.jo⟩,h.nb,hr,he',z,h.zw,h.zb,h.zk⟩
theorem Dn.FT{w:World}{kr bm B g n c:Nat}{m:aj}{s2 s3 s4:Value}{q:Int}{x y:World}{ws:List W.ay}(h:Dn w kr bm B m (.slice (some ⟨g,0,none⟩) n c) s2 s3 s4 q x)(he:Ex g x y)(ho:W.Ow y (.slice (some ⟨g,0,none⟩) n c) ws B):
  Dn w kr bm B {m with ws:=ws} (.slice (some ⟨g,0,none⟩) n c) s2 s3 s4 q y:=by
 have l:=h.l;have hg:x.grownBy y (some g):=A.av he;have n2:s2.ownBlock=none\/s2.ownBlock≠some g:=by have:=l.gR.symm;simpa[eh,Value.ownBlock]using this
 have n3:s3.ownBlock=none\/s3.ownBlock≠some g:=by have:=l.im.symm;simpa[eh,Value.ownBlock]using this
 have n4:s4.ownBlock=none\/s4.ownBlock≠some g:=by have:=l.iq.symm;simpa[eh,Value.ownBlock]using this
 obtain⟨hb,hc,hd,hr,he',z⟩:=tO h he (l.a1.lt g rfl).1 (fun e=>h.nb.1 (by rw[e];rfl));exact⟨hb,hc,hd,⟨ho,l.a2.grown hg n2,l.a3.grown hg n3,l.a4.grown hg n4,l.gR,l.im,l.iq,l.iu,l.iV,l.jo⟩,h.nb,hr,he',z,h.zw,h.zb,h.zk⟩
theorem kM{B size g n c:Nat}{e:TypeId}:∀(vs:List Value)(p:Nat)(x:World)(xs:List Value),x.ownsRow B e size (.slice (some ⟨g,0,none⟩) n c) n xs->p+vs.length<=xs.length->(x.setCells g p vs).ownsRow B e size (.slice (some ⟨g,0,none⟩) n c) n (xs.take p++(vs++xs.drop (p+vs.length)))
 |[],p,x,xs,h,hl=>by simpa[World.setCells]using h
 |v::r,p,x,xs,h,hl=>by
  simp only[List.length_cons]at hl;have h1:=kM r (p+1) _ _ (sL h p (by omega) v) (by simp;omega);have e1:(xs.set p v).take (p+1)++(r++(xs.set p v).drop (p+1+r.length))=xs.take p++(v::r++xs.drop (p+(v::r).length)):=by rw[List.drop_set_of_lt (by omega),List.take_add_one,List.getElem?_set_self (by omega)];rw[List.take_set_of_le (Nat.le_refl _)];simp only[Option.toList_some,List.append_assoc,List.cons_append,List.nil_append,List.length_cons];have e2:p+1+r.length=p+(r.length+1):=(by omega);rw[e2]
  rw[e1]at h1;exact h1
theorem qb:∀(rs:List aw)(i:Nat)(r:aw),i<rs.length->aA (rs.set i r)=(aA rs).take (i*11)++(r.cells++(aA rs).drop (i*11+r.cells.length))
 |[],i,r,h=>by simp at h
 |q::rs,0,r,h=>by rw[List.set_cons_zero,eu,eu,Nat.zero_mul,List.take_zero,List.nil_append,Nat.zero_add];have e:(q.cells++aA rs).drop r.cells.length=aA rs:=List.drop_left' (show q.cells.length=r.cells.length from rfl);rw[e]
 |q::rs,i+1,r,h=>by
  have ih:=qb rs i r (by simpa using h);have hq:q.cells.length=11:=rfl;have e1:(i+1)*11=q.cells.length+i*11:=by rw[hq];omega
  have e2:(i+1)*11+r.cells.length=q.cells.length+(i*11+r.cells.length):=by rw[hq];omega
  rw[List.set_cons_succ,eu,eu,ih,e2,e1,List.take_length_add_append,List.drop_length_add_append,List.append_assoc]
theorem Ow.FU{x:World}{g n c B i:Nat}{rs:List aw}(r:aw)(h:Ow x (.slice (some ⟨g,0,none⟩) n c) rs B)(hi:i<rs.length):Ow (x.setCells g (i*11) r.cells) (.slice (some ⟨g,0,none⟩) n c) (rs.set i r) B:=by
 have hn:n=rs.length:=by obtain⟨a,p,e⟩:=h.shape;cases e;rfl
 subst hn;have h1:=kM r.cells (i*11) x _ h (by rw[aZ];show i*11+11<=_;omega);rw[<-qb rs i r hi]at h1;show World.ownsRow _ _ _ _ _ (rs.set i r).length _;rw[List.length_set];exact h1
theorem W.Ow.sI{x:World}{g n c B:Nat}{r0:W.ay}{ws:List W.ay}(r:W.ay)(h:W.Ow x (.slice (some ⟨g,0,none⟩) n c) (r0::ws) B):W.Ow (x.setCells g 0 r.cells) (.slice (some ⟨g,0,none⟩) n c) (r::ws) B:=by
 have hn:n=(r0::ws).length:=by obtain⟨a,p,e⟩:=h.shape;cases e;rfl
 subst hn;have e0:∀t:W.ay,W.aA (t::ws)=t.cells++W.aA ws:=fun t=>by simp[W.aA]
 have h1:=kM r.cells 0 x _ h (by rw[W.aZ];show 0+7<=_;simp;omega);have e:(r0.cells++W.aA ws).drop r.cells.length=W.aA ws:=List.drop_left' (show r0.cells.length=r.cells.length from rfl);rw[List.take_zero,List.nil_append,Nat.zero_add,e0 r0,e,<-e0 r]at h1;exact h1
theorem vU(x y:ByteArray)(w:World):Sem.run prog (Instr.buildSlice 87 2 #[(0,.string x),(1,.string y)]) w=.ok (.slice (some ⟨w.heap.size,0,none⟩) 2 2) (w.alloc (.cells #[.string x,.string y] 9)):=by kernel_rfl
theorem Cp(x y z u:ByteArray)(w:World):Sem.run prog (Instr.buildSlice 87 4 #[(0,.string x),(1,.string y),(2,.string z),(3,.string u)]) w=.ok (.slice (some ⟨w.heap.size,0,none⟩) 4 4) (w.alloc (.cells #[.string x,.string y,.string z,.string u] 9)):=by kernel_rfl
theorem Cq(x y z u:Int)(w:World):Sem.run prog (Instr.buildSlice 51 4 #[(0,.int .i64 x),(1,.int .i64 y),(2,.int .i64 z),(3,.int .i64 u)]) w=.ok (.slice (some ⟨w.heap.size,0,none⟩) 4 4) (w.alloc (.cells #[.int .i64 x,.int .i64 y,.int .i64 z,.int .i64 u] 3)):=by kernel_rfl
theorem Cr(h c:ByteArray)(f t:Int)(w:World):Sem.run prog (Instr.buildSlice 25 1 #[(0,.agg (cZ h c f t))]) w=.ok (.slice (some ⟨w.heap.size,0,none⟩) 1 1) (w.alloc (.cells (cZ h c f t) 64)):=by kernel_rfl
def uS(v:Value):Prop:=∃x:Int,v=.int .i64 x
theorem nz{P:Value->Prop}{w:World}{cs:List Value}{t:TypeId}{B rb:Nat}(hB:B<=w.heap.size)(hb:rb<w.heap.size)(h:∀v∈cs,P v):lR P B rb cs.length (w.alloc (.cells cs.toArray t)) (.slice (some ⟨w.heap.size,0,none⟩) cs.length cs.length):=
 ⟨w.heap.size,rfl,hB,by omega,by simp,fun j hj=>⟨cs[j],by rw[World.cell?_alloc_new];simp[hj],h _ (List.getElem_mem hj)⟩⟩
def Me(v:Value):Prop:=∃(h c:ByteArray)(f t:Int),v=.agg (cZ h c f t)/\h.size<=20/\c.size<=20
def mQ(B:Nat)(w:World)(v:Value):Prop:=∃(h c:ByteArray)(f t:Int)(g:Nat),v=.slice (some ⟨g,0,none⟩) 1 1/\B<=g/\g<w.heap.size/\w.heap[g]?=some (.cells (cZ h c f t) 64)/\h.size<=20/\c.size<=20
theorem mQ.keep{B kr:Nat}{w w':World}{v:Value}(h:mQ B w v)(he:Ex kr w w')(hk:kr<B):mQ B w' v:=by obtain⟨h1,c,f,t,g,rfl,g0,g1,g2,g3⟩:=h;exact⟨h1,c,f,t,g,rfl,g0,Nat.lt_of_lt_of_le g1 he.size,by rw[he.block g g1 (by omega)];exact g2,g3⟩
def Mf(D:Int->World->Prop)(B:Nat)(Q:Int)(l:List A.aC)(s:Value)(w:World)(v:Value):Prop:=∃(x:World)(p:Int)(h c:ByteArray)(f t:Int),D p x/\p<=Q/\x.grownBy w s.ownBlock/\A.Ow w v (l++[⟨h,c,f,t⟩]) B/\(v.ownBlock=s.ownBlock\/v.ownBlock=some x.heap.size)/\h.size<=20/\c.size<=20
def fN(a:Int):aw:=⟨{data:=#[122,122]},{data:=#[]},1,0,0,0,0,a,0,0,0⟩
def Px(v:Value):Prop:=∃a:Int,v=.agg (fN a).cells.toArray
def sN(B:Nat)(w:World)(v:Value):Prop:=∃(a:Int)(g:Nat),v=.slice (some ⟨g,0,none⟩) 1 1/\B<=g/\g<w.heap.size/\w.heap[g]?=some (.cells (fN a).cells.toArray 39)
theorem sN.keep{B kr:Nat}{w w':World}{v:Value}(h:sN B w v)(he:Ex kr w w')(hk:kr<B):sN B w' v:=by obtain⟨a,g,rfl,g0,g1,g2⟩:=h;exact⟨a,g,rfl,g0,Nat.lt_of_lt_of_le g1 he.size,by rw[he.block g g1 (by omega)];exact g2⟩
def Py(D:Int->World->Prop)(B:Nat)(Q:Int)(l:List aw)(s:Value)(w:World)(v:Value):Prop:=∃(x:World)(p a:Int),D p x/\p<=Q/\x.grownBy w s.ownBlock/\Ow w v (l++[fN a]) B/\(v.ownBlock=s.ownBlock\/v.ownBlock=some x.heap.size)
theorem CJ(a:Int)(w:World):Sem.run prog (Instr.buildSlice 24 1 #[(0,.agg (aL ⟨#[122,122]⟩ 1 ⟨#[]⟩ 0 0 0 0 a 0 0 0))]) w=.ok (.slice (some ⟨w.heap.size,0,none⟩) 1 1) (w.alloc (.cells (fN a).cells.toArray 39)):=by kernel_rfl
theorem zI{o:Oper}{a:Act}{Y:World}{K:Act->World->Prop}{Q:Exit->Act->World->Prop}(B:Nat)(s x:Operand)
  (ho:o.op=.call {callee:=.builtin .append,args:=#[s,x],argTypes:=#[25,25]}) (l:List A.aC) (v u:Value)
  (hs:a.eval s=v) (hown:A.Ow Y v l B) (hB:B<=Y.heap.size) (hx:a.eval x=u) (hn:mQ B Y u) (hl:l.length<=1000)
  (h:∀(s':Value)(w':World)(hh c:ByteArray)(f t:Int),A.Ow w' s' (l++[⟨hh,c,f,t⟩]) B->Y.grownBy w' v.ownBlock->(s'.ownBlock=v.ownBlock\/s'.ownBlock=some Y.heap.size)->hh.size<=20->c.size<=20->K (a.put o.dst s') w'):o.wp prog a Y K Q:=by
 obtain⟨i0,hi,hz0,hz1,hz2⟩:=info_parts A.cE;obtain⟨hh,c,f,t,g,rfl,g0,g1,g2,g3,g4⟩:=hn;refine iI s x 25 ho B 64 i0 _ 4 48 underlying25 hi hz0 hz1 hz2 rfl (by decide) v l.length _ hs hown ⟨g,0,none⟩ 1 1 (⟨hh,c,f,t⟩:A.aC).cells hx rfl (fun j u hj=>lS g2 j u hj) (A.aU _) (by unfold maxLen;omega) (by omega) hB ?_;intro s' w' ho' hg' hat;refine h s' w' hh c f t ?_ hg' hat g3 g4;show World.ownsRow _ _ _ _ _ (l++[(⟨hh,c,f,t⟩:A.aC)]).length _;rw[List.length_append];simpa[A.aA]using ho'
theorem Gf{o:Oper}{a:Act}{Y:World}{K:Act->World->Prop}{Q:Exit->Act->World->Prop}(B:Nat)(s x:Operand)
  (ho:o.op=.call {callee:=.builtin .append,args:=#[s,x],argTypes:=#[24,24]}) (l:List aw) (v u:Value)
  (hs:a.eval s=v) (hown:Ow Y v l B) (hB:B<=Y.heap.size) (hx:a.eval x=u) (hn:sN B Y u) (hl:l.length<=1000)
  (h:∀(s':Value)(w':World)(st:Int),Ow w' s' (l++[fN st]) B->Y.grownBy w' v.ownBlock->(s'.ownBlock=v.ownBlock\/s'.ownBlock=some Y.heap.size)->K (a.put o.dst s') w'):o.wp prog a Y K Q:=by
 obtain⟨i0,hi,hz0,hz1,hz2⟩:=info_parts cE;obtain⟨st,g,rfl,g0,g1,g2⟩:=hn;refine iI s x 24 ho B 39 i0 _ 11 104 underlying24 hi hz0 hz1 hz2 rfl (by decide) v l.length _ hs hown ⟨g,0,none⟩ 1 1 (fN st).cells hx rfl (fun j u hj=>lS g2 j u hj) (aU _) (by unfold maxLen;omega) (by omega) hB ?_;intro s' w' ho' hg' hat;refine h s' w' st ?_ hg' hat;show World.ownsRow _ _ _ _ _ (l++[fN st]).length _;rw[List.length_append];simpa[aA]using ho'
def Mg(v:Value):Prop:=∃r:W.ay,v=.agg r.cells.toArray/\r.fits
def Pz(v:Value):Prop:=∃r:aw,v=.agg r.cells.toArray/\r.fits
def yF(kr bm B0:Nat)(ck:Int)(w:World):Nat->Value->Prop
 |0,v=>v=.pointer (some ⟨bm,2,none⟩)
 |1,v=>v=.int .i64 ck
 |2,v=>uS v
 |3,v=>lR uS B0 bm 4 w v
 |4,v=>v=.pointer (some ⟨kr,0,none⟩)
 |5,v=>Num 0 3 v
 |6,v=>Cell uS B0 bm w v
 |7,v=>uS v
 |8,v=>v=.pointer (some ⟨bm,2,none⟩)
 |_,_=>True
theorem yF.keep{kr bm B0:Nat}{ck:Int}{w w':World}(he:Ex kr w w')(hk:kr<B0):∀i v,i≠9->yF kr bm B0 ck w i v->yF kr bm B0 ck w' i v
 |0,_,_,h=>h
 |1,_,_,h=>h
 |2,_,_,h=>h
 |3,_,_,h=>lR.keep h he hk
 |4,_,_,h=>h
 |5,_,_,h=>h
 |6,_,_,h=>Cell.keep h he hk
 |7,_,_,h=>h
 |8,_,_,h=>h
 |_+9,_,_,h=>h
def Ko(kr bm B0:Nat)(s1:Value)(g:Nat)(r0:W.ay)(w:World):Nat->Value->Prop
 |0,v=>v=.pointer (some ⟨bm,5,none⟩)
 |1,v=>v=s1
 |2,v=>v=.pointer (some ⟨kr,0,none⟩)
 |3,v=>v=.pointer (some ⟨bm,5,none⟩)
 |4,v=>v=s1
 |5,v=>v=.pointer (some ⟨g,0,none⟩)
 |6,v=>v=.agg r0.cells.toArray
 |7,v=>Mg v
 |8,v=>v=.pointer (some ⟨g,0,none⟩)
 |_,_=>True
theorem Ko.keep{kr bm B0:Nat}{s1:Value}{g:Nat}{r0:W.ay}{w w':World}(he:Ex kr w w')(hk:kr<B0):∀i v,i≠9->Ko kr bm B0 s1 g r0 w i v->Ko kr bm B0 s1 g r0 w' i v
 |0,_,_,h=>h
 |1,_,_,h=>h
 |2,_,_,h=>h
 |3,_,_,h=>h
 |4,_,_,h=>h
 |5,_,_,h=>h
 |6,_,_,h=>h
 |7,_,_,h=>h
 |8,_,_,h=>h
 |_+9,_,_,h=>h
def F7(kr bm B0:Nat)(s2:Value)(g k:Nat)(r0:aw)(w:World):Nat->Value->Prop
 |0,v=>v=.pointer (some ⟨bm,6,none⟩)
 |1,v=>v=s2
 |2,v=>v=.int .i64 (k:Int)
 |3,v=>v=.pointer (some ⟨kr,0,none⟩)
 |4,v=>v=.pointer (some ⟨bm,6,none⟩)
 |5,v=>v=s2
 |6,v=>v=.int .i64 (k:Int)
 |7,v=>v=.pointer (some ⟨g,k*11,none⟩)
 |8,v=>v=.agg r0.cells.toArray
 |9,v=>Pz v
 |10,v=>v=.pointer (some ⟨g,k*11,none⟩)
 |_,_=>True
theorem F7.keep{kr bm B0:Nat}{s2:Value}{g k:Nat}{r0:aw}{w w':World}(he:Ex kr w w')(hk:kr<B0):∀i v,i≠11->F7 kr bm B0 s2 g k r0 w i v->F7 kr bm B0 s2 g k r0 w' i v
 |0,_,_,h=>h
 |1,_,_,h=>h
 |2,_,_,h=>h
 |3,_,_,h=>h
 |4,_,_,h=>h
 |5,_,_,h=>h
 |6,_,_,h=>h
 |7,_,_,h=>h
 |8,_,_,h=>h
 |9,_,_,h=>h
 |10,_,_,h=>h
 |_+11,_,_,h=>h
def zH(kr bm B0:Nat)(s3:Value)(B:Nat)(D:Int->World->Prop)(Q:Int)(l:List A.aC)(w:World):Nat->Value->Prop
 |0,v=>v=.pointer (some ⟨bm,7,none⟩)
 |1,v=>v=s3
 |2,v=>lR mE B0 bm 4 w v
 |3,v=>v=.pointer (some ⟨kr,0,none⟩)
 |4,v=>Num 0 3 v
 |5,v=>Cell mE B0 bm w v
 |6,v=>mE v
 |7,v=>lR mE B0 bm 2 w v
 |8,v=>v=.pointer (some ⟨kr,0,none⟩)
 |9,v=>Num 0 1 v
 |10,v=>Cell mE B0 bm w v
 |11,v=>mE v
 |12,v=>v=.pointer (some ⟨kr,0,none⟩)
 |13,v=>Num 0 2 v
 |14,v=>v=.pointer (some ⟨kr,0,none⟩)
 |15,v=>Num 0 69 v
 |16,v=>Me v
 |17,v=>mQ B0 w v
 |18,v=>Mf D B Q l s3 w v
 |19,v=>v=.pointer (some ⟨bm,7,none⟩)
 |_,_=>True
theorem zH.keep{kr bm B0:Nat}{s3:Value}{B:Nat}{D:Int->World->Prop}{Q:Int}{l:List A.aC}{w w':World}(he:Ex kr w w')(hk:kr<B0):∀i v,i≠18->zH kr bm B0 s3 B D Q l w i v->zH kr bm B0 s3 B D Q l w' i v
 |0,_,_,h=>h
 |1,_,_,h=>h
 |2,_,_,h=>lR.keep h he hk
 |3,_,_,h=>h
 |4,_,_,h=>h
 |5,_,_,h=>Cell.keep h he hk
 |6,_,_,h=>h
 |7,_,_,h=>lR.keep h he hk
 |8,_,_,h=>h
 |9,_,_,h=>h
 |10,_,_,h=>Cell.keep h he hk
 |11,_,_,h=>h
 |12,_,_,h=>h
 |13,_,_,h=>h
 |14,_,_,h=>h
 |15,_,_,h=>h
 |16,_,_,h=>h
 |17,_,_,h=>mQ.keep h he hk
 |18,_,hne,_=>absurd rfl hne
 |19,_,_,h=>h
 |_+20,_,_,h=>h
def CH(kr bm B0:Nat)(s4:Value)(B:Nat)(D:Int->World->Prop)(Q:Int)(l:List A.aC)(w:World):Nat->Value->Prop
 |0,v=>v=.pointer (some ⟨bm,8,none⟩)
 |1,v=>v=s4
 |2,v=>lR mE B0 bm 3 w v
 |3,v=>v=.pointer (some ⟨kr,0,none⟩)
 |4,v=>Num 0 2 v
 |5,v=>Cell mE B0 bm w v
 |6,v=>mE v
 |7,v=>v=.pointer (some ⟨kr,0,none⟩)
 |8,v=>Num 0 2 v
 |9,v=>uS v
 |10,v=>v=.pointer (some ⟨kr,0,none⟩)
 |11,v=>Num 0 4 v
 |12,v=>Me v
 |13,v=>mQ B0 w v
 |14,v=>Mf D B Q l s4 w v
 |15,v=>v=.pointer (some ⟨bm,8,none⟩)
 |_,_=>True
theorem CH.keep{kr bm B0:Nat}{s4:Value}{B:Nat}{D:Int->World->Prop}{Q:Int}{l:List A.aC}{w w':World}(he:Ex kr w w')(hk:kr<B0):∀i v,i≠14->CH kr bm B0 s4 B D Q l w i v->CH kr bm B0 s4 B D Q l w' i v
 |0,_,_,h=>h
 |1,_,_,h=>h
 |2,_,_,h=>lR.keep h he hk
 |3,_,_,h=>h
 |4,_,_,h=>h
 |5,_,_,h=>Cell.keep h he hk
 |6,_,_,h=>h
 |7,_,_,h=>h
 |8,_,_,h=>h
 |9,_,_,h=>h
 |10,_,_,h=>h
 |11,_,_,h=>h
 |12,_,_,h=>h
 |13,_,_,h=>mQ.keep h he hk
 |14,_,hne,_=>absurd rfl hne
 |15,_,_,h=>h
 |_+16,_,_,h=>h
def IZ(kr bm B0:Nat)(s2:Value)(B:Nat)(D:Int->World->Prop)(Q:Int)(l:List aw)(w:World):Nat->Value->Prop
 |0,v=>v=.pointer (some ⟨bm,6,none⟩)
 |1,v=>v=s2
 |2,v=>v=.agg (aX ⟨#[122,122]⟩ 1 ⟨#[]⟩ 0 0 0 0)
 |3,v=>v=.pointer (some ⟨kr,0,none⟩)
 |4,v=>Num 0 5 v
 |5,v=>uS v
 |6,v=>Px v
 |7,v=>sN B0 w v
 |8,v=>Py D B Q l s2 w v
 |9,v=>v=.pointer (some ⟨bm,6,none⟩)
 |_,_=>True
theorem IZ.keep{kr bm B0:Nat}{s2:Value}{B:Nat}{D:Int->World->Prop}{Q:Int}{l:List aw}{w w':World}(he:Ex kr w w')(hk:kr<B0):∀i v,i≠8->IZ kr bm B0 s2 B D Q l w i v->IZ kr bm B0 s2 B D Q l w' i v
 |0,_,_,h=>h
 |1,_,_,h=>h
 |2,_,_,h=>h
 |3,_,_,h=>h
 |4,_,_,h=>h
 |5,_,_,h=>h
 |6,_,_,h=>h
 |7,_,_,h=>sN.keep h he hk
 |8,_,hne,_=>absurd rfl hne
 |9,_,_,h=>h
 |_+10,_,_,h=>h
structure Ix(sl:Nat->Nat)(n se:Nat)(md:Region.Mode)(ops:Array Oper)(a0:Act)(G:World->Nat->Value->Prop)(V:Array Bool->Value->World->Prop)(listed:Array Bool)(a:Act)(w:World):Prop where
 df:a.defers=a0.defers
 sz:a.tmps.size=a0.tmps.size
 out:∀k,(∀i,i<n->sl i≠k)->a.tmps.getD k undef=a0.tmps.getD k undef
 lz:listed.size=n+1
 tr:∀i j,pQ md ops i j=true->listed.getD i false=true->listed.getD j false=true
 good:∀i,i<n->listed.getD i false=true->listed.getD n false=false->G w i (a.tmps.getD (sl i) undef)
 v:V listed (a.tmps.getD se undef) w
section
variable {sl:Nat->Nat} {n se:Nat} {md:Region.Mode} {ops:Array Oper} {a0:Act} {G:World->Nat->Value->Prop} {V:Array Bool->Value->World->Prop} {listed:Array Bool} {a:Act} {w w':World} {i:Nat} {v:Value}
theorem Ix.put(h:Ix sl n se md ops a0 G V listed a w)(hr:i∈Region.ready md ops listed)(hi:i<n)(hlt:sl i<a0.tmps.size)(hinj:∀j,j<n->sl j=sl i->j=i)(hg:G w' i v)
  (hk:∀j u,j<n->listed.getD j false=true->G w j u->G w' j u) (hv:∀u,V (listed.setIfInBounds i true) u w'):
  Ix sl n se md ops a0 G V (listed.setIfInBounds i true) (a.put (some (sl i)) v) w':=by
 have hsz:=h.sz;have hlz:=h.lz;refine⟨h.df,by simpa[Act.put]using hsz,?_,by simpa using hlz,qS hr (by omega) h.tr,?_,hv _⟩
 ·
  intro k hko;rw[<-h.out k hko];simp only[Act.put,Array.getD_eq_getD_getElem?];rw[Array.getElem?_setIfInBounds_ne (hko i hi)]
 ·
  intro j hj hl hc;by_cases e:j=i
  ·
   subst e;simp only[Act.put,Array.getD_eq_getD_getElem?];rw[Array.getElem?_setIfInBounds_self_of_lt (by omega)];exact hg
  rw[dZ e]at hl;rw[dZ (by omega)]at hc;have h1:=hk j _ hj hl (h.good j hj hl hc);simp only[Act.put,Array.getD_eq_getD_getElem?]at h1 ⊢;rw[Array.getElem?_setIfInBounds_ne (fun e'=>e (hinj j hj e'.symm))];exact h1
theorem Ix.last(h:Ix sl n se md ops a0 G V listed a w)(hr:n∈Region.ready md ops listed){u:Value}(hv:V (listed.setIfInBounds n true) (a.tmps.getD se undef) w'):
  Ix sl n se md ops a0 G V (listed.setIfInBounds n true) (a.put none u) w':=by
 have hlz:=h.lz;refine⟨h.df,h.sz,h.out,by simpa using hlz,qS hr (by omega) h.tr,?_,hv⟩;intro j hj hl hc;rw[dp (by omega)]at hc;cases hc
end
def Vx(n:Nat)(D:Int->World->Prop)(E:Value->World->Prop)(q:Int)(listed:Array Bool)(u:Value)(w:World):Prop:=
 (listed.getD n false=false->∃p,D p w/\p+(dG listed:Int)<=q+((n:Int)+1))/\(listed.getD n false=true->E u w)
section
variable {n:Nat} {D:Int->World->Prop} {E:Value->World->Prop} {q p:Int} {listed:Array Bool} {w:World} {i:Nat} {u:Value}
theorem Vx.turn(ho:listed.getD i true=false)(hn:listed.getD n false=false)(hin:i≠n)(hD:D p w)(hp:p+(dG listed:Int)<=q+((n:Int)+1)+1):∀u,Vx n D E q (listed.setIfInBounds i true) u w:=by have hop:=et ho;intro u;refine⟨fun _=>⟨p,hD,by omega⟩,fun h=>?_⟩;rw[dZ (fun e=>hin e.symm),hn]at h;cases h
theorem Vx.fin(hn:listed.getD n false=true)(hE:E u w):Vx n D E q listed u w:=⟨fun h=>(by rw[hn]at h;cases h),fun _=>hE⟩
end
theorem zn{P:Program}{ops:Array Oper}{Q:Exit->Act->World->Prop}{a0:Act}{w0:World}(sl:Nat->Nat)(n se:Nat)(G:World->Nat->Value->Prop)(D:Int->World->Prop)(E:Value->World->Prop)(q:Int)
  (hd:qQ ops=true) (hops:ops.size=n+1) (hD:D q w0)
  (done:∀a y,a.defers=a0.defers->a.tmps.size=a0.tmps.size->(∀k,(∀i,i<n->sl i≠k)->a.tmps.getD k undef=a0.tmps.getD k undef)->E (a.tmps.getD se undef) y->Q .normal a y)
  (step:∀listed x y i,Ix sl n se .any ops a0 G (Vx n D E q) listed x y->i∈Region.ready .any ops listed->i<n+1->wpOp P ops Q i (Ix sl n se .any ops a0 G (Vx n D E q) (listed.setIfInBounds i true)) x y):
  wpAny P .any ops Q ops.size (Array.replicate ops.size false) a0 w0:=by
 refine iB (Ix sl n se .any ops a0 G (Vx n D E q)) (fun listed x y i hI hi=>step listed x y i hI hi (by have:=List.mem_range.1 (List.mem_filter.1 hi).1;omega)) ?_ _ _ _ _ (lj _) ?_
 ·
  intro listed x y hI hr;have hall:=i6 hd hr (by rw[hI.lz,hops]);exact done x y hI.df hI.sz hI.out (hI.v.2 (hall n (by omega)))
 ·
  refine⟨rfl,rfl,fun _ _=>rfl,by simp[hops],?_,?_,?_⟩
  ·
   intro i j _ h;rw[fZ]at h;cases h
  ·
   intro i _ h;rw[fZ]at h;cases h
  have h1:=lj ops.size;exact⟨fun _=>⟨q,hD,by omega⟩,fun h=>by rw[fZ]at h;cases h⟩
theorem wP{a a0:Act}{lo n se:Nat}(df:a.defers=a0.defers)(sz:a.tmps.size=a0.tmps.size)(hse:se<a0.tmps.size)(hn:lo+n<=a0.tmps.size)(out:∀k,k≠se->k<lo\/lo+n<=k->a.tmps.getD k undef=a0.tmps.getD k undef):
  ∃l:List Value,l.length=n/\a=⟨((a0.tmps.setIfInBounds se (a.tmps.getD se undef)).toList.take lo++(l++(a0.tmps.setIfInBounds se (a.tmps.getD se undef)).toList.drop (lo+n))).toArray,a0.defers⟩:=by
 refine tv (a:=a) (a0:=⟨a0.tmps.setIfInBounds se (a.tmps.getD se undef),a0.defers⟩) df (by simpa using sz) ?_ (by simpa using hn);intro k hk;by_cases e:k=se
 ·
  subst e;simp only[Array.getD_eq_getD_getElem?];rw[Array.getElem?_setIfInBounds_self_of_lt hse,Option.getD_some]
 ·
  rw[out k e hk];simp only[Array.getD_eq_getD_getElem?];rw[Array.getElem?_setIfInBounds_ne (fun e'=>e e'.symm)]
structure Da(w:World)(kr bm B:Nat)(m:aj)(s1 s2 s3 s4:Value)(q:Int)(x:World):Prop where
 b:∀k,x.cell? ⟨bm,k,none⟩=((bY m.nm m.up m.ck m.kn m.se s1 s2 s3 s4):Array Value)[k]?
 c:∀k,x.frozen? ⟨bm,k,none⟩=false
 d:x.there w.heap.size 0 9
 l:dI x m s1 s2 s3 s4 B
 nb:s1.ownBlock≠some bm/\s2.ownBlock≠some bm/\s3.ownBlock≠some bm/\s4.ownBlock≠some bm
 r:Rq x kr q
 e:Ex kr w x
 z:bm<x.heap.size
 zw:w.heap.size<bm
 zb:w.heap.size<B
 zk:kr<w.heap.size
theorem mR{w:World}{kr bm B:Nat}{m:aj}{s1 s2 s3 s4:Value}{q:Int}{x y:World}{row:Option Nat}(h:Da w kr bm B m s1 s2 s3 s4 q x)(hg:x.grownBy y row)(hr:∀k,row=some k->w.heap.size<k/\k≠bm):
  (∀k,y.cell? ⟨bm,k,none⟩=((bY m.nm m.up m.ck m.kn m.se s1 s2 s3 s4):Array Value)[k]?)/\(∀k,y.frozen? ⟨bm,k,none⟩=false)/\y.there w.heap.size 0 9/\Rq y kr q/\Ex kr w y/\bm<y.heap.size:=by
 have z:=h.z;have zw:=h.zw;have zk:=h.zk;have kb:y.heap[bm]?=x.heap[bm]?:=hg.block bm z (fun e=>by have:=hr _ e.symm;omega);have kw:y.heap[w.heap.size]?=x.heap[w.heap.size]?:=hg.block _ (by omega) (fun e=>by have:=hr _ e.symm;omega);exact⟨fun k=>(World.cell?_of_block (w:=x) (a:=⟨bm,k,none⟩) kb).trans (h.b k),fun k=>(World.frozen?_of_block (w:=x) (a:=⟨bm,k,none⟩) kb).trans (h.c k),fun j hj=>⟨by rw[World.cell?_of_block (w:=x) (a:=⟨w.heap.size,0+j,none⟩) kw];exact(h.d j hj).1,by rw[World.frozen?_of_block (w:=x) (a:=⟨w.heap.size,0+j,none⟩) kw];exact(h.d j hj).2⟩,h.r.grown hg (fun k hk=>by have:=hr k hk;omega),h.e.grown hg (fun k hk=>by have:=hr k hk;omega),Nat.lt_of_lt_of_le z hg.size⟩
theorem Da.grown{w:World}{kr bm B:Nat}{m:aj}{s1 s2 s3 s4:Value}{q:Int}{x y:World}{row:Option Nat}(h:Da w kr bm B m s1 s2 s3 s4 q x)(hg:x.grownBy y row)(hr:∀k,row=some k->w.heap.size<k/\k≠bm)
  (hn:∀k,row=some k->s1.ownBlock≠some k/\s2.ownBlock≠some k/\s3.ownBlock≠some k/\s4.ownBlock≠some k):Da w kr bm B m s1 s2 s3 s4 q y:=by
 obtain⟨hb,hc,hd,hr',he,z⟩:=mR h hg hr;have l:=h.l;exact⟨hb,hc,hd,⟨l.a1.grown hg (eV fun k hk=>(hn k hk).1),l.a2.grown hg (eV fun k hk=>(hn k hk).2.1),l.a3.grown hg (eV fun k hk=>(hn k hk).2.2.1),l.a4.grown hg (eV fun k hk=>(hn k hk).2.2.2),l.gR,l.im,l.iq,l.iu,l.iV,l.jo⟩,h.nb,hr',he,z,h.zw,h.zb,h.zk⟩
theorem Da.below{w:World}{kr bm B:Nat}{m:aj}{s1 s2 s3 s4:Value}{q:Int}{x y:World}(h:Da w kr bm B m s1 s2 s3 s4 q x)(hb:Below x.heap.size x y):Da w kr bm B m s1 s2 s3 s4 q y:=
 h.grown (gT hb) (fun k hk=>by cases hk) (fun k hk=>by cases hk)
theorem Da.pick{w:World}{kr bm B:Nat}{m:aj}{s1 s2 s3 s4:Value}{q q':Int}{x y:World}(h:Da w kr bm B m s1 s2 s3 s4 q x)(he:Ex kr x y)(hr:Rq y kr q'):Da w kr bm B m s1 s2 s3 s4 q' y:=by have z:=h.z;have zw:=h.zw;have zb:=h.zb;have zk:=h.zk;exact⟨fun k=>(he.cell (p:=⟨bm,k,none⟩) z (by show bm≠kr;omega)).trans (h.b k),fun k=>(he.frozen (p:=⟨bm,k,none⟩) z (by show bm≠kr;omega)).trans (h.c k),bh h.d (by omega) he (by omega),h.l.ex he (by omega),h.nb,hr,h.e.trans he,Nat.lt_of_lt_of_le z he.size,zw,zb,zk⟩
theorem Da.up{w:World}{kr bm B:Nat}{m:aj}{s1 s2 s3 s4:Value}{q q':Int}{x:World}(h:Da w kr bm B m s1 s2 s3 s4 q x)(hq:q<=q'):Da w kr bm B m s1 s2 s3 s4 q' x:=⟨h.b,h.c,h.d,h.l,h.nb,h.r.up hq,h.e,h.z,h.zw,h.zb,h.zk⟩
theorem yM{w:World}{kr bm B:Nat}{m m':aj}{s1 s2 s3 s4 t1 t2 t3 t4:Value}{q:Int}{x:World}(hb:∀k,x.cell? ⟨bm,k,none⟩=((bY m.nm m.up m.ck m.kn m.se s1 s2 s3 s4):Array Value)[k]?)(hc:∀k,x.frozen? ⟨bm,k,none⟩=false)(hd:x.there w.heap.size 0 9)(hr:Rq x kr q)(he0:Ex kr w x)(z:bm<x.heap.size)(zw:w.heap.size<bm)(zb:w.heap.size<B)(zk:kr<w.heap.size)(j:Nat)(u:Value)(hj:j<9)(hO:((bY m'.nm m'.up m'.ck m'.kn m'.se t1 t2 t3 t4):Array Value)=((bY m.nm m.up m.ck m.kn m.se s1 s2 s3 s4):Array Value).setIfInBounds j u)
  (hl:dI x m' t1 t2 t3 t4 B) (nb:t1.ownBlock≠some bm/\t2.ownBlock≠some bm/\t3.ownBlock≠some bm/\t4.ownBlock≠some bm):Da w kr bm B m' t1 t2 t3 t4 q (x.setCell ⟨bm,j,none⟩ u):=by
 have he:Ex bm x (x.setCell ⟨bm,j,none⟩ u):=(Ex.refl _ _).set j u;have hg:x.grownBy (x.setCell ⟨bm,j,none⟩ u) (some bm):=A.av he;refine⟨fun k=>?_,fun k=>by rw[World.frozen?_setCell];exact hc k,bh hd (by omega) he (by omega),⟨hl.a1.grown hg (iW nb.1),hl.a2.grown hg (iW nb.2.1),hl.a3.grown hg (iW nb.2.2.1),hl.a4.grown hg (iW nb.2.2.2),hl.gR,hl.im,hl.iq,hl.iu,hl.iV,hl.jo⟩,nb,hr.grown hg (fun k hk=>by cases hk;omega),he0.grown hg (fun k hk=>by cases hk;omega),Nat.lt_of_lt_of_le z he.size,zw,zb,zk⟩;rw[hO];by_cases e:k=j
 ·
  subst e;have h1:=hb k;rw[Array.getElem?_eq_getElem (by simpa using hj)]at h1;rw[World.cell?_setCell_same _ _ _ h1,Array.getElem?_setIfInBounds_self_of_lt (by simpa using hj)]
 ·rw[World.cell?_setCell_other _ _ _ _ (fun h'=>e (by have:=congrArg Addr.off h';exact this.symm)),hb k,Array.getElem?_setIfInBounds_ne (fun e'=>e e'.symm)]
theorem Da.set{w:World}{kr bm B:Nat}{m m':aj}{s1 s2 s3 s4 t1 t2 t3 t4:Value}{q:Int}{x:World}(h:Da w kr bm B m s1 s2 s3 s4 q x)(j:Nat)(u:Value)(hj:j<9)(hO:((bY m'.nm m'.up m'.ck m'.kn m'.se t1 t2 t3 t4):Array Value)=((bY m.nm m.up m.ck m.kn m.se s1 s2 s3 s4):Array Value).setIfInBounds j u)
  (hl:dI x m' t1 t2 t3 t4 B) (nb:t1.ownBlock≠some bm/\t2.ownBlock≠some bm/\t3.ownBlock≠some bm/\t4.ownBlock≠some bm):Da w kr bm B m' t1 t2 t3 t4 q (x.setCell ⟨bm,j,none⟩ u):=yM h.b h.c h.d h.r h.e h.z h.zw h.zb h.zk j u hj hO hl nb
theorem Da.Ff{w:World}{kr bm B:Nat}{m:aj}{s1 s2 s3 s4 v:Value}{q:Int}{x y:World}{l:List aw}(h:Da w kr bm B m s1 s2 s3 s4 q x)(hg:x.grownBy y s2.ownBlock)(ho:Ow y v l B)(hat:v.ownBlock=s2.ownBlock\/v.ownBlock=some x.heap.size):
  Da w kr bm B {m with rs:=l} s1 v s3 s4 q (y.setCell ⟨bm,6,none⟩ v):=by
 have o:=h.l;have zb:=h.zb;obtain⟨hb,hc,hd,hr,he,z⟩:=mR h hg (fun k hk=>⟨by have:=(o.a2.lt k hk).1;omega,fun e=>h.nb.2.1 (by rw[hk,e])⟩);exact yM hb hc hd hr he z h.zw h.zb h.zk 6 v (by omega) rfl ⟨o.a1.grown hg o.gR,ho.sl,o.a3.grown hg o.iu.symm,o.a4.grown hg o.iV.symm,dw o.gR (fun g hg=>(o.a1.lt g hg).2) hat,o.im,o.iq,(dw o.iu.symm (fun g hg=>(o.a3.lt g hg).2) hat).symm,(dw o.iV.symm (fun g hg=>(o.a4.lt g hg).2) hat).symm,o.jo⟩ ⟨h.nb.1,qw h.nb.2.1 h.z hat,h.nb.2.2.1,h.nb.2.2.2⟩
theorem yN{w:World}{kr bm B g:Nat}{m:aj}{s1 s2 s3 s4:Value}{q:Int}{x y:World}(h:Da w kr bm B m s1 s2 s3 s4 q x)(he:Ex g x y)(hg0:B<=g)(hgb:g≠bm):
  (∀k,y.cell? ⟨bm,k,none⟩=((bY m.nm m.up m.ck m.kn m.se s1 s2 s3 s4):Array Value)[k]?)/\(∀k,y.frozen? ⟨bm,k,none⟩=false)/\y.there w.heap.size 0 9/\Rq y kr q/\Ex kr w y/\bm<y.heap.size:=
 mR h (A.av he) (fun k hk=>by cases hk;exact⟨by have:=h.zb;omega,hgb⟩)
theorem Da.yO{w:World}{kr bm B g n c:Nat}{m:aj}{s1 s3 s4:Value}{q:Int}{x y:World}{rs:List aw}(h:Da w kr bm B m s1 (.slice (some ⟨g,0,none⟩) n c) s3 s4 q x)(he:Ex g x y)(ho:Sl y (.slice (some ⟨g,0,none⟩) n c) rs B):
  Da w kr bm B {m with rs:=rs} s1 (.slice (some ⟨g,0,none⟩) n c) s3 s4 q y:=by
 have l:=h.l;have hg:x.grownBy y (some g):=A.av he;have n1:s1.ownBlock=none\/s1.ownBlock≠some g:=by have:=l.gR;simpa[eh,Value.ownBlock]using this
 have n3:s3.ownBlock=none\/s3.ownBlock≠some g:=by have:=l.iu.symm;simpa[eh,Value.ownBlock]using this
 have n4:s4.ownBlock=none\/s4.ownBlock≠some g:=by have:=l.iV.symm;simpa[eh,Value.ownBlock]using this
 obtain⟨hb,hc,hd,hr,he',z⟩:=yN h he (l.a2.lt g rfl).1 (fun e=>h.nb.2.1 (by rw[e];rfl));exact⟨hb,hc,hd,⟨l.a1.grown hg n1,ho,l.a3.grown hg n3,l.a4.grown hg n4,l.gR,l.im,l.iq,l.iu,l.iV,l.jo⟩,h.nb,hr,he',z,h.zw,h.zb,h.zk⟩
theorem Sl.put{x:World}{g n c B i j:Nat}{rs:List aw}{r r':aw}{v:Value}(h:Sl x (.slice (some ⟨g,0,none⟩) n c) rs B)(hr:rs[i]?=some r)(hc:r'.cells=r.cells.set j v)(hj:j<11):Sl (x.setCell ⟨g,i*11+j,none⟩ v) (.slice (some ⟨g,0,none⟩) n c) (rs.set i r') B:=by
 have hi:i<rs.length:=(List.getElem?_eq_some_iff.1 hr).1;rcases h with⟨h1,-⟩|⟨g',cap,h1,h2,h3,h4,h5⟩;·cases h1
 cases h1;have hz:x.heap.size<=(x.setCell ⟨g,i*11+j,none⟩ v).heap.size:=((Ex.refl g x).set (i*11+j) v).size;refine Or.inr ⟨g,c,by rw[List.length_set],h2,Nat.lt_of_lt_of_le h3 hz,?_,by rw[List.length_set];exact World.there_setCells h5 g (i*11+j) [v]⟩;intro k q hk t u hu;have ht:t<11:=(List.getElem?_eq_some_iff.1 hu).1;have hold:∀k' q' t' u',rs[k']?=some q'->q'.cells[t']?=some u'->(k'*11+t'≠i*11+j)->(x.setCell ⟨g,i*11+j,none⟩ v).cell? ⟨g,0+k'*11+t',none⟩=some u':=fun k' q' t' u' h6 h7 h8=>by rw[World.cell?_setCell_other _ _ _ _ (fun e=>h8 (by have:=congrArg Addr.off e;simp only at this;omega))];exact h4 k' q' h6 t' u' h7
 by_cases e:k=i
 ·
  subst e;rw[List.getElem?_set_self hi]at hk;cases hk;rw[hc]at hu;by_cases e2:t=j
  ·
   subst e2;rw[List.getElem?_set_self (by show t<11;omega)]at hu;cases hu;obtain⟨u0,hu0⟩:∃u0,r.cells[t]?=some u0:=⟨r.cells[t]'(by show t<11;omega),List.getElem?_eq_getElem _⟩
   have h9:=h4 k r hr t u0 hu0;rw[Nat.zero_add]at h9 ⊢;exact World.cell?_setCell_same _ _ _ h9
  rw[List.getElem?_set_ne (fun e'=>e2 e'.symm)]at hu;exact hold k r t u hr hu (by omega)
 rw[List.getElem?_set_ne (fun e'=>e e'.symm)]at hk;exact hold k q t u hk hu (by omega)
theorem Da.run{w:World}{kr bm B g n c:Nat}{m:aj}{s1 s3 s4:Value}{q:Int}{x:World}{i j:Nat}{r r':aw}{v:Value}(h:Da w kr bm B m s1 (.slice (some ⟨g,0,none⟩) n c) s3 s4 q x)(hr:m.rs[i]?=some r)(hc:r'.cells=r.cells.set j v)(hj:j<11):
  Da w kr bm B {m with rs:=m.rs.set i r'} s1 (.slice (some ⟨g,0,none⟩) n c) s3 s4 q (x.setCell ⟨g,i*11+j,none⟩ v):=
 h.yO ((Ex.refl g x).set (i*11+j) v) (Sl.put h.l.a2 hr hc hj)
theorem dI.oM{x:World}{m m':aj}{s1 s2 s3 s4:Value}{B:Nat}(h:dI x m s1 s2 s3 s4 B)(e1:m'.ws=m.ws)(e2:m'.rs=m.rs)(e3:m'.qs=m.qs)(e4:m'.gs=m.gs):dI x m' s1 s2 s3 s4 B:=
 ⟨by rw[e1];exact h.a1,by rw[e2];exact h.a2,by rw[e3];exact h.a3,by rw[e4];exact h.a4,h.gR,h.im,h.iq,h.iu,h.iV,h.jo⟩
theorem Fg{w w2:World}{kr B:Nat}{m:aj}{s1 s2 s3 s4:Value}{q:Int}(hd:w2.there w.heap.size 0 9)(ho:dI w2 m s1 s2 s3 s4 B)(hr:Rq w2 kr q)(he:Ex kr w w2)(hz:w.heap.size<w2.heap.size)(hB:w.heap.size<B)(hk:kr<w.heap.size):
  Da w kr w2.heap.size B m s1 s2 s3 s4 q (w2.alloc (.cells (bY m.nm m.up m.ck m.kn m.se s1 s2 s3 s4) 27)):=
 ⟨fun k=>by simp[go_sem],fun k=>by simp[go_sem],bd hd hz (ae bR _),ho.keep (ae bR _),⟨fun e=>by have:=(ho.a1.lt _ e).2;omega,fun e=>by have:=(ho.a2.lt _ e).2;omega,fun e=>by have:=(ho.a3.lt _ e).2;omega,fun e=>by have:=(ho.a4.lt _ e).2;omega⟩,hr.below (ae bR _),he.dh (ae bR _),by simp,hz,hB,hk⟩
def JF(p:bI)(v:Value):List Value:=(II p.k p.b p.s v p.h p.c p.t)
theorem wI{y:World}{u i n:Nat}{vs:List Value}{v:Value}(h:y.rangeAt u 0 vs)(ht:y.there u 0 n)(hi:i<n):(y.setCell ⟨u,i,none⟩ v).rangeAt u 0 (vs.set i v):=by
 obtain⟨⟨x1,k1⟩,-⟩:=eb ht i hi;intro a b hb;rw[Nat.zero_add];by_cases e:a=i
 ·
  subst e;have hl:a<vs.length:=by
   rcases Nat.lt_or_ge a vs.length with h'|h';·exact h'
   rw[List.getElem?_eq_none (by simpa using h')]at hb;cases hb
  rw[List.getElem?_set_self hl]at hb;cases hb;exact World.cell?_setCell_same _ _ _ k1
 rw[List.getElem?_set_ne (fun h=>e h.symm)]at hb;rw[World.cell?_setCell_other _ _ _ _ (fun h'=>e (by have:=congrArg Addr.off h';simpa using this.symm))];have:=h a b hb
 rwa [Nat.zero_add]at this
theorem exc{kr:Nat}{y y':World}(he:Ex kr y y')(b j:Nat)(hb:b<y.heap.size)(hn:b≠kr):y'.cell? ⟨b,j,none⟩=y.cell? ⟨b,j,none⟩:=he.cell (p:=⟨b,j,none⟩) hb hn
theorem NL{y y':World}(he:Below y.heap.size y y')(b j:Nat)(hb:b<y.heap.size):y'.cell? ⟨b,j,none⟩=y.cell? ⟨b,j,none⟩:=he.cell (p:=⟨b,j,none⟩) hb
theorem pf{p:bI}(hb:p.b.size<=1000)(hh:p.h.size<=1000)(hc:p.c.size<=1000)(hw:∀r∈p.ws,r.fits)(hl:p.ws.length<=1048576):p.fits:=⟨by unfold maxLen;omega,by unfold maxLen;omega,by unfold maxLen;omega,hw,hl⟩
structure Lp(w:World)(kr pb:Nat)(O:Array Value)(p:bI)(v:Value)(q:Int)(y:World):Prop where
 c:y.rangeAt pb 0 (JF p v)
 t:y.there pb 0 7
 b:y.there (w.heap.size+1) 0 7
 m:∀k,y.cell? ⟨w.heap.size,k,none⟩=O[k]?
 o:W.Ow y v p.ws (w.heap.size+2)
 nb:v.ownBlock≠some pb
 r:Rq y kr q
 e:Ex kr w y
 z:kr<w.heap.size/\w.heap.size+1<pb/\pb<y.heap.size
 f:p.fits
section
variable {w:World} {kr pb:Nat} {O:Array Value} {p p':bI} {v v':Value} {q q':Int} {y y':World}
theorem Lp.ex(h:Lp w kr pb O p v q y)(he:Ex kr y y')(hr:Rq y' kr q'):Lp w kr pb O p v q' y':=by obtain⟨z1,z2,z3⟩:=h.z;exact⟨iA h.c he z3 (by omega),bh h.t z3 he (by omega),bh h.b (by omega) he (by omega),fun k=>(he.cell (p:=⟨w.heap.size,k,none⟩) (by show w.heap.size<_;omega) (by show w.heap.size≠_;omega)).trans (h.m k),W.Ow.grown h.o (W.av he) (eV (fun k hk e=>by have h1:=(W.Ow.lt h.o k e).1;cases hk;omega)),h.nb,hr,h.e.trans he,⟨z1,z2,Nat.lt_of_lt_of_le z3 he.size⟩,h.f⟩
theorem Lp.below(h:Lp w kr pb O p v q y)(hb:Below y.heap.size y y'):Lp w kr pb O p v q y':=h.ex (Ex.of_below hb) (h.r.below hb)
theorem Lp.up(h:Lp w kr pb O p v q y)(hq:q<=q'):Lp w kr pb O p v q' y:=⟨h.c,h.t,h.b,h.m,h.o,h.nb,h.r.up hq,h.e,h.z,h.f⟩
theorem Lp.put(h:Lp w kr pb O p v q y)(j:Nat)(u:Value)(hj:j<7)(hc:JF p' v'=(JF p v).set j u)(ho:W.Ow y v' p'.ws (w.heap.size+2))(hn:v'.ownBlock≠some pb)(hf:p'.fits):Lp w kr pb O p' v' q (y.setCell ⟨pb,j,none⟩ u):=by obtain⟨z1,z2,z3⟩:=h.z;have he:Ex pb y (y.setCell ⟨pb,j,none⟩ u):=(Ex.refl _ _).set j u;exact⟨by rw[hc];exact wI h.c h.t hj,World.there_setCells h.t pb j [u],bh h.b (by omega) he (by omega),fun k=>(he.cell (p:=⟨w.heap.size,k,none⟩) (by show w.heap.size<_;omega) (by show w.heap.size≠_;omega)).trans (h.m k),W.Ow.grown ho (W.av he) (Or.inr hn),hn,h.r.grown (W.av he) (fun k hk=>by cases hk;omega),h.e.grown (W.av he) (fun k hk=>by cases hk;omega),⟨z1,z2,Nat.lt_of_lt_of_le z3 he.size⟩,hf⟩
theorem Lp.want{g n c:Nat}{r0:W.ay}{ws:List W.ay}(h:Lp w kr pb O p (.slice (some ⟨g,0,none⟩) n c) q y)(hw:p.ws=r0::ws)(r:W.ay)(hr:r.fits):Lp w kr pb O {p with ws:=r::ws} (.slice (some ⟨g,0,none⟩) n c) q (y.setCells g 0 r.cells):=by obtain⟨z1,z2,z3⟩:=h.z;have he:Ex g y (y.setCells g 0 r.cells):=(Ex.refl _ _).cells _ _;have hg:=W.Ow.lt h.o g rfl;have hn:g≠pb:=fun e=>h.nb (by rw[<-e];rfl);have ho:=h.o;rw[hw]at ho;have hf:=h.f;exact⟨iA h.c he z3 (by omega),bh h.t z3 he (by omega),bh h.b (by omega) he (by omega),fun k=>(he.cell (p:=⟨w.heap.size,k,none⟩) (by show w.heap.size<_;omega) (by show w.heap.size≠_;omega)).trans (h.m k),W.Ow.sI r ho,h.nb,h.r.grown (W.av he) (fun k hk=>by cases hk;omega),h.e.grown (W.av he) (fun k hk=>by cases hk;omega),⟨z1,z2,Nat.lt_of_lt_of_le z3 he.size⟩,⟨hf.b,hf.h,hf.c,fun x hx=>by rcases List.mem_cons.1 hx with rfl|hx;exact hr;exact hf.w x (by rw[hw];exact List.mem_cons_of_mem _ hx),by have:=hf.l;rw[hw]at this;exact this⟩⟩
end
theorem wJ(l m:List A.aC):A.aA (l++m)=A.aA l++A.aA m:=by simp[A.aA]
theorem A.Sl.Qt{w:World}{v:Value}{l:List A.aC}{B:Nat}(h:A.Sl w v l B):uF w v l.length (A.aA l):=by
 rcases h with⟨rfl,rfl⟩|⟨g,cap,rfl,-,h2,h3,-⟩;·exact⟨_,_,rfl,Or.inl ⟨rfl,rfl,rfl,rfl⟩⟩
 refine⟨_,_,rfl,Or.inr ⟨g,0,rfl,h2,fun j u hj=>?_⟩⟩;have:=A.cO h3 j u hj;simpa[Addr.add_mid]using this
theorem A.Ow.at{w:World}{v:Value}{l:List A.aC}{B k:Nat}{r:A.aC}(h:A.Ow w v l B)(hr:l[k]?=some r):∃g c,v=.slice (some ⟨g,0,none⟩) l.length c/\B<=g/\g<w.heap.size/\Bw w g (k*4) r.h r.c r.f r.t:=by
 rcases A.Ow.sl h with⟨-,e⟩|⟨g,cap,rfl,h1,h2,h3,-⟩;·rw[e]at hr;simp at hr
 have:=h3.at hr;simp only[Nat.zero_add]at this;exact⟨g,cap,rfl,h1,h2,this⟩
open Go.Maps Go.WideMaps
theorem AA(r:A.aC)(w:World):Sem.run prog (Instr.buildSlice 25 1 #[(0,.agg (cZ r.h r.c r.f r.t))]) w=.ok (.slice (some ⟨w.heap.size,0,none⟩) 1 1) (w.alloc (.cells r.cells.toArray 64)):=by kernel_rfl
theorem gi(l m:List A.aC):A.aA (l++m)=A.aA l++A.aA m:=by simp[A.aA]
theorem oc:∀(l:List A.aC)(k:Nat),(A.aA l).take (k*4)=A.aA (l.take k)
 |[],k=>by simp[A.aA]
 |r::l,0=>by simp[A.aA]
 |r::l,k+1=>by have ih:=oc l k;show(r.cells++A.aA l).take _=r.cells++A.aA (l.take k);rw[List.take_append,show(k+1)*4-r.cells.length=k*4 from by show(k+1)*4-4=_;omega,ih,List.take_of_length_le (by show 4<=_;omega)]
theorem kK:∀(l:List A.aC)(k:Nat),(A.aA l).drop (k*4)=A.aA (l.drop k)
 |[],k=>by simp[A.aA]
 |r::l,0=>by simp
 |r::l,k+1=>by have ih:=kK l k;show(r.cells++A.aA l).drop _=A.aA (l.drop k);rw[List.drop_append,show(k+1)*4-r.cells.length=k*4 from by show(k+1)*4-4=_;omega,ih,List.drop_of_length_le (by show 4<=_;omega),List.nil_append]
def EP(l:List A.aC)(h:ByteArray)(k:Nat):Prop:=∀(j:Nat) y,j<k->l[j]?=some y->bytesBefore (A.aM y) h.data.toList=true
theorem lD(x y:ByteArray):Op.bytesLess x.toList y.toList=bytesBefore x.data.toList y.data.toList:=by rw[Ord.dD,ByteArray.toList_eq,ByteArray.toList_eq]
def iK(l:List A.aC)(h:ByteArray)(k:Nat):List A.aC:=match l[k]? with|some y=>if A.aM y=h.data.toList then l.drop (k+1)else l.drop k|none=>[]
theorem sh{l:List A.aC}{r:A.aC}{k:Nat}(hk:k<=l.length)(h1:EP l r.h k)(h2:∀y,l[k]?=some y->bytesBefore (A.aM y) r.h.data.toList=false):Ord.cJ A.aM r l=l.take k++[r]++iK l r.h k:=by have:=Ord.n0 A.aM r l k hk h1 h2;rw[this,List.append_assoc];unfold iK;cases l[k]?<;>rfl
theorem xT(l:List A.aC)(h:ByteArray)(k:Nat):(iK l h k).length<=l.length:=by
 unfold iK;split
 ·split<;>(rw[List.length_drop];omega)
 exact Nat.zero_le _
def Dh(l:List A.aC)(h:ByteArray)(k:Nat):Bool:=match l[k]? with|some y=>y.h.toList==h.toList|none=>false
def lF(l:List A.aC)(h:ByteArray)(k:Nat):Bool:=match l[k]? with|some y=>Op.bytesLess y.h.toList h.toList|none=>false
theorem mY(a:Option Addr)(c B:Nat)(l:List A.aC)(r:A.aC)(w:World)(hO:A.Ow w (ai a l c) l B)(hl:l.length<=1000):
  Calls prog 85 #[.slice a l.length c,.agg (cZ r.h r.c r.f r.t)] w fun e w'=>(∃v,e=.returned v/\A.Ow w' v (Ord.cJ A.aM r l) w.heap.size)/\Below w.heap.size w w':=by
 have HB0:Hid (Below w.heap.size w (w.alloc (.cells (cZ r.h r.c r.f r.t) 64))):=ae bR _;have HO:Hid (A.Ow (w.alloc (.cells (cZ r.h r.c r.f r.t) 64)) (ai a l c) l B):=hO.keep HB0.out;have hcap:=(gd hO).1;clear hO;obtain⟨W0,hW0⟩:∃W0,W0=(w.alloc (.cells (cZ r.h r.c r.f r.t) 64)):=⟨_,rfl⟩
 have KB:Hid (∀y,Below W0.heap.size W0 y->(Er y w.heap.size r.h r.c r.f r.t)):=fun y hb=>by rw[hW0]at hb;have hk:=aJ hb;exact⟨by rw[hk 0];simp[go_sem],by rw[hk 1];simp[go_sem],by rw[hk 2];simp[go_sem],by rw[hk 3];simp[go_sem]⟩
 rw[<-hW0]at HB0 HO;have HW0:=ah hW0;clear hW0;go_enter func85,ntmps85
 go_wp2_with fail
 rw[<-HW0.out]
 go_loopw [5] (fun i wx=>∃(k:Nat),k<=l.length/\i=.int .i64 k/\Hid (EP l r.h k)/\Hid (Below W0.heap.size W0 wx)) (fun i _=>l.length-(intOf i).toNat)
 case atStart=>exact⟨0,Nat.zero_le _,rfl,(fun j y hj=>by omega),Below.refl _ _⟩
 case round=>
  obtain⟨k,hk,rfl,HL,HB⟩:=hrel;obtain⟨kb,-⟩:=KB.out wr HB.out
  go_upto_region 2 with(fail)
  go_cut [20] (fun v wx=>v=.bool (lF l r.h k)/\Hid (Below W0.heap.size W0 wx))
  case first=>
   by_cases hlt:k<l.length
   ·
    obtain⟨y,hy⟩:∃y,l[k]?=some y:=⟨l[k],List.getElem?_eq_getElem hlt⟩
    have HC:Hid (lF l r.h k=Op.bytesLess y.h.toList r.h.toList):=(by show _=_;unfold lF;rw[hy]);have i1:(k:Int)<(l.length:Int):=(by omega);rcases(HO.out.keep HB.out).sl with⟨-,h⟩|⟨g,cap,h,-,hg,hR,-⟩;·rw[h]at hlt;simp at hlt
    injection h with e1 e2 e3;subst e1 e3;obtain⟨c0,-⟩:=hR.at hy;rw[Nat.zero_add]at c0;clear hy hR;go_wp2_with fail
    go_quiet (fail)
    go_wp2_with fail
    go_meet
    exact⟨by rw[HC.out],eM HB.out⟩
   have e:k=l.length:=(by omega);subst e;have HC:Hid (lF l r.h l.length=false):=(by show _=_;unfold lF;rw[List.getElem?_eq_none (Nat.le_refl _)]);clear hlt;go_wp2_with fail
   go_quiet (fail)
   go_wp2_with fail
   go_meet
   exact⟨by rw[HC.out],eM HB.out⟩
  rename World=>W1
  obtain⟨rfl,HB1⟩:=hcut;have HK:=ah hk;cases hc:lF l r.h k
  ·
   have HG:Hid (∀y,l[k]?=some y->bytesBefore (A.aM y) r.h.data.toList=false):=fun y hy=>by have h:Op.bytesLess y.h.toList r.h.toList=false:=(by unfold lF at hc;rw[hy]at hc;exact hc);rw[lD]at h;exact h
   clear hc kb;obtain⟨nT,M9⟩:∃nT,nT=l.length-k:=⟨_,rfl⟩
   have hfr:=uz.sd a l.length c k hk;have hrs:=uz.Lr (HO.out.keep HB1.out) hk;obtain⟨aT,cT,hT⟩:∃aT cT,sliced a k l.length c 4=.slice aT nT cT:=⟨_,_,by rw[M9];rfl⟩
   rw[hT]at hfr hrs;rw[<-M9,kK]at hrs;have I2:=ah M9;have xU:=ah hrs;have Uo:Hid (nT<=cT):=(by show _<=_;unfold sliced at hT;injection hT with _ e2 e3;omega);clear hT M9 hrs
   go_upto_region 5 with(fail)
   clear hfr;go_cut [37] (fun v wx=>v=.bool (Dh l r.h k)/\Hid (Below W1.heap.size W1 wx))
   case first=>
    by_cases hlt:k<l.length
    ·
     obtain⟨y,hy⟩:∃y,l[k]?=some y:=⟨l[k],List.getElem?_eq_getElem hlt⟩
     have hdr:(l.drop k)=y::l.drop (k+1):=(by rw[List.drop_eq_getElem_cons hlt];congr 1;rw[List.getElem?_eq_getElem hlt]at hy;exact Option.some.inj hy);obtain⟨a',c',e',hor⟩:=xU.out;injection e' with e1 e2 e3;subst e1 e3;have hn0:0<nT:=(by have:=I2.out;omega);obtain⟨g,o,rfl,hg,hx⟩:=hor.resolve_left (fun h=>by omega);have c0:W1.cell? ⟨g,o,none⟩=some (.string y.h):=hx 0 _ (by rw[hdr];rfl);have HC:Hid (Dh l r.h k=(y.h.toList==r.h.toList)):=(by show _=_;unfold Dh;rw[hy]);obtain⟨kb,-⟩:=KB.out W1 HB1.out;have i0:(0:Int)<(nT:Int):=(by omega);clear hy hx hor hdr
     go_quiet (fail)
     go_wp2_with fail
     go_meet
     exact⟨by rw[HC.out],eM bR⟩
    have e0:nT=0:=(by have:=I2.out;omega);subst e0;have HC:Hid (Dh l r.h k=false):=(by show _=_;unfold Dh;rw[List.getElem?_eq_none (by omega)]);clear hlt
    go_quiet (fail)
    go_wp2_with fail
    go_meet
    exact⟨by rw[HC.out],eM bR⟩
   rename World=>wd
   obtain⟨rfl,HD⟩:=hcut
   go_upto_if 37 with(fail)
   go_cut [6] (fun v wx=>∃(aR:Option Addr)(nR cR:Nat),v=.slice aR nR cR/\Hid (uF wx (.slice aR nR cR) nR (A.aA (iK l r.h k)))/\Hid (nR=(iK l r.h k).length)/\Hid (Below wd.heap.size wd wx))
   case first=>
    cases hq:Dh l r.h k
    ·
     have HE:Hid (iK l r.h k=l.drop k):=by
      show _=_;unfold Dh at hq;unfold iK;cases hy:l[k]? with
      |none=>rw[List.drop_of_length_le (List.getElem?_eq_none_iff.1 hy)]
      |some y=>rw[hy]at hq;have hq:(y.h.toList==r.h.toList)=false:=hq;exact if_neg (fun e=>by rw[beq_eq_false_iff_ne,ByteArray.toList_eq,ByteArray.toList_eq]at hq;exact hq e)
     go_wp2_with fail
     go_meet
     exact⟨_,_,_,rfl,by show uF _ _ _ _;rw[HE.out];exact xU.out.keep HD.out,by show _=_;rw[HE.out,I2.out,List.length_drop],Below.refl _ _⟩
    have hkl:k<l.length:=by
     rcases Nat.lt_or_ge k l.length with h|h;·exact h
     unfold Dh at hq;rw[List.getElem?_eq_none h]at hq;cases hq
    have HE:Hid (iK l r.h k=l.drop (k+1)):=by
     show _=_;unfold Dh at hq;unfold iK;cases hy:l[k]? with
     |none=>rw[hy]at hq;cases hq
     |some y=>rw[hy]at hq;have hq:(y.h.toList==r.h.toList)=true:=hq;exact if_pos (by rw[beq_iff_eq,ByteArray.toList_eq,ByteArray.toList_eq]at hq;exact hq)
    have hn0:1<=nT:=(by have:=I2.out;omega);have hf1:∀wx,Sem.run prog (Instr.slice 25 (.slice aT nT cT) (some (.int .i64 1)) none none) wx=.ok (sliced aT 1 nT cT 4) wx:=uz.sd _ nT cT 1 hn0;have hr1:=xU.out.Lr (z:=4) (k:=1) Uo.out (by rw[A.aZ,List.length_drop,I2.out]) hn0;obtain⟨a1,n1,c1,h1⟩:∃a1 n1 c1,sliced aT 1 nT cT 4=.slice a1 n1 c1:=⟨_,_,_,rfl⟩
    have Rv:Hid (n1=nT-1):=(by show _=_;unfold sliced at h1;injection h1 with _ e2 _;exact e2.symm);rw[h1]at hf1 hr1;rw[<-Rv.out,kK,List.drop_drop]at hr1;have HR1:=ah hr1;clear h1 hr1;go_wp2_with fail
    go_meet
    exact⟨_,_,_,rfl,by show uF _ _ _ _;rw[HE.out];exact HR1.out.keep HD.out,by show _=_;rw[HE.out,Rv.out,I2.out,List.length_drop];omega,Below.refl _ _⟩
   obtain⟨aR,nR,cR,rfl,Rw,HN,HE⟩:=hcut
   rename World=>Wz
   have Di:Hid (Below W0.heap.size W0 Wz):=af HB1.out (af HD.out HE.out);have HR:=ah Rw.out;have KZ:Hid (∀y,Below Wz.heap.size Wz y->(Er y w.heap.size r.h r.c r.f r.t)):=fun y hb=>KB.out y (af Di.out hb);have HZ0:Hid (w.heap.size<=Wz.heap.size):=Nat.le_trans HB0.out.size Di.out.size;have GN:Hid (nR<=l.length):=(by show _<=_;rw[HN.out];exact xT _ _ _);have hkc:k<=c:=Nat.le_trans hk hcap;have hto:=uz.Ay a l.length c k hkc;have hrs:=uz.to (HO.out.keep Di.out) hk;obtain⟨aH,cH,hH⟩:∃aH cH,sliced a 0 k c 4=.slice aH k cH:=⟨_,_,rfl⟩
   rw[hH]at hto hrs;rw[oc]at hrs;have GQ:=ah hrs;clear hrs hH Rw
   go_upto_region 7 with(fail)
   refine wp_region_noPanic ?_;refine wp_region_held_drew (S:=fun y=>(Er y w.heap.size r.h r.c r.f r.t)) (by kernel_rfl) (KZ.out _ bD) (fun hHeld=>?_);refine aF 1 ?_;refine aF 2 ?_;try simp only[sp]
   refine aF 3 ?_;refine aF 5 ?_;try simp only[sp]
   refine aF 8 ?_;try simp only[sp]
   clear hto;refine wpAnyH_ready (rs:=[0,6]) (by kernel_rfl) (by simp) ?_;refine(AllReadyH.cons rfl (fun K hK=>?_) (AllReadyH.cons rfl (fun K hK=>?_) AllReadyH.nil))
   ·
    have nb0:=fS
    go_simp
    clear nb0;refine hK.out _ _ (KZ.out _ (ae bD _)) (fun hH1=>?_);clear hK K;try simp only[sp]
    have O1:Hid (((World.drew Wz).alloc (.cells #[] 64)).ownsRow Wz.heap.size 64 4 (.slice (some ⟨Wz.heap.size,0,none⟩) 0 0) 0 []):=(by exact World.ownsRow_made _ #[] 0 (Below.size bD) (Nat.zero_le _) rfl);refine wpAnyH_ready (rs:=[4,6]) (by kernel_rfl) (by simp) ?_;refine(AllReadyH.cons rfl (fun K hK=>?_) (AllReadyH.cons rfl (fun K hK=>?_) AllReadyH.nil))
    ·
     refine bF (by rfl) ?_;refine uz.app Wz.heap.size (.tmp 40) (.tmp 43) rfl (.slice (some ⟨Wz.heap.size,0,none⟩) 0 0) _ (0) (k) ([]) (A.aA (l.take k)) rfl O1.out (Below.size (ae bD _)) rfl (GQ.out.keep (ae bD _)) (by rw[A.aZ,List.length_take,Nat.min_eq_left HK.out]) (A.bw _) (by omega) ?_;intro s2 w2 o2 hg2 yW;have B2:Hid (Below Wz.heap.size Wz w2):=Below.grown (ae bD _) hg2 (Below.size (ae bD _)) (br O1.out);have O2:=ah o2;refine hK.out _ _ (KZ.out _ B2.out) (fun hH2=>?_);clear o2 hg2 yW;clear hK K;try simp only[sp]
     refine wpAnyH_ready (rs:=[6]) (by kernel_rfl) (by simp) ?_;refine(AllReadyH.cons rfl (fun K hK=>?_) AllReadyH.nil);have AB:=AA r
     go_simp
     clear AB;refine hK.out _ _ (KZ.out _ (ae B2.out _)) (fun hH3=>?_);clear hK K;try simp only[sp]
     have C3:Hid ((w2.alloc (.cells r.cells.toArray 64)).heap[w2.heap.size]?=some (.cells r.cells.toArray 64 (0,0))):=(by exact fy _ _);have O3:Hid ((w2.alloc (.cells r.cells.toArray 64)).ownsRow Wz.heap.size 64 4 s2 ((0)+(k)) (([])++(A.aA (l.take k)))):=aN O2.out (ae bR _);refine wpAnyH_ready (rs:=[7]) (by kernel_rfl) (by simp) ?_;refine(AllReadyH.cons rfl (fun K hK=>?_) AllReadyH.nil);refine bF (by rfl) ?_;refine uz.app Wz.heap.size (.tmp 44) (.tmp 46) rfl s2 _ ((0)+(k)) (1) (([])++(A.aA (l.take k))) (r.cells) rfl O3.out (Below.size (ae B2.out _)) rfl (jP (C:=r.cells.toArray) C3.out) (by rfl) (A.aU _) (by omega) ?_;intro s4 w4 o4 hg4 yX;have B4:Hid (Below Wz.heap.size Wz w4):=Below.grown (ae B2.out _) hg4 (Below.size (ae B2.out _)) (br O3.out);have O4:=ah o4;refine hK.out _ _ (KZ.out _ B4.out) (fun ME=>?_);clear o4 hg4 yX;clear hK K;try simp only[sp]
     refine wpAnyH_ready (rs:=[9]) (by kernel_rfl) (by simp) ?_;refine(AllReadyH.cons rfl (fun K hK=>?_) AllReadyH.nil);refine bF (by rfl) ?_;refine uz.app Wz.heap.size (.tmp 47) (.tmp 48) rfl s4 _ (((0)+(k))+(1)) (nR) ((([])++(A.aA (l.take k)))++(r.cells)) (A.aA (iK l r.h k)) rfl O4.out (Below.size B4.out) rfl (HR.out.keep B4.out) (by rw[A.aZ,HN.out]) (A.bw _) (by have:=GN.out;omega) ?_;intro s5 w5 o5 hg5 GR;have B5:Hid (Below Wz.heap.size Wz w5):=Below.grown B4.out hg5 (Below.size B4.out) (br O4.out);have O5:=ah o5;refine hK.out _ _ (KZ.out _ B5.out) (fun hH5=>?_);clear o5 hg5 GR;clear hK K;try simp only[sp]
     refine aF 10 ?_;try simp only[sp]
     refine wpAnyH_done (by kernel_rfl) ?_ _;refine NoPanic.normal ?_;go_wp2_with fail
     go_ret
     refine⟨⟨_,rfl,?_⟩,af HB0.out (af Di.out B5.out)⟩;have ho:=O5.out;show World.ownsRow _ _ _ _ _ _ _;rw[sh HK.out HL.out HG.out,List.length_append,List.length_append,List.length_take,Nat.min_eq_left HK.out,gi,gi,<-HN.out,show A.aA [r]=r.cells from by simp[A.aA]];exact oa (by simpa using ho) HZ0.out
    have AB:=AA r
    go_simp
    clear AB;refine hK.out _ _ (KZ.out _ (ae (ae bD _) _)) (fun hH6=>?_);clear hK K;try simp only[sp]
    have C6:Hid ((((World.drew Wz).alloc (.cells #[] 64)).alloc (.cells r.cells.toArray 64)).heap[Wz.heap.size+1]?=some (.cells r.cells.toArray 64 (0,0))):=(by show _=_;rw[show Wz.heap.size+1=((World.drew Wz).alloc (.cells #[] 64)).heap.size from by simp];exact fy _ _);have O6:Hid ((((World.drew Wz).alloc (.cells #[] 64)).alloc (.cells r.cells.toArray 64)).ownsRow Wz.heap.size 64 4 (.slice (some ⟨Wz.heap.size,0,none⟩) 0 0) (0) ([])):=aN O1.out (ae bR _);refine wpAnyH_ready (rs:=[4]) (by kernel_rfl) (by simp) ?_;refine(AllReadyH.cons rfl (fun K hK=>?_) AllReadyH.nil);refine bF (by rfl) ?_;refine uz.app Wz.heap.size (.tmp 40) (.tmp 43) rfl (.slice (some ⟨Wz.heap.size,0,none⟩) 0 0) _ (0) (k) ([]) (A.aA (l.take k)) rfl O6.out (Below.size (ae (ae bD _) _)) rfl (GQ.out.keep (ae (ae bD _) _)) (by rw[A.aZ,List.length_take,Nat.min_eq_left HK.out]) (A.bw _) (by omega) ?_;intro s7 w7 o7 GU GV;have B7:Hid (Below Wz.heap.size Wz w7):=Below.grown (ae (ae bD _) _) GU (Below.size (ae (ae bD _) _)) (br O6.out);have O7:=ah o7;have C7:Hid (w7.heap[Wz.heap.size+1]?=some (.cells r.cells.toArray 64 (0,0))):=(GU.block _ (Array.getElem?_eq_some_iff.1 C6.out).1 (by simp[Value.ownBlock])).trans C6.out;refine hK.out _ _ (KZ.out _ B7.out) (fun hH7=>?_);clear o7 GU GV;clear hK K;try simp only[sp]
    refine wpAnyH_ready (rs:=[7]) (by kernel_rfl) (by simp) ?_;refine(AllReadyH.cons rfl (fun K hK=>?_) AllReadyH.nil);refine bF (by rfl) ?_;refine uz.app Wz.heap.size (.tmp 44) (.tmp 46) rfl s7 _ ((0)+(k)) (1) (([])++(A.aA (l.take k))) (r.cells) rfl O7.out (Below.size B7.out) rfl (jP (C:=r.cells.toArray) C7.out) (by rfl) (A.aU _) (by omega) ?_;intro s8 w8 o8 Lt GX;have B8:Hid (Below Wz.heap.size Wz w8):=Below.grown B7.out Lt (Below.size B7.out) (br O7.out);have O8:=ah o8;refine hK.out _ _ (KZ.out _ B8.out) (fun Uq=>?_);clear o8 Lt GX;clear hK K;try simp only[sp]
    refine wpAnyH_ready (rs:=[9]) (by kernel_rfl) (by simp) ?_;refine(AllReadyH.cons rfl (fun K hK=>?_) AllReadyH.nil);refine bF (by rfl) ?_;refine uz.app Wz.heap.size (.tmp 47) (.tmp 48) rfl s8 _ (((0)+(k))+(1)) (nR) ((([])++(A.aA (l.take k)))++(r.cells)) (A.aA (iK l r.h k)) rfl O8.out (Below.size B8.out) rfl (HR.out.keep B8.out) (by rw[A.aZ,HN.out]) (A.bw _) (by have:=GN.out;omega) ?_;intro s9 w9 o9 lU GY;have B9:Hid (Below Wz.heap.size Wz w9):=Below.grown B8.out lU (Below.size B8.out) (br O8.out);have O9:=ah o9;refine hK.out _ _ (KZ.out _ B9.out) (fun FD=>?_);clear o9 lU GY;clear hK K;try simp only[sp]
    refine aF 10 ?_;try simp only[sp]
    refine wpAnyH_done (by kernel_rfl) ?_ _;refine NoPanic.normal ?_;go_wp2_with fail
    go_ret
    refine⟨⟨_,rfl,?_⟩,af HB0.out (af Di.out B9.out)⟩;have ho:=O9.out;show World.ownsRow _ _ _ _ _ _ _;rw[sh HK.out HL.out HG.out,List.length_append,List.length_append,List.length_take,Nat.min_eq_left HK.out,gi,gi,<-HN.out,show A.aA [r]=r.cells from by simp[A.aA]];exact oa (by simpa using ho) HZ0.out
   have AB:=AA r
   go_simp
   clear AB;refine hK.out _ _ (KZ.out _ (ae bD _)) (fun FE=>?_);clear hK K;try simp only[sp]
   have Pf:Hid (((World.drew Wz).alloc (.cells r.cells.toArray 64)).heap[Wz.heap.size]?=some (.cells r.cells.toArray 64 (0,0))):=(by exact fy _ _);refine wpAnyH_ready (rs:=[0]) (by kernel_rfl) (by simp) ?_;refine(AllReadyH.cons rfl (fun K hK=>?_) AllReadyH.nil);have nb0:=fS
   go_simp
   clear nb0;refine hK.out _ _ (KZ.out _ (ae (ae bD _) _)) (fun Pg=>?_);clear hK K;try simp only[sp]
   have Lu:Hid ((((World.drew Wz).alloc (.cells r.cells.toArray 64)).alloc (.cells #[] 64)).ownsRow Wz.heap.size 64 4 (.slice (some ⟨Wz.heap.size+1,0,none⟩) 0 0) 0 []):=(by rw[show Wz.heap.size+1=((World.drew Wz).alloc (.cells r.cells.toArray 64)).heap.size from by simp];exact World.ownsRow_made _ #[] 0 (Below.size (ae bD _)) (Nat.zero_le _) rfl);have Lw:Hid ((((World.drew Wz).alloc (.cells r.cells.toArray 64)).alloc (.cells #[] 64)).heap[Wz.heap.size]?=some (.cells r.cells.toArray 64 (0,0))):=pT Pf.out;refine wpAnyH_ready (rs:=[4]) (by kernel_rfl) (by simp) ?_;refine(AllReadyH.cons rfl (fun K hK=>?_) AllReadyH.nil);refine bF (by rfl) ?_;refine uz.app Wz.heap.size (.tmp 40) (.tmp 43) rfl (.slice (some ⟨Wz.heap.size+1,0,none⟩) 0 0) _ (0) (k) ([]) (A.aA (l.take k)) rfl Lu.out (Below.size (ae (ae bD _) _)) rfl (GQ.out.keep (ae (ae bD _) _)) (by rw[A.aZ,List.length_take,Nat.min_eq_left HK.out]) (A.bw _) (by omega) ?_;intro s12 Lx Ly vt AE;have AF:Hid (Below Wz.heap.size Wz Lx):=Below.grown (ae (ae bD _) _) vt (Below.size (ae (ae bD _) _)) (br Lu.out);have LA:=ah Ly;have I3:Hid (Lx.heap[Wz.heap.size]?=some (.cells r.cells.toArray 64 (0,0))):=(vt.block _ (Array.getElem?_eq_some_iff.1 Lw.out).1 (by simp[Value.ownBlock])).trans Lw.out;refine hK.out _ _ (KZ.out _ AF.out) (fun Ph=>?_);clear Ly vt AE;clear hK K;try simp only[sp]
   refine wpAnyH_ready (rs:=[7]) (by kernel_rfl) (by simp) ?_;refine(AllReadyH.cons rfl (fun K hK=>?_) AllReadyH.nil);refine bF (by rfl) ?_;refine uz.app Wz.heap.size (.tmp 44) (.tmp 46) rfl s12 _ ((0)+(k)) (1) (([])++(A.aA (l.take k))) (r.cells) rfl LA.out (Below.size AF.out) rfl (jP (C:=r.cells.toArray) I3.out) (by rfl) (A.aU _) (by omega) ?_;intro s13 yI LB AG AH;have xV:Hid (Below Wz.heap.size Wz yI):=Below.grown AF.out AG (Below.size AF.out) (br LA.out);have LC:=ah LB;refine hK.out _ _ (KZ.out _ xV.out) (fun Pj=>?_);clear LB AG AH;clear hK K;try simp only[sp]
   refine wpAnyH_ready (rs:=[9]) (by kernel_rfl) (by simp) ?_;refine(AllReadyH.cons rfl (fun K hK=>?_) AllReadyH.nil);refine bF (by rfl) ?_;refine uz.app Wz.heap.size (.tmp 47) (.tmp 48) rfl s13 _ (((0)+(k))+(1)) (nR) ((([])++(A.aA (l.take k)))++(r.cells)) (A.aA (iK l r.h k)) rfl LC.out (Below.size xV.out) rfl (HR.out.keep xV.out) (by rw[A.aZ,HN.out]) (A.bw _) (by have:=GN.out;omega) ?_;intro Rx Na LD AJ AK;have LG:Hid (Below Wz.heap.size Wz Na):=Below.grown xV.out AJ (Below.size xV.out) (br LC.out);have FA:=ah LD;refine hK.out _ _ (KZ.out _ LG.out) (fun Pk=>?_);clear LD AJ AK;clear hK K;try simp only[sp]
   refine aF 10 ?_;try simp only[sp]
   refine wpAnyH_done (by kernel_rfl) ?_ _;refine NoPanic.normal ?_;go_wp2_with fail
   go_ret
   refine⟨⟨_,rfl,?_⟩,af HB0.out (af Di.out LG.out)⟩;have ho:=FA.out;show World.ownsRow _ _ _ _ _ _ _;rw[sh HK.out HL.out HG.out,List.length_append,List.length_append,List.length_take,Nat.min_eq_left HK.out,gi,gi,<-HN.out,show A.aA [r]=r.cells from by simp[A.aA]];exact oa (by simpa using ho) HZ0.out
  have hlt:k<l.length:=by
   rcases Nat.lt_or_ge k l.length with h|h;·exact h
   unfold lF at hc;rw[List.getElem?_eq_none h]at hc;cases hc
  go_wp2_with fail
  refine⟨⟨k+1,by omega,by go_num,(fun j z hj hz=>?_),HB1.out⟩,by simp[intOf];omega⟩;by_cases e:j=k
  ·
   subst e;have h:Op.bytesLess z.h.toList r.h.toList=true:=(by unfold lF at hc;rw[hz]at hc;exact hc);rw[lD]at h;exact h
  exact HL.out j z (by omega) hz
set_option maxHeartbeats 2000000
theorem yR(m:aj)(p:bI)(x1 x2 x3 x4:Option Addr)(t1 t2 t3 t4 c1 c2 c3 c4:Nat)(d m1 m2 m3 m4:Nat)(x5:Option Addr)(n5:Nat)(w:World)(hD:ef w d #[.string m.nm,.bool m.up,.int .i64 m.ck,.bool m.kn,.int .i64 m.se,.slice x1 t1 c1,.slice x2 t2 c2,.slice x3 t3 c3,.slice x4 t4 c4,.map (some m1),.map (some m2),.map (some m3),.map (some m4)] m1 m2 m3 m4 m.ws m.rs m.qs m.gs)(e1:m1<m2)(e2:m2<m3)(e3:m3<m4)(e4:m4<d)(hp:p.fits)(s4:A.dx m.gs):
  Calls prog 58 #[.pointer (some ⟨d,0,none⟩),.agg (cw p.k p.b p.s (ai x5 p.ws n5) p.h p.c p.t)] w fun e w'=>e=.returned (.tuple #[])/\ef w' d #[.string m.nm,.bool m.up,.int .i64 m.ck,.bool m.kn,.int .i64 m.se,.slice x1 t1 c1,.slice x2 t2 c2,.slice x3 t3 c3,.slice x4 t4 c4,.map (some m1),.map (some m2),.map (some m3),.map (some m4)] m1 m2 m3 m4 m.ws m.rs m.qs (jY m.gs p.h p.t)/\Ex m4 w w':=by
 have HD:=ah hD;have Hb0:Hid (Below w.heap.size w (w.alloc (.cells (cw p.k p.b p.s (ai x5 p.ws n5) p.h p.c p.t) 43))):=ae bR _;have D0:=ah (hD.keep Hb0.out);have Et:=ah s4;have kc:=hD.c;have kf:=hD.f;have kl:=hD.l;have IP:=hp.h;clear hD hp s4;obtain⟨n4,o4⟩:=D0.out.o4;have O4:=ah o4;clear o4;have Fu:(∃a∈m.gs,a.h=p.h)\/(∀a∈m.gs,a.h≠p.h):=by
  by_cases h:∃a∈m.gs,a.h=p.h;·exact Or.inl h
  exact Or.inr (fun a ha e=>h ⟨a,ha,e⟩)
 rcases Fu with⟨a,ha,hah⟩|hno
 ·
  obtain⟨pk,pb,ps,pw,ph,pc,pt⟩:=p;simp only at *;subst hah;have Ha:=ah ha;clear ha;have KP:Hid (∀y,Below (w.alloc (.cells (cw pk pb ps (ai x5 pw n5) a.h pc pt) 43)).heap.size (w.alloc (.cells (cw pk pb ps (ai x5 pw n5) a.h pc pt) 43)) y->Below (w.alloc (.cells (cw pk pb ps (ai x5 pw n5) a.h pc pt) 43)).heap.size (w.alloc (.cells (cw pk pb ps (ai x5 pw n5) a.h pc pt) 43)) y/\(y.cell? ⟨d,12,none⟩=some (.map (some m4))/\y.cell? ⟨w.heap.size,4,none⟩=some (.string a.h)/\Sem.run prog (Instr.lookup 108 (.map (some m4)) (.string a.h) true) y=.ok (.tuple #[.agg (cZ a.h a.c a.f a.t),.bool true]) y)):=fun y hb=>by have Dy:=D0.out.keep hb;refine⟨hb,Dy.c 12,?_,A.fm m4 n4 m.gs (A.aS O4.out hb) Et.out a Ha.out IP⟩;rw[aJ hb 4];simp[go_sem]
  go_enter func58,ntmps58
  go_wp2_with fail
  refine wp_region_noPanic ?_;refine wp_region_held_drew (S:=(fun y=>Below (w.alloc (.cells (cw pk pb ps (ai x5 pw n5) a.h pc pt) 43)).heap.size (w.alloc (.cells (cw pk pb ps (ai x5 pw n5) a.h pc pt) 43)) y/\(y.cell? ⟨d,12,none⟩=some (.map (some m4))/\y.cell? ⟨w.heap.size,4,none⟩=some (.string a.h)/\Sem.run prog (Instr.lookup 108 (.map (some m4)) (.string a.h) true) y=.ok (.tuple #[.agg (cZ a.h a.c a.f a.t),.bool true]) y))) (by kernel_rfl) (KP.out _ bD) (fun hHeld=>?_);refine aF 0 ?_;try simp only[sp]
  refine aF 1 ?_;try simp only[sp]
  refine aF 2 ?_;try simp only[sp]
  refine aF 3 ?_;try simp only[sp]
  refine aF 4 ?_;try simp only[sp]
  refine aF 5 ?_;try simp only[sp]
  refine aF 6 ?_;try simp only[sp]
  refine aF 7 ?_;try simp only[sp]
  refine aF 8 ?_;try simp only[sp]
  refine aF 9 ?_;try simp only[sp]
  refine dJ 10 (by kernel_rfl) rfl fun K hK=>?_
  go_simp
  refine hK.out _ _ (KP.out _ (ae bD _)) (fun cq=>?_);clear hK K hHeld;try simp only[sp]
  refine dJ 11 (by kernel_rfl) rfl fun K hK=>?_
  go_simp
  refine hK.out _ _ (KP.out _ (au (ae bR _))) (fun ep=>?_);clear hK K cq;try simp only[sp]
  refine aF 12 ?_;try simp only[sp]
  refine wpAnyH_done (by kernel_rfl) ?_ _;refine NoPanic.normal ?_;clear ep;by_cases hat:a.t=pt
  ·
   have o5:(World.drew ((w.alloc (.cells (cw pk pb ps (ai x5 pw n5) a.h pc pt) 43)).alloc (.cells (cZ a.h a.c a.f a.t) 64))).ownsMap prog 9 A.RV m4 n4 (A.dec m.gs):=A.aS O4.out (au (ae bR _));have O5:=ah o5;clear o5;subst hat;have Qs:Below w.heap.size w (World.drew ((w.alloc (.cells (cw pk pb ps (ai x5 pw n5) a.h pc a.t) 43)).alloc (.cells (cZ a.h a.c a.f a.t) 64))):=(by repeat (first|exact bR|with_reducible refine au ?_|refine ae ?_ _))
   have JB:=ah Qs;clear Qs;have NJ:d≠m4:=(by omega);have NK:w.heap.size≠m4:=(by omega);have KR:Hid (∀y,Below (World.drew ((w.alloc (.cells (cw pk pb ps (ai x5 pw n5) a.h pc a.t) 43)).alloc (.cells (cZ a.h a.c a.f a.t) 64))).heap.size (World.drew ((w.alloc (.cells (cw pk pb ps (ai x5 pw n5) a.h pc a.t) 43)).alloc (.cells (cZ a.h a.c a.f a.t) 64))) y->(y.cell? ⟨d,12,none⟩=some (.map (some m4))/\y.cell? ⟨w.heap.size,4,none⟩=some (.string a.h))):=fun y hb=>by have Dy:=HD.out.keep (af JB.out hb);refine⟨Dy.c 12,?_⟩;rw[hb.cell (p:=⟨w.heap.size,4,none⟩) (by simp;omega)];simp[go_sem]
   go_wp2_with fail
   refine wp_region_noPanic ?_;refine wp_region_held_drew (S:=(fun y=>y.cell? ⟨d,12,none⟩=some (.map (some m4))/\y.cell? ⟨w.heap.size,4,none⟩=some (.string a.h))) (by kernel_rfl) (KR.out _ bD) (fun hHeld=>?_);refine aF 0 ?_;try simp only[sp]
   refine aF 1 ?_;try simp only[sp]
   refine aF 2 ?_;try simp only[sp]
   refine aF 3 ?_;try simp only[sp]
   refine aF 4 ?_;try simp only[sp]
   refine aF 5 ?_;try simp only[sp]
   have hms:=(A.aS O5.out bD).drop A.kV (t:=108) (e:=64) underlying108 (keyOf_string_mk underlying9 IP) 0;obtain⟨w5,Fv,JC,hg5⟩:=hms;refine dJ 6 (by kernel_rfl) rfl fun K hK=>?_
   go_simp
   have hS:=KR.out _ bD;refine hK.out _ _ ⟨hg5.grown.cell hS.1 (by simpa using NJ),hg5.grown.cell hS.2 (by simpa using NK)⟩ (fun cq=>?_);clear hK K hHeld hS;try simp only[sp]
   refine wpAnyH_done (by kernel_rfl) ?_ _;refine NoPanic.normal ?_;clear cq;have E5:Hid (Ex m4 w w5):=Ex.trans (Ex.of_below (af JB.out bD)) (Ex.iz hg5);have O6:Hid (w5.ownsMap prog 9 A.RV m4 n4 (A.dec (Ord.out A.aM a.h.data.toList m.gs))):=(by show World.ownsMap _ _ _ _ _ _ _;rw[<-show(A.dec m.gs).del (Lit.string a.h.data.toList)=A.dec (Ord.out A.aM a.h.data.toList m.gs) from Ord.qz A.aM _ _];exact JC);clear hg5 JC Fv;go_wp2
   exact bodyPost_end (v:=.tuple #[]) (by simp[results,results58,go_sem]) rfl ⟨rfl,by rw[pA ((kU Et.out Ha.out).2 rfl)];have h:=HD.out;obtain⟨q1,p1⟩:=h.o1;obtain⟨q2,p2⟩:=h.o2;obtain⟨q3,p3⟩:=h.o3;exact⟨fun k=>(E5.out.cell (p:=⟨d,k,none⟩) h.l (by show d≠m4;omega)).trans (h.c k),fun k=>(E5.out.frozen (p:=⟨d,k,none⟩) h.l (by show d≠m4;omega)).trans (h.f k),Nat.lt_of_lt_of_le h.l E5.out.size,⟨q1,cU p1 E5.out (by omega)⟩,⟨q2,cU p2 E5.out (by omega)⟩,⟨q3,cU p3 E5.out (by omega)⟩,⟨_,O6.out⟩⟩,E5.out⟩
  have hat':(a.t==pt)=false:=by simpa using hat
  have JD:=ah hat;clear hat;go_wp2_with fail
  exact bodyPost_end (v:=.tuple #[]) (by simp[results,results58,go_sem]) rfl ⟨rfl,by rw[kT (fun h=>JD.out ((kU Et.out Ha.out).1 h))];exact HD.out.keep (by repeat (first|exact bR|with_reducible refine au ?_|refine ae ?_ _)),Ex.of_below (by repeat (first|exact bR|with_reducible refine au ?_|refine ae ?_ _))⟩
 ·
  have Hno:=ah hno;clear hno;have KP:Hid (∀y,Below (w.alloc (.cells (cw p.k p.b p.s (ai x5 p.ws n5) p.h p.c p.t) 43)).heap.size (w.alloc (.cells (cw p.k p.b p.s (ai x5 p.ws n5) p.h p.c p.t) 43)) y->Below (w.alloc (.cells (cw p.k p.b p.s (ai x5 p.ws n5) p.h p.c p.t) 43)).heap.size (w.alloc (.cells (cw p.k p.b p.s (ai x5 p.ws n5) p.h p.c p.t) 43)) y/\(y.cell? ⟨d,12,none⟩=some (.map (some m4))/\y.cell? ⟨w.heap.size,4,none⟩=some (.string p.h)/\Sem.run prog (Instr.lookup 108 (.map (some m4)) (.string p.h) true) y=.ok (.tuple #[.agg (cZ ⟨#[]⟩ ⟨#[]⟩ 0 0),.bool false]) y)):=fun y hb=>by have Dy:=D0.out.keep hb;refine⟨hb,Dy.c 12,?_,A.gw m4 n4 m.gs (A.aS O4.out hb) Et.out p.h IP Hno.out⟩;rw[aJ hb 4];simp[go_sem]
  go_enter func58,ntmps58
  go_wp2_with fail
  refine wp_region_noPanic ?_;refine wp_region_held_drew (S:=(fun y=>Below (w.alloc (.cells (cw p.k p.b p.s (ai x5 p.ws n5) p.h p.c p.t) 43)).heap.size (w.alloc (.cells (cw p.k p.b p.s (ai x5 p.ws n5) p.h p.c p.t) 43)) y/\(y.cell? ⟨d,12,none⟩=some (.map (some m4))/\y.cell? ⟨w.heap.size,4,none⟩=some (.string p.h)/\Sem.run prog (Instr.lookup 108 (.map (some m4)) (.string p.h) true) y=.ok (.tuple #[.agg (cZ ⟨#[]⟩ ⟨#[]⟩ 0 0),.bool false]) y))) (by kernel_rfl) (KP.out _ bD) (fun hHeld=>?_);refine aF 0 ?_;try simp only[sp]
  refine aF 1 ?_;try simp only[sp]
  refine aF 2 ?_;try simp only[sp]
  refine aF 3 ?_;try simp only[sp]
  refine aF 4 ?_;try simp only[sp]
  refine aF 5 ?_;try simp only[sp]
  refine aF 6 ?_;try simp only[sp]
  refine aF 7 ?_;try simp only[sp]
  refine aF 8 ?_;try simp only[sp]
  refine aF 9 ?_;try simp only[sp]
  refine dJ 10 (by kernel_rfl) rfl fun K hK=>?_
  go_simp
  refine hK.out _ _ (KP.out _ (ae bD _)) (fun cq=>?_);clear hK K hHeld;try simp only[sp]
  refine dJ 11 (by kernel_rfl) rfl fun K hK=>?_
  go_simp
  refine hK.out _ _ (KP.out _ (au (ae bR _))) (fun ep=>?_);clear hK K cq;try simp only[sp]
  refine aF 12 ?_;try simp only[sp]
  refine wpAnyH_done (by kernel_rfl) ?_ _;refine NoPanic.normal ?_;clear ep;go_wp2_with fail
  exact bodyPost_end (v:=.tuple #[]) (by simp[results,results58,go_sem]) rfl ⟨rfl,by rw[kT (fun⟨a,ha,e,_⟩=>Hno.out a ha e)];exact HD.out.keep (by repeat (first|exact bR|with_reducible refine au ?_|refine ae ?_ _)),Ex.of_below (by repeat (first|exact bR|with_reducible refine au ?_|refine ae ?_ _))⟩
end Go.Proofs.YtlfnpjcjapljpaaGreatDoor
