import Derived.Test.YtlfnpjcjapljpaaGreatDoorJ17
import Derived.Test.YtlfnpjcjapljpaaGreatDoorJ18
import Derived.Test.YtlfnpjcjapljpaaGreatDoorJ19
namespace Go.Proofs.YtlfnpjcjapljpaaGreatDoor
open Go.Proofs.Tryz Go.RowKit
set_option maxRecDepth 4000
set_option maxHeartbeats 8000000
set_option linter.unusedVariables false
theorem fu(m:aj)(a1 a2 a3 a4:Option Addr)(n1 n2 n3 n4:Nat)(w:World)(hL:fO w m a1 a2 a3 a4)(hf:m.fits):
  Calls prog 9 #[.agg (bK m a1 a2 a3 a4 n1 n2 n3 n4)] w fun e w'=>(∃q:Bool,e=.returned (.bool q)/\tT q m)/\Below w.heap.size w w':=by
 have hb0:Below w.heap.size w (w.alloc (.cells (bK m a1 a2 a3 a4 n1 n2 n3 n4) 27)):=ae bR _;have L0:=hL.keep hb0;cases qn:cF m.nm
 ·
  go_enter func9,ntmps9
  go_wp2_with (first|(go_at_call 37;refine mr (aQ m.nm _ hf.n) ?_)|(go_at_call 28;refine mr (aI _ _ _ _) ?_))
  go_ret
  exact⟨⟨false,rfl,bV (fun h=>by have:=h.1;simp[cV,qn]at this)⟩,hb0⟩
 cases qc:cA m.ck 0 1000000
 ·
  go_enter func9,ntmps9
  go_wp2_with (first|(go_at_call 37;refine mr (aQ m.nm _ hf.n) ?_)|(go_at_call 28;refine mr (aI _ _ _ _) ?_))
  go_ret
  exact⟨⟨false,rfl,bV (fun h=>by have:=h.1;simp[cV,qc]at this)⟩,hb0⟩
 cases qs:cA m.se 0 1000000
 ·
  go_enter func9,ntmps9
  go_wp2_with (first|(go_at_call 37;refine mr (aQ m.nm _ hf.n) ?_)|(go_at_call 28;refine mr (aI _ _ _ _) ?_))
  go_ret
  exact⟨⟨false,rfl,bV (fun h=>by have:=h.1;simp[cV,qs]at this)⟩,hb0⟩
 have Hp:Hid (cV m=true):=by show cV m=true;simp[cV,qn,qc,qs]
 have HL:=ah L0;have Hb0:=ah hb0;clear L0 hb0;go_enter func9,ntmps9
 go_wp2_with (first|(go_at_call 37;refine mr (aQ m.nm _ hf.n) ?_)|(go_at_call 28;refine mr (aI _ _ _ _) ?_))
 refine(W.gy a1 _ m.ws _ HL.out.r1 hf.f1 hf.k1).mono ?_;rintro e w1 ⟨⟨q1,rfl,h1⟩,c1⟩;have H1:=ah h1;clear h1;have k1:=aJ c1;cases q1
 ·
  have C1:=ah (af Hb0.out c1);clear c1;go_wp2
  go_ret
  exact⟨⟨false,rfl,bV (fun h=>by have:=H1.out.2 h.2.1.1;cases this)⟩,C1.out⟩
 have G1:=ah (H1.out.1 rfl);clear H1;have L1:=HL.out.keep c1;have E8:=ah L1;have C1:=ah c1;clear c1 L1;by_cases hkn:m.kn=false/\0<m.ws.length
 ·
  obtain⟨g1,g2⟩:=hkn;have g3:(0:Int)<(m.ws.length:Int):=by omega
  go_wp2
  go_ret
  exact⟨⟨false,rfl,bV (fun h=>Mv g1 g2 h.2.1.2)⟩,af Hb0.out C1.out⟩
 have Hk:=ah (IB hkn);clear hkn;rcases Eh Hk.out with⟨hk,hw0⟩|hk
 ·
  go_wp2_with fail
  refine(kj a2 _ m.rs m.ck _ E8.out.r2 hf.f2 hf.k2).mono ?_;rintro e w2 ⟨⟨q2,rfl,h2⟩,c2⟩;have H2:=ah h2;have C2:=ah (af C1.out c2);have k2:=aJ C2.out;clear k1 h2 c2;cases q2
  ·
   go_wp2
   go_ret
   exact⟨⟨false,rfl,bV (fun h=>by have:=H2.out.2 h.2.2.1;cases this)⟩,af Hb0.out C2.out⟩
  have G2:=ah (H2.out.1 rfl);clear H2;have HL2:=ah (HL.out.keep C2.out);go_wp2_with fail
  refine(A.fD a3 _ m.qs m.ck _ HL2.out.r3 hf.f3 hf.k3).mono ?_;rintro e w3 ⟨⟨q3,rfl,h3⟩,c3⟩;have H3:=ah h3;have C3:=ah (af C2.out c3);have k3:=aJ C3.out;clear k2 h3 c3;cases q3
  ·
   go_wp2
   go_ret
   exact⟨⟨false,rfl,bV (fun h=>by have:=H3.out.2 h.2.2.2.1.1;cases this)⟩,af Hb0.out C3.out⟩
  have G3:=ah (H3.out.1 rfl);clear H3;have Mu:=ah (HL.out.keep C3.out);go_wp2_with fail
  refine(A.fD a4 _ m.gs m.ck _ Mu.out.r4 hf.f4 hf.k4).mono ?_;rintro e w4 ⟨⟨q4,rfl,h4⟩,c4⟩;have H4:=ah h4;have C4:=ah (af C3.out c4);have k4:=aJ C4.out;clear k3 h4 c4;cases q4
  ·
   go_wp2
   go_ret
   exact⟨⟨false,rfl,bV (fun h=>by have:=H4.out.2 h.2.2.2.1.2;cases this)⟩,af Hb0.out C4.out⟩
  have G4:=ah (H4.out.1 rfl);clear H4;have IA:=ah (HL.out.keep C4.out);have hk3:=hf.k3;have hk4:=hf.k4;go_wp2
  clear k4
  go_loopw [3] (fun i wx=>∃(k:Nat),k<=m.qs.length/\i=.int .i64 k/\Hid (∀j r,j<k->m.qs[j]?=some r->¬A.jt m.gs r.h)/\Hid (Below (w.alloc (.cells (bK m a1 a2 a3 a4 n1 n2 n3 n4) 27)).heap.size (w.alloc (.cells (bK m a1 a2 a3 a4 n1 n2 n3 n4) 27)) wx)) (fun i _=>m.qs.length-(intOf i).toNat)
  case atStart=>exact⟨0,Nat.zero_le _,rfl,fun j r hj _=>by omega,C4.out⟩
  obtain⟨k,hkk,rfl,Ha,HB⟩:=hrel;have kb:=aJ HB.out;by_cases hlt:k<m.qs.length
  ·
   obtain⟨r,hr⟩:∃r,m.qs[k]?=some r:=⟨m.qs[k],List.getElem?_eq_getElem hlt⟩
   have Hr:=ah hr;have Bl:=ah (HL.out.keep HB.out);obtain⟨b3,hb3,z3,Mi⟩:=Bl.out.r3.resolve_left (fun h=>by rw[h]at hlt;simp at hlt);subst hb3;obtain⟨c0,-⟩:=Mi.at hr;simp only[Nat.zero_add]at c0;clear hr;have i0:(0:Int)<=(k:Int):=(by omega);have i1:(k:Int)<(m.qs.length:Int):=(by omega);by_cases ha:0<=A.fj m.gs r.h
   ·
    go_wp2_with fail
    go_quiet (first|(go_at_call 41;refine Calls.quiet_of_same (A.cG a4 _ m.gs r.h _ Bl.out.r4 hf.k4)))
    go_wp2
    go_ret
    exact⟨⟨false,rfl,bV (fun h=>h.2.2.2.2.1 r (List.mem_of_getElem? Hr.out) ((A.jG _ _).1 ha))⟩,jT (af Hb0.out HB.out)⟩
   have ha':A.fj m.gs r.h<0:=(by omega);go_wp2_with fail
   go_quiet (first|(go_at_call 41;refine Calls.quiet_of_same (A.cG a4 _ m.gs r.h _ Bl.out.r4 hf.k4)))
   go_wp2
   exact⟨⟨k+1,by omega,by go_num,qo Ha.out Hr.out (fun h=>by have:=(A.jG _ _).2 h;omega),jT HB.out⟩,by simp[intOf];omega⟩
  have ek:k=m.qs.length:=by omega
  subst ek;have G5:=ah (t8 Ha.out);cases hu:m.up
  ·
   have hk2:=hf.k2;go_wp2
   clear kb
   go_loopw [4] (fun i wx=>∃(k:Nat),k<=m.rs.length/\i=.int .i64 k/\Hid (∀j r,j<k->m.rs[j]?=some r->dL r=true)/\Hid (Below (w.alloc (.cells (bK m a1 a2 a3 a4 n1 n2 n3 n4) 27)).heap.size (w.alloc (.cells (bK m a1 a2 a3 a4 n1 n2 n3 n4) 27)) wx)) (fun i _=>m.rs.length-(intOf i).toNat)
   case atStart=>exact⟨0,Nat.zero_le _,rfl,fun j r hj _=>by omega,HB.out⟩
   clear HB Ha;obtain⟨k,hkk,rfl,Ha,HB⟩:=hrel;have kb:=aJ HB.out;have lb:w.heap.size<wr.heap.size:=(by have:=HB.out.size;simp at this;omega);by_cases hlt:k<m.rs.length
   ·
    obtain⟨r,hr⟩:∃r,m.rs[k]?=some r:=⟨m.rs[k],List.getElem?_eq_getElem hlt⟩
    have Hr:=ah hr;have Bl:=ah (HL.out.keep HB.out);obtain⟨b2,hb2,bz,hR2⟩:=Bl.out.r2.resolve_left (fun h=>by rw[h]at hlt;simp at hlt);subst hb2;obtain⟨c0,c1,c2,c3,c4,c5,c6,c7,c8,c9,c10⟩:=hR2.at hr;simp only[Nat.zero_add]at c0 c1 c2 c3 c4 c5 c6 c7 c8 c9 c10;clear hr;have i0:(0:Int)<=(k:Int):=(by omega);have i1:(k:Int)<(m.rs.length:Int):=(by omega);cases hal:bq r.a
    ·
     cases he:r.h.toList.isEmpty
     ·
      go_wp2_with (go_at_call 42;refine mr (aE r.c r.h r.v r.p r.s r.d r.g r.a r.b r.i r.u _) ?_)
      exact⟨⟨k+1,by omega,by go_num,jS Ha.out Hr.out (by simp[dL,hal,he]),(by repeat (first|exact HB.out|refine ae ?_ _))⟩,by simp[intOf];omega⟩
     go_wp2_with (go_at_call 42;refine mr (aE r.c r.h r.v r.p r.s r.d r.g r.a r.b r.i r.u _) ?_)
     go_ret
     exact⟨⟨false,rfl,bV (fun h=>wA Hr.out (by simp[dL,hal,he]) h hu)⟩,af Hb0.out (by repeat (first|exact HB.out|refine ae ?_ _))⟩
    go_wp2_with (go_at_call 42;refine mr (aE r.c r.h r.v r.p r.s r.d r.g r.a r.b r.i r.u _) ?_)
    exact⟨⟨k+1,by omega,by go_num,jS Ha.out Hr.out (by simp[dL,hal]),(by repeat (first|exact HB.out|refine ae ?_ _))⟩,by simp[intOf];omega⟩
   have ek:k=m.rs.length:=(by omega);subst ek;have G6:=ah (t9 Ha.out);go_wp2
   go_ret
   exact⟨⟨false,rfl,bV (fun h=>by have:=(lN h hu).1;rw[hk]at this;cases this)⟩,af Hb0.out HB.out⟩
  go_wp2
  go_ret
  exact⟨⟨true,rfl,⟨fun _=>⟨Hp.out,⟨G1.out,Hk.out⟩,G2.out,⟨G3.out,G4.out⟩,G5.out,Or.inl hu⟩,fun _=>rfl⟩⟩,af Hb0.out HB.out⟩
 ·
  go_wp2_with fail
  refine(kj a2 _ m.rs m.ck _ E8.out.r2 hf.f2 hf.k2).mono ?_;rintro e w2 ⟨⟨q2,rfl,h2⟩,c2⟩;have H2:=ah h2;have C2:=ah (af C1.out c2);have k2:=aJ C2.out;clear k1 h2 c2;cases q2
  ·
   go_wp2
   go_ret
   exact⟨⟨false,rfl,bV (fun h=>by have:=H2.out.2 h.2.2.1;cases this)⟩,af Hb0.out C2.out⟩
  have G2:=ah (H2.out.1 rfl);clear H2;have HL2:=ah (HL.out.keep C2.out);go_wp2_with fail
  refine(A.fD a3 _ m.qs m.ck _ HL2.out.r3 hf.f3 hf.k3).mono ?_;rintro e w3 ⟨⟨q3,rfl,h3⟩,c3⟩;have H3:=ah h3;have C3:=ah (af C2.out c3);have k3:=aJ C3.out;clear k2 h3 c3;cases q3
  ·
   go_wp2
   go_ret
   exact⟨⟨false,rfl,bV (fun h=>by have:=H3.out.2 h.2.2.2.1.1;cases this)⟩,af Hb0.out C3.out⟩
  have G3:=ah (H3.out.1 rfl);clear H3;have Mu:=ah (HL.out.keep C3.out);go_wp2_with fail
  refine(A.fD a4 _ m.gs m.ck _ Mu.out.r4 hf.f4 hf.k4).mono ?_;rintro e w4 ⟨⟨q4,rfl,h4⟩,c4⟩;have H4:=ah h4;have C4:=ah (af C3.out c4);have k4:=aJ C4.out;clear k3 h4 c4;cases q4
  ·
   go_wp2
   go_ret
   exact⟨⟨false,rfl,bV (fun h=>by have:=H4.out.2 h.2.2.2.1.2;cases this)⟩,af Hb0.out C4.out⟩
  have G4:=ah (H4.out.1 rfl);clear H4;have IA:=ah (HL.out.keep C4.out);have hk3:=hf.k3;have hk4:=hf.k4;go_wp2
  clear k4
  go_loopw [3] (fun i wx=>∃(k:Nat),k<=m.qs.length/\i=.int .i64 k/\Hid (∀j r,j<k->m.qs[j]?=some r->¬A.jt m.gs r.h)/\Hid (Below (w.alloc (.cells (bK m a1 a2 a3 a4 n1 n2 n3 n4) 27)).heap.size (w.alloc (.cells (bK m a1 a2 a3 a4 n1 n2 n3 n4) 27)) wx)) (fun i _=>m.qs.length-(intOf i).toNat)
  case atStart=>exact⟨0,Nat.zero_le _,rfl,fun j r hj _=>by omega,C4.out⟩
  obtain⟨k,hkk,rfl,Ha,HB⟩:=hrel;have kb:=aJ HB.out;by_cases hlt:k<m.qs.length
  ·
   obtain⟨r,hr⟩:∃r,m.qs[k]?=some r:=⟨m.qs[k],List.getElem?_eq_getElem hlt⟩
   have Hr:=ah hr;have Bl:=ah (HL.out.keep HB.out);obtain⟨b3,hb3,z3,Mi⟩:=Bl.out.r3.resolve_left (fun h=>by rw[h]at hlt;simp at hlt);subst hb3;obtain⟨c0,-⟩:=Mi.at hr;simp only[Nat.zero_add]at c0;clear hr;have i0:(0:Int)<=(k:Int):=(by omega);have i1:(k:Int)<(m.qs.length:Int):=(by omega);by_cases ha:0<=A.fj m.gs r.h
   ·
    go_wp2_with fail
    go_quiet (first|(go_at_call 41;refine Calls.quiet_of_same (A.cG a4 _ m.gs r.h _ Bl.out.r4 hf.k4)))
    go_wp2
    go_ret
    exact⟨⟨false,rfl,bV (fun h=>h.2.2.2.2.1 r (List.mem_of_getElem? Hr.out) ((A.jG _ _).1 ha))⟩,jT (af Hb0.out HB.out)⟩
   have ha':A.fj m.gs r.h<0:=(by omega);go_wp2_with fail
   go_quiet (first|(go_at_call 41;refine Calls.quiet_of_same (A.cG a4 _ m.gs r.h _ Bl.out.r4 hf.k4)))
   go_wp2
   exact⟨⟨k+1,by omega,by go_num,qo Ha.out Hr.out (fun h=>by have:=(A.jG _ _).2 h;omega),jT HB.out⟩,by simp[intOf];omega⟩
  have ek:k=m.qs.length:=by omega
  subst ek;have G5:=ah (t8 Ha.out);cases hu:m.up
  ·
   have hk2:=hf.k2;go_wp2
   clear kb
   go_loopw [4] (fun i wx=>∃(k:Nat),k<=m.rs.length/\i=.int .i64 k/\Hid (∀j r,j<k->m.rs[j]?=some r->dL r=true)/\Hid (Below (w.alloc (.cells (bK m a1 a2 a3 a4 n1 n2 n3 n4) 27)).heap.size (w.alloc (.cells (bK m a1 a2 a3 a4 n1 n2 n3 n4) 27)) wx)) (fun i _=>m.rs.length-(intOf i).toNat)
   case atStart=>exact⟨0,Nat.zero_le _,rfl,fun j r hj _=>by omega,HB.out⟩
   clear HB Ha;obtain⟨k,hkk,rfl,Ha,HB⟩:=hrel;have kb:=aJ HB.out;have lb:w.heap.size<wr.heap.size:=(by have:=HB.out.size;simp at this;omega);by_cases hlt:k<m.rs.length
   ·
    obtain⟨r,hr⟩:∃r,m.rs[k]?=some r:=⟨m.rs[k],List.getElem?_eq_getElem hlt⟩
    have Hr:=ah hr;have Bl:=ah (HL.out.keep HB.out);obtain⟨b2,hb2,bz,hR2⟩:=Bl.out.r2.resolve_left (fun h=>by rw[h]at hlt;simp at hlt);subst hb2;obtain⟨c0,c1,c2,c3,c4,c5,c6,c7,c8,c9,c10⟩:=hR2.at hr;simp only[Nat.zero_add]at c0 c1 c2 c3 c4 c5 c6 c7 c8 c9 c10;clear hr;have i0:(0:Int)<=(k:Int):=(by omega);have i1:(k:Int)<(m.rs.length:Int):=(by omega);cases hal:bq r.a
    ·
     cases he:r.h.toList.isEmpty
     ·
      go_wp2_with (go_at_call 42;refine mr (aE r.c r.h r.v r.p r.s r.d r.g r.a r.b r.i r.u _) ?_)
      exact⟨⟨k+1,by omega,by go_num,jS Ha.out Hr.out (by simp[dL,hal,he]),(by repeat (first|exact HB.out|refine ae ?_ _))⟩,by simp[intOf];omega⟩
     go_wp2_with (go_at_call 42;refine mr (aE r.c r.h r.v r.p r.s r.d r.g r.a r.b r.i r.u _) ?_)
     go_ret
     exact⟨⟨false,rfl,bV (fun h=>wA Hr.out (by simp[dL,hal,he]) h hu)⟩,af Hb0.out (by repeat (first|exact HB.out|refine ae ?_ _))⟩
    go_wp2_with (go_at_call 42;refine mr (aE r.c r.h r.v r.p r.s r.d r.g r.a r.b r.i r.u _) ?_)
    exact⟨⟨k+1,by omega,by go_num,jS Ha.out Hr.out (by simp[dL,hal]),(by repeat (first|exact HB.out|refine ae ?_ _))⟩,by simp[intOf];omega⟩
   have ek:k=m.rs.length:=(by omega);subst ek;have G6:=ah (t9 Ha.out);cases hkn:m.kn
   ·
    by_cases hse:m.se=0
    ·
     by_cases hln:m.qs.length+m.gs.length=0
     ·
      have hl1:m.qs.length=0:=(by omega);have hl2:m.gs.length=0:=(by omega);have hs':(m.se==0)=true:=(by simp[hse]);have Hz:Hid (jO m):=⟨hkn,hse,Bj Hk.out hkn hln,G6.out⟩
      have HV:Hid (Valid m):=⟨Hp.out,⟨G1.out,Hk.out⟩,G2.out,⟨G3.out,G4.out⟩,G5.out,Or.inr Hz.out⟩
      clear hse hln;go_wp2
      go_ret
      exact⟨⟨true,rfl,⟨fun _=>HV.out,fun _=>rfl⟩⟩,af Hb0.out HB.out⟩
     have hl1:((m.qs.length:Int)+(m.gs.length:Int)==0)=false:=beq_false_of_ne (by omega);have Vq:=ah hln;clear hln;go_wp2
     go_ret
     exact⟨⟨false,rfl,bV (fun h=>Vq.out (by have:=(lN h hu).2.2.1;omega))⟩,af Hb0.out HB.out⟩
    have hs':(m.se==0)=false:=(by simp[hse]);have Mt:=ah hse;clear hse;go_wp2
    go_ret
    exact⟨⟨false,rfl,bV (fun h=>Mt.out (lN h hu).2.1)⟩,af Hb0.out HB.out⟩
   go_wp2
   go_ret
   exact⟨⟨false,rfl,bV (fun h=>by have:=(lN h hu).1;rw[hkn]at this;cases this)⟩,af Hb0.out HB.out⟩
  go_wp2
  go_ret
  exact⟨⟨true,rfl,⟨fun _=>⟨Hp.out,⟨G1.out,Hk.out⟩,G2.out,⟨G3.out,G4.out⟩,G5.out,Or.inl hu⟩,fun _=>rfl⟩⟩,af Hb0.out HB.out⟩
set_option maxHeartbeats 1000000
theorem ua(c h:ByteArray)(v p s d g a b i u clock:Int)(w:World):
  Calls prog 67 #[.agg (aL c v h p s d g a b i u),.int .i64 clock] w fun e w'=>e=.returned (if bq a=true/\bj h u clock=false then .agg (aL c v h p s d g 2 0 i u)else .agg (aL c v h p s d g a b i u))/\Below w.heap.size w w':=by
 cases hal:bq a
 ·
  rw[if_neg (fun h=>by cases h.1)];go_enter func67,ntmps67
  go_wp2_with (first|(go_at_call 50;refine mr (aV a _) ?_)|(go_at_call 109;refine mr (cC c h v p s d g a b i u clock _) ?_)|(go_at_call 110;refine mr (fJ c h v p s d g a b i u _) ?_))
  exact bodyPost_ret (v:=.agg (aL c v h p s d g a b i u)) (by simp[results,results67,go_sem]) rfl ⟨rfl,by repeat (first|exact bR|refine ae ?_ _)⟩
 ·
  cases hle:bj h u clock
  ·
   rw[if_pos ⟨rfl,rfl⟩];go_enter func67,ntmps67
   go_wp2_with (first|(go_at_call 50;refine mr (aV a _) ?_)|(go_at_call 109;refine mr (cC c h v p s d g a b i u clock _) ?_)|(go_at_call 110;refine mr (fJ c h v p s d g a b i u _) ?_))
   exact bodyPost_ret (v:=.agg (aL c v h p s d g 2 0 i u)) (by simp[results,results67,go_sem]) rfl ⟨rfl,by repeat (first|exact bR|refine ae ?_ _)⟩
  rw[if_neg (fun h=>by cases h.2)];go_enter func67,ntmps67
  go_wp2_with (first|(go_at_call 50;refine mr (aV a _) ?_)|(go_at_call 109;refine mr (cC c h v p s d g a b i u clock _) ?_)|(go_at_call 110;refine mr (fJ c h v p s d g a b i u _) ?_))
  exact bodyPost_ret (v:=.agg (aL c v h p s d g a b i u)) (by simp[results,results67,go_sem]) rfl ⟨rfl,by repeat (first|exact bR|refine ae ?_ _)⟩
theorem ub(r t:aw)(clock:Int)(ht:bN clock r=t)(w:World):
  Calls prog 67 #[.agg (aL r.c r.v r.h r.p r.s r.d r.g r.a r.b r.i r.u),.int .i64 clock] w fun e w'=>e=.returned (.agg (aL t.c t.v t.h t.p t.s t.d t.g t.a t.b t.i t.u))/\Below w.heap.size w w':=by
 subst ht;refine(ua r.c r.h r.v r.p r.s r.d r.g r.a r.b r.i r.u clock w).mono ?_;rintro e w' ⟨rfl,hb⟩;refine⟨?_,hb⟩;unfold bN;split<;>rfl
theorem yk(b off cap:Nat)(rs:List aw)(clock:Int)(w:World)(hR:aG w b off rs)(hb:b<w.heap.size)(hl:rs.length<=1048576):
  Calls prog 22 #[.slice (some ⟨b,off,none⟩) rs.length cap,.int .i64 clock] w fun e w'=>e=.returned (.slice (some ⟨w.heap.size,0,none⟩) rs.length rs.length)/\aG w' w.heap.size 0 (rs.map (bN clock))/\w'.there w.heap.size 0 (rs.length*11)/\w.heap.size<w'.heap.size/\Below w.heap.size w w':=by
 obtain⟨C,hC,hmk⟩:=lV rs.length hl;have hinfo:(prog.info? 39).map (·.size)=some 11:=by kernel_rfl
 go_enter func22,ntmps22
 go_wp2
 go_loopw [13] (fun i wx=>∃(k:Nat),k<=rs.length/\i=.int .i64 k/\aG wx w.heap.size 0 ((rs.map (bN clock)).take k)/\wx.there w.heap.size 0 (rs.length*11)/\w.heap.size<wx.heap.size/\Below w.heap.size w wx) (fun i _=>rs.length-(intOf i).toNat)
 case atStart=>exact⟨0,Nat.zero_le _,rfl,fun k r h=>by simp at h,pL hC,by simp,ae bR _⟩
 case round=>
  obtain⟨k,hk,rfl,hrows,hth,hgz,hB⟩:=hrel;clear hmk;by_cases hlt:k<rs.length
  ·
   obtain⟨r,hr⟩:∃r,rs[k]?=some r:=⟨rs[k],List.getElem?_eq_getElem hlt⟩
   obtain⟨c0,c1,c2,c3,c4,c5,c6,c7,c8,c9,c10⟩:=(hR.keep hb hB).at hr;obtain⟨t,ht⟩:∃t,bN clock r=t:=⟨_,rfl⟩
   have Hr:Hid ((rs.map (bN clock))[k]?=some t):=(by show _=_;rw[List.getElem?_map,hr,<-ht];rfl);have Ht:=ah ht;clear hr ht;go_wp2_with (first|(go_at_call 66;refine mr (bA r.c r.h r.v r.p r.s r.d r.g r.a r.b r.i r.u _) ?_))
   refine(ub r t clock Ht.out _).mono ?_;rintro e w0 ⟨rfl,hb0⟩;have hb1:Below wr.heap.size wr w0:=af (by repeat (first|exact bR|refine ae ?_ _)) hb0;clear hb0 c0 c1 c2 c3 c4 c5 c6 c7 c8 c9 c10;go_wp2_with fail
   refine(bT t.c t.h t.v t.p t.s t.d t.g t.a t.b t.i t.u _).mono ?_;rintro e w1 ⟨rfl,hw1⟩;have hb2:Below wr.heap.size wr w1:=(by rw[hw1];exact ae (ae hb1 _) _);clear hw1 hb1;have uY:=nC hth hgz hb2;have uZ:=hrows.keep hgz hb2;have hB1:=af hB hb2;have Gm:w.heap.size<w1.heap.size:=Nat.lt_of_lt_of_le hgz hb2.size;clear hth hrows hB hb2;go_wp2_with (refine wpList_store_mid (by rfl) 39 _ _ (by rfl) w.heap.size (k*11) (aL t.c t.v t.h t.p t.s t.d t.g t.a t.b t.i t.u) (by rfl) (by rfl) (by exact jb uY hlt) hinfo (by simp[Value.oneCell']) ?_)
   exact⟨⟨k+1,by omega,by go_num,pM Hr.out uZ (jb uY hlt),World.there_setCells uY _ _ _,by rw[ev];exact Gm,cL (Nat.le_refl _) _ _ _ hB1⟩,by simp[intOf];omega⟩
  go_wp2
  go_ret
  have e:(rs.map (bN clock)).take k=rs.map (bN clock):=List.take_of_length_le (by rw[List.length_map];omega);rw[e]at hrows;exact⟨rfl,hrows,hth,hgz,hB⟩
def Fa(Z:Nat)(y y':World):Prop:=Off (fun j=>j<Z) y y'
theorem Fa.ex{Z kr:Nat}{y y':World}(h:Ex kr y y')(hk:kr<Z):Fa Z y y':=⟨h.os,h.tape,h.output,h.size,fun b h1 h2=>h.block b h1 (by omega)⟩
def Tx(n:Nat)(v:Value):Prop:=∃x:ByteArray,v=.string x/\x.size<=n
def Nm(a b:Int)(v:Value):Prop:=∃z:Int,v=.int .i64 z/\a<=z/\z<=b
def wQ(T:TypeId)(Pv:Value->Prop)(Z n:Nat)(y:World)(v:Value):Prop:=∃g,v=.slice (some ⟨g,0,none⟩) n n/\Z<=g/\(∃cur ro,y.heap[g]?=some (.cells cur T ro))/\∀j,j<n->∃u,y.cell? ⟨g,j,none⟩=some u/\Pv u
def Gh(T:TypeId)(Pv:Value->Prop)(Z:Nat)(y:World)(v:Value):Prop:=∃g j,v=.pointer (some ⟨g,j,none⟩)/\Z<=g/\(∃cur ro,y.heap[g]?=some (.cells cur T ro))/\∃u,y.cell? ⟨g,j,none⟩=some u/\Pv u
def Fx(T:TypeId)(Z:Nat)(y y':World):Prop:=∃X,Z<=X/\(∃cur ro,y.heap[X]?=some (.cells cur T ro))/\Ex X y y'/\∃m,y.cell? ⟨X,0,none⟩=some (.int .i64 m)
def Fb(T:TypeId)(Z:Nat)(y y':World):Prop:=Fa Z y y'\/Fx T Z y y'
theorem vW{y:World}{g:Nat}{c:Obj}(h:y.heap[g]?=some c):g<y.heap.size:=by
 rcases Nat.lt_or_ge g y.heap.size with h'|h';·exact h'
 rw[Array.getElem?_eq_none h']at h;cases h
theorem Fb.block{T T':TypeId}{Z g:Nat}{y y':World}(h:Fb T' Z y y')(hg:Z<=g)(hT:T≠T')(ht:∃cur ro,y.heap[g]?=some (.cells cur T ro)):y'.heap[g]?=y.heap[g]?:=by
 obtain⟨cur,ro,ht⟩:=ht;rcases h with h|⟨X,-,⟨cur',ro',h2⟩,h3,-⟩;·exact h.block g (vW ht) (by omega)
 refine h3.block g (vW ht) (fun e=>hT ?_);rw[e,h2]at ht;cases ht;rfl
theorem wQ.keep{T T':TypeId}{Pv:Value->Prop}{Z n:Nat}{y y':World}{v:Value}(h:wQ T Pv Z n y v)(hT:T≠T')(hF:Fb T' Z y y'):wQ T Pv Z n y' v:=by obtain⟨g,h1,h2,h3,h4⟩:=h;have hb:=hF.block h2 hT h3;exact⟨g,h1,h2,by rw[hb];exact h3,fun j hj=>by obtain⟨u,h5,h6⟩:=h4 j hj;exact⟨u,(World.cell?_of_block (w:=y) (a:=⟨g,j,none⟩) hb).trans h5,h6⟩⟩
theorem Gh.keep{T T':TypeId}{Pv:Value->Prop}{Z:Nat}{y y':World}{v:Value}(h:Gh T Pv Z y v)(hT:T≠T')(hF:Fb T' Z y y'):Gh T Pv Z y' v:=by obtain⟨g,j,h1,h2,h3,u,h5,h6⟩:=h;have hb:=hF.block h2 hT h3;exact⟨g,j,h1,h2,by rw[hb];exact h3,u,(World.cell?_of_block (w:=y) (a:=⟨g,j,none⟩) hb).trans h5,h6⟩
theorem jv{o:Oper}{d:Nat}(hd:o.dst=some d)(x:Act)(v:Value):x.put o.dst v=⟨x.tmps.setIfInBounds d v,x.defers⟩:=by rw[hd];rfl
theorem QX{o:Oper}{d:Nat}(hd:o.dst=some d){a:Act}{w:World}{K:Act->World->Prop}{Q:Exit->Act->World->Prop}{s r g n j:Nat}(ho:o.op=.indexAddr 87 (.tmp s) (.tmp r))(e1:a.tmps[s]?.getD undef=.slice (some ⟨g,0,none⟩) n n)(e2:a.tmps[r]?.getD undef=.int .i64 (j:Int))(hj:j<n)(h:K (a.put o.dst (.pointer (some ⟨g,j,none⟩))) w):o.wp prog a w K Q:=by
 have i1:(j:Int)<(n:Int):=by omega
 have i0:(0:Int)<=(j:Int):=by omega
 rw[jv hd]at h;have H:=ah h;clear h
 go_simp
 exact H.out
theorem Kz{o:Oper}{d:Nat}(hd:o.dst=some d){a:Act}{w:World}{K:Act->World->Prop}{Q:Exit->Act->World->Prop}{s r g n j:Nat}(ho:o.op=.indexAddr 51 (.tmp s) (.tmp r))(e1:a.tmps[s]?.getD undef=.slice (some ⟨g,0,none⟩) n n)(e2:a.tmps[r]?.getD undef=.int .i64 (j:Int))(hj:j<n)(h:K (a.put o.dst (.pointer (some ⟨g,j,none⟩))) w):o.wp prog a w K Q:=by
 have i1:(j:Int)<(n:Int):=by omega
 have i0:(0:Int)<=(j:Int):=by omega
 rw[jv hd]at h;have H:=ah h;clear h
 go_simp
 exact H.out
structure Nx(kr:Nat)(q:Int)(ops:Array Oper)(D:Nat->(Nat->Bool)->World->Prop)(i:Nat):Prop where
 rd:∀c S y,Gk ops i S->D c S y->Rq y kr (q+200*c)
 ex:∀c S y y' (m:Int),Gk ops i S->D c S y->Rq y' kr (q+200*c+m)->m<=200->Ex kr y y'->D (c+1) (sset S i) y'
theorem wR(w:World)(o:Obj):(w.alloc o).heap[w.heap.size]?=some o:=by show(w.heap.push o)[w.heap.size]?=some o;simp
def QY(m:Nat):Value->Bool
 |.string x=>decide (x.size<=m)
 |_=>false
def QZ(a b:Int):Value->Bool
 |.int .i64 z=>decide (a<=z)&&decide (z<=b)
 |_=>false
theorem Q7{C:Array Value}{n m:Nat}(h:(decide (C.size=n)&&C.all (QY m))=true):∀j,j<n->∃u,C[j]?=some u/\Tx m u:=by
 intro j hj;simp only[Bool.and_eq_true,decide_eq_true_eq]at h;obtain⟨h1,h2⟩:=h;have hj':j<C.size:=by omega
 refine⟨C[j],Array.getElem?_eq_getElem hj',?_⟩;have h3:=Array.all_eq_true.1 h2 j hj';unfold QY at h3;split at h3
 ·rename_i x hx;exact⟨x,hx,of_decide_eq_true h3⟩
 cases h3
theorem Kt{C:Array Value}{n:Nat}{a b:Int}(h:(decide (C.size=n)&&C.all (QZ a b))=true):∀j,j<n->∃u,C[j]?=some u/\Nm a b u:=by
 intro j hj;simp only[Bool.and_eq_true,decide_eq_true_eq]at h;obtain⟨h1,h2⟩:=h;have hj':j<C.size:=by omega
 refine⟨C[j],Array.getElem?_eq_getElem hj',?_⟩;have h3:=Array.all_eq_true.1 h2 j hj';unfold QZ at h3;split at h3
 ·
  rename_i z hz;simp only[Bool.and_eq_true,decide_eq_true_eq]at h3;exact⟨z,hz,h3⟩
 cases h3
theorem Gj{a b:Int}{n:Nat}{v:Value}(h:Nm a b v)(h0:0<=a)(h1:b<n):∃m:Nat,v=.int .i64 (m:Int)/\m<n:=by obtain⟨z,rfl,h2,h3⟩:=h;obtain⟨m,rfl⟩:=Int.eq_ofNat_of_zero_le (Int.le_trans h0 h2);exact⟨m,rfl,by omega⟩
section
variable {Q:Exit->Act->World->Prop} {L:List Nat} {ops:Array Oper} {a0:Act} {G:World->(Nat->Value)->Nat->Prop} {D:Nat->(Nat->Bool)->World->Prop} {F:Nat->World->World->Prop} {i d j:Nat} {o:Oper}
theorem mT{V:Nat->Value}{v:Value}:vr ops (qI V i v) i i=v:=by unfold vr qI;simp
theorem uW{V:Nat->Value}:vr ops V j j=V j:=by unfold vr;simp
theorem Ku(hD:∀c S y,D c S y->D (c+1) (sset S i) y)(hR:∀y,F i y y){s:Nat}{u:Value}(ho:ops[i]?=some o)(hg:o.guard=none)(hd:o.dst=some d)(hop:o.op=.move (.tmp s))(hs:mH L s=true)(hu:a0.tmps.getD s undef=u)(hG:∀y V,V i=u->G y V i):Ct prog Q L ops a0 G D F i:=
 Ks hD hR ho hg hd (fun x y c S yy g oo dd K hK=>by
  have e:x.tmps[s]?.getD undef=u:=ak ((oo.out s hs).trans hu);have H:=ah hK;clear hK g oo dd yy
  go_simp
  have h9:=H.out _ (hG _ _ mT);rw[jv hd]at h9;exact h9)
theorem Gi{kr s:Nat}{q:Int}(nx:Nx kr q ops D i)(k:Int)(hk1:1<=k)(hk2:k<=1000000)(hq:q+200*L.length<1000000){T:Array TypeId}(j:Nat)(ho:ops[i]?=some o)(hg:o.guard=none)(hd:o.dst=some d)
  (hop:o.op=.call {callee:=.value (.func 18),args:=#[.tmp s,.const (.int .i64 k)],argTypes:=T}) (hw:waits .any ops i j=true) (hs:jU L j=s) (hj:∀y V,G y V j->V j=.pointer (some ⟨kr,0,none⟩))
  (hF:∀y y',Ex kr y y'->F i y y') (hG:∀y V,Nm 0 (k-1) (V i)->G y V i):Ct prog Q L ops a0 G D F i:=
 ct ho hg hd (fun x y c S hc yy g oo dd K hK=>by
  have e1:x.tmps[s]?.getD undef=.pointer (some ⟨kr,0,none⟩):=ak (by have h:=hj _ _ (g.out j hw);rw[uW]at h;unfold vals at h;rw[hs]at h;exact h);have H:=ah hK;have HD:=ah dd;have HY:=ah yy;have hcc:(c:Int)<(L.length:Int):=by omega
  clear hK g oo dd yy
  go_simp
  refine(bO kr _ k y (nx.rd c S y HY.out HD.out) (by omega) hk1 hk2).mono ?_;rintro e y' ⟨m,rfl,m0,m1,r,ex⟩;have h9:=H.out _ _ (hG _ _ (by rw[mT];exact⟨m,rfl,m0,by omega⟩)) (nx.ex c S y y' 1 HY.out HD.out r (by omega) ex) (hF _ _ ex);rw[jv hd]at h9;exact h9)
theorem Kv(hD:∀c S y,D c S y->D (c+1) (sset S i) y)(hR:∀y,F i y y){Z n s r:Nat}{T:TypeId}{Pv:Value->Prop}(j k:Nat)(ho:ops[i]?=some o)(hg:o.guard=none)(hd:o.dst=some d)(hop:o.op=.indexAddr 51 (.tmp s) (.tmp r))(hw:waits .any ops i j=true)(hs:jU L j=s)(hw2:waits .any ops i k=true)(hs2:jU L k=r)
  (hj:∀y V,G y V j->wQ T Pv Z n y (V j)) (hk:∀y V,G y V k->∃m:Nat,V k=.int .i64 (m:Int)/\m<n) (hG:∀y V,Gh T Pv Z y (V i)->G y V i):Ct prog Q L ops a0 G D F i:=
 Ks hD hR ho hg hd (fun x y c S yy g oo dd K hK=>by obtain⟨gb,e1,h1,h2,h3⟩:=hj _ _ (g.out j hw);obtain⟨m,e2,hm⟩:=hk _ _ (g.out k hw2);rw[uW]at e1 e2;unfold vals at e1 e2;rw[hs]at e1;rw[hs2]at e2;exact Kz hd hop (ak e1) (ak e2) hm (hK.out _ (hG _ _ (by rw[mT];obtain⟨u,h4,h5⟩:=h3 m hm;exact⟨gb,m,rfl,h1,h2,u,h4,h5⟩))))
theorem Kw(hD:∀c S y,D c S y->D (c+1) (sset S i) y)(hR:∀y,F i y y){Z s:Nat}{T:TypeId}{a b:Int}(j:Nat)(ho:ops[i]?=some o)(hg:o.guard=none)(hd:o.dst=some d)(hop:o.op=.load 3 (.tmp s))(hw:waits .any ops i j=true)(hs:jU L j=s)
  (hj:∀y V,G y V j->Gh T (Nm a b) Z y (V j)) (hG:∀y V,Nm a b (V i)->G y V i):Ct prog Q L ops a0 G D F i:=
 Ks hD hR ho hg hd (fun x y c S yy g oo dd K hK=>by
  obtain⟨gb,m,e1,h1,h2,u,h4,t,rfl,ht⟩:=hj _ _ (g.out j hw);rw[uW]at e1;unfold vals at e1;rw[hs]at e1;have e:x.tmps[s]?.getD undef=.pointer (some ⟨gb,m,none⟩):=ak e1;have H:=ah hK;clear hK g oo dd e1 yy
  go_simp
  have h9:=H.out _ (hG _ _ (by rw[mT];exact⟨t,rfl,ht⟩));rw[jv hd]at h9;exact h9)
end
theorem EH(a:Option Addr)(n cap:Nat)(zs:List Int)(w:World)(h:ie w a n zs)(hn:n<=1048576)(hcap:n<=cap):
  Calls prog 16 #[.slice a n cap] w fun e w'=>e=.returned (.pointer (some ⟨w.heap.size,0,none⟩))/\Rq w' w.heap.size 0/\Below w.heap.size w w':=by
 by_cases h2:2000<n
 ·
  rcases h with hz|⟨b,off,rfl,hb,hc⟩;·omega
  have hr:=ze (w:=w) (cap:=cap) (m:=2000) (Or.inr ⟨b,off,rfl,hb,hc⟩) (by omega) (by omega);have i1:(2000:Int)<=(cap:Int):=by omega
  have Hr:=ah hr;clear hr hc;go_enter func16,ntmps16
  go_wp2
  go_ret
  exact⟨rfl,⟨_,_,_,_,_,Hr.out,Int.le_refl _,Or.inr ⟨b,off,rfl,hb⟩⟩,ae bR _⟩
 ·
  have hr:=ze (w:=w) (cap:=cap) (m:=n) h (by omega) (by omega);have Hr:=ah hr;have HZ:=ah h;clear hr h;go_enter func16,ntmps16
  go_wp2
  go_ret
  refine⟨rfl,⟨_,_,_,_,_,Hr.out,Int.le_refl _,?_⟩,ae bR _⟩;rcases HZ.out with hz|⟨b,off,h1,hb,-⟩;·exact Or.inl hz
  exact Or.inr ⟨b,off,h1,hb⟩
theorem ie.I0{w w':World}{a:Option Addr}{n:Nat}{zs:List Int}(h:ie w a n zs)(hb:Below w.heap.size w w'):ie w' a n zs:=by
 rcases h with h|⟨b,off,ha,hbb,hc⟩;·exact Or.inl h
 exact Or.inr ⟨b,off,ha,Nat.lt_of_lt_of_le hbb hb.size,fun i hi=>⟨(hb.cell (p:=⟨b,off+i,none⟩) hbb).trans (hc i hi).1,(hc i hi).2⟩⟩
end Go.Proofs.YtlfnpjcjapljpaaGreatDoor
