import Derived.Test.YtcjhlhijdacinaaGreatDoorJ12
import Derived.Test.YtcjhlhijdacinaaGreatDoorJ17
namespace Go.Proofs.YtcjhlhijdacinaaGreatDoor
open Go.RowKit Go.Maps Go.WideMaps
set_option linter.unusedVariables false
set_option maxRecDepth 4000 in
set_option maxHeartbeats 2000000 in
theorem l6Grant_any (t:Int) (gs:List G.GrantD) (a1 a2:Option Addr) (c1 n2 c2:Nat) (h:ByteArray) (w:World) (hG:G.GvG w a1 gs) (hl:gs.length≤1048576) :
  Calls Tryz.prog 20 #[.agg #[.int .i64 t,.slice a1 gs.length c1,.slice a2 n2 c2],.string h] w fun e w'=>(∃ n:Int,e=.returned (.int .i64 n)∧((∃ (k:Nat) (g:G.GrantD),n=(k:Int)∧gs[k]?=some g∧g.h=h)∨(n=-1∧∀ g∈gs,g.h≠h)))∧Below w.heap.size w w':=by
 obtain ⟨W0,hW0⟩:∃ W0,W0=w.alloc (.cells #[.int .i64 t,.slice a1 gs.length c1,.slice a2 n2 c2] 26):=⟨_,rfl⟩
 have HW0:=hidP hW0
 have B0:Hid (Below w.heap.size w W0):=by rw [hW0]; exact bl_alloc bR _
 obtain ⟨xb,hxb⟩:∃ xb,xb=w.heap.size:=⟨_,rfl⟩
 have HXB:=hidP hxb
 have kx:W0.cell? ⟨xb,1,none⟩=some (.slice a1 gs.length c1):=by rw [hW0,hxb]; simp [go_sem]
 have HG:=hidP (hG.keep B0.out)
 clear hG hW0
 go_enter Tryz.func20,Tryz.ntmps20
 go_wp2_with fail
 rw [← HW0.out,← hxb]
 clear hxb
 go_loopw [5] (fun i wx=>∃ (k:Nat),k≤gs.length∧i=.int .i64 (k:Int)∧wx=W0∧Hid (∀ (j:Nat) g,j < k→gs[j]?=some g→(g.h.toList == h.toList)=false)) (fun i _=>gs.length - (intOf i).toNat)
 case atStart=>exact ⟨0,Nat.zero_le _,rfl,rfl,fun j g hj=>absurd hj (by omega)⟩
 case round =>
  obtain ⟨k,hk,rfl,hwx,Ha⟩:=hrel
  have hwx2:=hwx.symm
  subst hwx2
  clear hwx
  by_cases hlt:k < gs.length
  ·
   have hki:(k:Int) < (gs.length:Int):=by omega
   have hk0:(0:Int)≤(k:Int):=by omega
   obtain ⟨g,hg⟩:∃ g,gs[k]?=some g:=⟨gs[k],List.getElem?_eq_getElem hlt⟩
   obtain ⟨bg,rfl,hbg,hrow⟩:∃ b,a1=some ⟨b,0,none⟩∧b < W0.heap.size∧G.RowsAt W0 b 0 gs:=by
    rcases HG.out with h | h
    · rw [h] at hlt; cases hlt
    exact h
   obtain ⟨r0,r1,r2,r3,r4⟩:=hrow.at hg
   simp only [Nat.zero_add] at r0 r1 r2 r3 r4
   have HGK:=hidP hg
   clear hg hrow r1 r2 r3 r4
   cases hc:(g.h.toList == h.toList)
   ·
    go_wp2
    refine ⟨⟨k+1,by omega,by go_num,by first | rfl | trivial,fun j r hj hr=>?_⟩,by simp [intOf]; omega⟩
    by_cases e:j=k
    ·
     subst e
     rw [HGK.out] at hr
     cases hr
     exact hc
    exact Ha.out j r (by omega) hr
   go_wp2
   go_ret
   exact ⟨⟨k,rfl,Or.inl ⟨k,g,rfl,HGK.out,eqT_iff.1 hc⟩⟩,B0.out⟩
  have hki:¬ (k:Int) < (gs.length:Int):=by omega
  go_wp2
  go_ret
  refine ⟨⟨-1,rfl,Or.inr ⟨rfl,fun g hg e=>?_⟩⟩,B0.out⟩
  obtain ⟨j,hj⟩:=List.getElem?_of_mem hg
  have hjl:=(List.getElem?_eq_some_iff.1 hj).1
  have h9:eqT g.h h=false:=Ha.out j g (by omega) hj
  rw [eqT_iff.2 e] at h9
  cases h9
set_option maxRecDepth 4000 in
set_option maxHeartbeats 4000000 in
theorem l6Wants_any (t:Int) (p:TakeP) (ps:List P.PlaceD) (a1 a2:Option Addr) (n1 c1 c2:Nat) (w:World) (hP:P.GvP w a2 ps) (hsrc:∀ q∈ps,W.Src w q.a q.c q.ws) (hl:ps.length≤1048576) (hln:∀ q∈ps,q.ws.length≤1048576) :
  Calls Tryz.prog 52 #[.agg #[.int .i64 t,.slice a1 n1 c1,.slice a2 ps.length c2],.string p.b,.string p.c,.string p.h] w fun e w'=>e=.returned (.bool (wantedL p ps))∧Below w.heap.size w w':=by
 obtain ⟨W0,hW0⟩:∃ W0,W0=w.alloc (.cells #[.int .i64 t,.slice a1 n1 c1,.slice a2 ps.length c2] 26):=⟨_,rfl⟩
 have HW0:=hidP hW0
 have B0:Hid (Below w.heap.size w W0):=by rw [hW0]; exact bl_alloc bR _
 obtain ⟨xb,hxb⟩:∃ xb,xb=w.heap.size:=⟨_,rfl⟩
 have ZX:Hid (xb < W0.heap.size):=by rw [hW0,hxb]; show _ < _; simp
 have KX0:Hid (W0.cell? ⟨xb,2,none⟩=some (.slice a2 ps.length c2)):=by rw [hW0,hxb]; show _=_; simp [go_sem]
 have KX:Hid (∀ y,Below W0.heap.size W0 y→y.cell? ⟨xb,2,none⟩=some (.slice a2 ps.length c2)):=fun y hy=>(hy.cell (p:=⟨xb,2,none⟩) ZX.out).trans KX0.out
 have HP:Hid (∀ y,Below W0.heap.size W0 y→P.GvP y a2 ps):=fun y hy=>hP.keep (bl_trans B0.out hy)
 have HS:Hid (∀ y,Below W0.heap.size W0 y→∀ q∈ps,W.Src y q.a q.c q.ws):=fun y hy q hq=>(hsrc q hq).keep (bl_trans B0.out hy)
 have HLN:=hidP hln
 clear hP hsrc hW0 hln
 go_enter Tryz.func52,Tryz.ntmps52
 go_wp2_with fail
 rw [← HW0.out,← hxb]
 have HXB:=hidP hxb
 clear hxb
 go_loopw [9] (fun i wx=>∃ (k:Nat),k≤ps.length∧i=.int .i64 (k:Int)∧Hid (∀ (j:Nat) q,j < k→ps[j]?=some q→(eqT q.b p.b && wantedW p q.ws)=false)∧Hid (Below W0.heap.size W0 wx)) (fun i _=>ps.length - (intOf i).toNat)
 case atStart=>exact ⟨0,Nat.zero_le _,rfl,fun j g hj=>absurd hj (by omega),Below.refl _ _⟩
 case round =>
  obtain ⟨k,hk,rfl,Ha,HB⟩:=hrel
  have kx:=KX.out wr HB.out
  by_cases hlt:k < ps.length
  ·
   have hki:(k:Int) < (ps.length:Int):=by omega
   have hk0:(0:Int)≤(k:Int):=by omega
   obtain ⟨q,hq⟩:∃ q,ps[k]?=some q:=⟨ps[k],List.getElem?_eq_getElem hlt⟩
   have HQ:=hidP hq
   obtain ⟨bp,rfl,hbp⟩:∃ b,a2=some ⟨b,0,none⟩∧b < wr.heap.size:=by
    rcases HP.out wr HB.out with h | ⟨b,h1,h2,-⟩
    · rw [h] at hlt; cases hlt
    exact ⟨b,h1,h2⟩
   have HROW:Hid (∀ y,Below W0.heap.size W0 y→y.cell? ⟨bp,k * 3,none⟩=some (.string q.b)∧y.cell? ⟨bp,k * 3+2,none⟩=some (.slice q.a q.ws.length q.c)):=by
    intro y hy
    rcases HP.out y hy with h | ⟨b,h1,h2,h3⟩
    · rw [h] at hlt; cases hlt
    have e:bp=b:=by simpa using h1
    subst e
    obtain ⟨r0,r1,r2⟩:=h3.at hq
    simp only [Nat.zero_add] at r0 r1 r2
    exact ⟨r0,r2⟩
   have HWS:Hid (∀ y,Below W0.heap.size W0 y→W.Src y q.a q.c q.ws):=fun y hy=>HS.out y hy q (List.mem_of_getElem? hq)
   have hwl:q.ws.length≤1048576:=HLN.out q (List.mem_of_getElem? hq)
   clear hq
   go_wp2_with fail
   go_loopw [10] (fun i wx=>∃ (m:Nat),m≤q.ws.length∧i=.int .i64 (m:Int)∧Hid (∀ (j:Nat) r,j < m→q.ws[j]?=some r→(eqT q.b p.b && askW p r)=false)∧Hid (Below W0.heap.size W0 wx)) (fun i _=>q.ws.length - (intOf i).toNat)
   case atStart=>exact ⟨0,Nat.zero_le _,rfl,fun j g hj=>absurd hj (by omega),HB.out⟩
   obtain ⟨m,hm,rfl,Hb,HB2⟩:=hrel
   have kx2:=KX.out _ HB2.out
   obtain ⟨r0,r2⟩:=HROW.out _ HB2.out
   by_cases hlt2:m < q.ws.length
   ·
    have hmi:(m:Int) < (q.ws.length:Int):=by omega
    have hm0:(0:Int)≤(m:Int):=by omega
    obtain ⟨r,hr⟩:∃ r,q.ws[m]?=some r:=⟨q.ws[m],List.getElem?_eq_getElem hlt2⟩
    have HR:=hidP hr
    obtain ⟨bw,hbw,hbw2,hrow⟩:∃ b,q.a=some ⟨b,0,none⟩∧b < _∧W.RowsAt _ b 0 q.ws:=by
     rcases HWS.out _ HB2.out with ⟨-,-,h⟩ | h
     · rw [h] at hlt2; cases hlt2
     exact h
    rw [hbw] at r2
    obtain ⟨d0,d1,d2,d3,d4,d5,d6⟩:=hrow.at hr
    simp only [Nat.zero_add] at d0 d1 d2 d3 d4 d5 d6
    clear hr hrow hbw
    have HBX:Hid (Below W0.heap.size W0 (wr.alloc (.cells #[.string r.c,.int .i64 r.v,.string r.h,.int .i64 r.p,.int .i64 r.s,.int .i64 r.d,.int .i64 r.g] 56))):=bl_trans HB2.out (bl_alloc bR _)
    have kx3:=KX.out _ HBX.out
    obtain ⟨s0,s2⟩:=HROW.out _ HBX.out
    cases q1:(q.b.toList == p.b.toList)
    ·
     go_wp2
     refine ⟨⟨m+1,by omega,by go_num,fun j r' hj hr'=>?_,HBX.out⟩,by simp [intOf]; omega⟩
     have h9:eqT q.b p.b=false:=q1
     rw [h9]; rfl
    cases q2:(r.c.toList == p.c.toList)
    ·
     go_wp2
     refine ⟨⟨m+1,by omega,by go_num,fun j r' hj hr'=>?_,HBX.out⟩,by simp [intOf]; omega⟩
     by_cases e:j=m
     ·
      subst e
      rw [HR.out] at hr'
      cases hr'
      unfold askW eqT
      rw [q2]
      simp
     exact Hb.out j r' (by omega) hr'
    cases q3:(r.h.toList == p.h.toList)
    ·
     go_wp2
     refine ⟨⟨m+1,by omega,by go_num,fun j r' hj hr'=>?_,HBX.out⟩,by simp [intOf]; omega⟩
     by_cases e:j=m
     ·
      subst e
      rw [HR.out] at hr'
      cases hr'
      unfold askW eqT
      rw [q2,q3]
      simp
     exact Hb.out j r' (by omega) hr'
    go_wp2
    go_ret
    refine ⟨?_,bl_trans B0.out HBX.out⟩
    have h9:wantedL p ps=true:=by
     unfold wantedL
     rw [List.any_eq_true]
     refine ⟨q,List.mem_of_getElem? HQ.out, ?_⟩
     rw [Bool.and_eq_true]
     refine ⟨q1, ?_⟩
     unfold wantedW
     rw [List.any_eq_true]
     refine ⟨r,List.mem_of_getElem? HR.out, ?_⟩
     unfold askW eqT
     rw [q2,q3]
     rfl
    rw [h9]
    rfl
   have hmi:¬ (m:Int) < (q.ws.length:Int):=by omega
   go_wp2
   refine ⟨⟨k+1,by omega,by go_num,fun j q' hj hq'=>?_,HB2.out⟩,by simp [intOf]; omega⟩
   by_cases e:j=k
   ·
    subst e
    rw [HQ.out] at hq'
    cases hq'
    have h9:eqT q.b p.b=false∨wantedW p q.ws=false:=by
     cases hx:eqT q.b p.b
     · exact Or.inl rfl
     right
     unfold wantedW
     rw [List.any_eq_false]
     intro r hr h
     obtain ⟨j',hj'⟩:=List.getElem?_of_mem hr
     have hjl:=(List.getElem?_eq_some_iff.1 hj').1
     have h8:=Hb.out j' r (by omega) hj'
     rw [hx,h] at h8
     cases h8
    rcases h9 with h9 | h9
    · rw [h9]; rfl
    rw [h9,Bool.and_false]
   exact Ha.out j q' (by omega) hq'
  have hki:¬ (k:Int) < (ps.length:Int):=by omega
  go_wp2
  go_ret
  refine ⟨?_,bl_trans B0.out HB.out⟩
  have h9:wantedL p ps=false:=by
   unfold wantedL
   rw [List.any_eq_false]
   intro q hq h
   obtain ⟨j,hj⟩:=List.getElem?_of_mem hq
   have hjl:=(List.getElem?_eq_some_iff.1 hj).1
   rw [Ha.out j q (by omega) hj] at h
   cases h
  rw [h9]
  rfl
end Go.Proofs.YtcjhlhijdacinaaGreatDoor
