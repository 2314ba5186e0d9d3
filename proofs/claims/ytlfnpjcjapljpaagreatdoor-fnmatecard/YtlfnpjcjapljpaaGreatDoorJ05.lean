import Derived.Test.YtlfnpjcjapljpaaGreatDoorJ02
namespace Go.Proofs.YtlfnpjcjapljpaaGreatDoor
open Go.Proofs.Tryz Go.RowKit
set_option maxHeartbeats 2000000
set_option linter.unusedVariables false
def fK(a b:Int):Bool:=if a=2 then b==0 else cA b 0 100
def fz(h:ByteArray)(u:Int):Bool:=if h.toList.isEmpty=true then u==0 else cA u 0 1000016
def eL(c h:ByteArray)(v p s d g a b i u clock:Int):Bool:=dc c h v p s d g&&(cA a 1 6&&(fK a b&&(cA i 0 1000&&(fz h u&&(!bq a||bj h u clock)))))
theorem jm{w w1:World}{o:Obj}(h:Below (w.alloc o).heap.size (w.alloc o) w1):w.heap.size<w1.heap.size:=by have:=h.size;simp at this;omega
theorem eT(a:Int)(w:World):Calls prog 160 #[.int .i64 a] w fun e w'=>e=.returned (.bool (cA a 1 6))/\w'=w:=by
 go_enter func160,ntmps160
 go_wp2_with (go_at_call 19;refine mr (aP _ _ _ _) ?_)
 go_ret
 exact⟨rfl,rfl⟩
theorem ez(c h:ByteArray)(v p s d g a b i u:Int)(w:World):
  Calls prog 161 #[.agg (aL c v h p s d g a b i u)] w fun e w'=>e=.returned (.bool (fK a b))/\w'=w.alloc (.cells (aL c v h p s d g a b i u) 98):=by
 by_cases h2:a=2
 ·
  subst h2;go_enter func161,ntmps161
  go_wp2
  go_ret
  exact⟨bu (by simp[fK]),rfl⟩
 ·
  have e2:(a==2)=false:=by simpa using h2
  have Hl:Hid (fK a b=cA b 0 100):=by show fK a b=_;simp[fK,h2]
  clear h2;go_enter func161,ntmps161
  go_wp2_with (go_at_call 19;refine mr (aP _ _ _ _) ?_)
  go_ret
  exact⟨bu Hl.out.symm,rfl⟩
theorem dQ(c h:ByteArray)(v p s d g a b i u:Int)(w:World):
  Calls prog 162 #[.agg (aL c v h p s d g a b i u)] w fun e w'=>e=.returned (.bool (fz h u))/\w'=w.alloc (.cells (aL c v h p s d g a b i u) 98):=by
 cases he:h.toList.isEmpty
 ·
  have Hl:Hid (fz h u=cA u 0 1000016):=by show fz h u=_;simp[fz,he]
  go_enter func162,ntmps162
  go_wp2_with (go_at_call 19;refine mr (aP _ _ _ _) ?_)
  go_ret
  exact⟨bu Hl.out.symm,rfl⟩
 ·
  have Hl:Hid (fz h u=(u==0)):=by show fz h u=_;simp[fz,he]
  go_enter func162,ntmps162
  go_wp2
  go_ret
  exact⟨bu Hl.out.symm,rfl⟩
theorem px(c h:ByteArray)(v p s d g a b i u clock:Int)(w:World)(hc:c.size<=maxLen)(hh:h.size<=maxLen):
  Calls prog 129 #[.agg (aL c v h p s d g a b i u),.int .i64 clock] w fun e w'=>e=.returned (.bool (eL c h v p s d g a b i u clock))/\Below w.heap.size w w':=by
 cases q0:dc c h v p s d g
 ·
  go_enter func129,ntmps129
  go_wp2_with (first|(go_at_call 158;refine(de c h v p s d g _ hc hh).mono ?_;rintro e w' ⟨rfl,hb⟩;have hk:=aJ hb;have hz:=jm hb)|(go_at_call 160;refine mr (eT a _) ?_)|(go_at_call 161;refine mr (ez c h v p s d g a b i u _) ?_)|(go_at_call 19;refine mr (aP _ _ _ _) ?_)|(go_at_call 162;refine mr (dQ c h v p s d g a b i u _) ?_)|(go_at_call 50;refine mr (aV a _) ?_)|(go_at_call 109;refine mr (cC c h v p s d g a b i u clock _) ?_))
  go_ret
  exact⟨bu (by simp[eL, *]),by repeat (first|exact af (ae bR _) hb|refine ae ?_ _|refine au ?_)⟩
 ·
  skip
  cases q1:cA a 1 6
  ·
   go_enter func129,ntmps129
   go_wp2_with (first|(go_at_call 158;refine(de c h v p s d g _ hc hh).mono ?_;rintro e w' ⟨rfl,hb⟩;have hk:=aJ hb;have hz:=jm hb)|(go_at_call 160;refine mr (eT a _) ?_)|(go_at_call 161;refine mr (ez c h v p s d g a b i u _) ?_)|(go_at_call 19;refine mr (aP _ _ _ _) ?_)|(go_at_call 162;refine mr (dQ c h v p s d g a b i u _) ?_)|(go_at_call 50;refine mr (aV a _) ?_)|(go_at_call 109;refine mr (cC c h v p s d g a b i u clock _) ?_))
   go_ret
   exact⟨bu (by simp[eL, *]),by repeat (first|exact af (ae bR _) hb|refine ae ?_ _|refine au ?_)⟩
  skip
  cases q2:fK a b
  ·
   go_enter func129,ntmps129
   go_wp2_with (first|(go_at_call 158;refine(de c h v p s d g _ hc hh).mono ?_;rintro e w' ⟨rfl,hb⟩;have hk:=aJ hb;have hz:=jm hb)|(go_at_call 160;refine mr (eT a _) ?_)|(go_at_call 161;refine mr (ez c h v p s d g a b i u _) ?_)|(go_at_call 19;refine mr (aP _ _ _ _) ?_)|(go_at_call 162;refine mr (dQ c h v p s d g a b i u _) ?_)|(go_at_call 50;refine mr (aV a _) ?_)|(go_at_call 109;refine mr (cC c h v p s d g a b i u clock _) ?_))
   go_ret
   exact⟨bu (by simp[eL, *]),by repeat (first|exact af (ae bR _) hb|refine ae ?_ _|refine au ?_)⟩
  skip
  cases q3:cA i 0 1000
  ·
   go_enter func129,ntmps129
   go_wp2_with (first|(go_at_call 158;refine(de c h v p s d g _ hc hh).mono ?_;rintro e w' ⟨rfl,hb⟩;have hk:=aJ hb;have hz:=jm hb)|(go_at_call 160;refine mr (eT a _) ?_)|(go_at_call 161;refine mr (ez c h v p s d g a b i u _) ?_)|(go_at_call 19;refine mr (aP _ _ _ _) ?_)|(go_at_call 162;refine mr (dQ c h v p s d g a b i u _) ?_)|(go_at_call 50;refine mr (aV a _) ?_)|(go_at_call 109;refine mr (cC c h v p s d g a b i u clock _) ?_))
   go_ret
   exact⟨bu (by simp[eL, *]),by repeat (first|exact af (ae bR _) hb|refine ae ?_ _|refine au ?_)⟩
  skip
  cases q4:fz h u
  ·
   go_enter func129,ntmps129
   go_wp2_with (first|(go_at_call 158;refine(de c h v p s d g _ hc hh).mono ?_;rintro e w' ⟨rfl,hb⟩;have hk:=aJ hb;have hz:=jm hb)|(go_at_call 160;refine mr (eT a _) ?_)|(go_at_call 161;refine mr (ez c h v p s d g a b i u _) ?_)|(go_at_call 19;refine mr (aP _ _ _ _) ?_)|(go_at_call 162;refine mr (dQ c h v p s d g a b i u _) ?_)|(go_at_call 50;refine mr (aV a _) ?_)|(go_at_call 109;refine mr (cC c h v p s d g a b i u clock _) ?_))
   go_ret
   exact⟨bu (by simp[eL, *]),by repeat (first|exact af (ae bR _) hb|refine ae ?_ _|refine au ?_)⟩
  skip
  cases q5:bq a
  ·
   go_enter func129,ntmps129
   go_wp2_with (first|(go_at_call 158;refine(de c h v p s d g _ hc hh).mono ?_;rintro e w' ⟨rfl,hb⟩;have hk:=aJ hb;have hz:=jm hb)|(go_at_call 160;refine mr (eT a _) ?_)|(go_at_call 161;refine mr (ez c h v p s d g a b i u _) ?_)|(go_at_call 19;refine mr (aP _ _ _ _) ?_)|(go_at_call 162;refine mr (dQ c h v p s d g a b i u _) ?_)|(go_at_call 50;refine mr (aV a _) ?_)|(go_at_call 109;refine mr (cC c h v p s d g a b i u clock _) ?_))
   go_ret
   exact⟨bu (by simp[eL, *]),by repeat (first|exact af (ae bR _) hb|refine ae ?_ _|refine au ?_)⟩
  cases q6:bj h u clock
  ·
   go_enter func129,ntmps129
   go_wp2_with (first|(go_at_call 158;refine(de c h v p s d g _ hc hh).mono ?_;rintro e w' ⟨rfl,hb⟩;have hk:=aJ hb;have hz:=jm hb)|(go_at_call 160;refine mr (eT a _) ?_)|(go_at_call 161;refine mr (ez c h v p s d g a b i u _) ?_)|(go_at_call 19;refine mr (aP _ _ _ _) ?_)|(go_at_call 162;refine mr (dQ c h v p s d g a b i u _) ?_)|(go_at_call 50;refine mr (aV a _) ?_)|(go_at_call 109;refine mr (cC c h v p s d g a b i u clock _) ?_))
   go_ret
   exact⟨bu (by simp[eL, *]),by repeat (first|exact af (ae bR _) hb|refine ae ?_ _|refine au ?_)⟩
  go_enter func129,ntmps129
  go_wp2_with (first|(go_at_call 158;refine(de c h v p s d g _ hc hh).mono ?_;rintro e w' ⟨rfl,hb⟩;have hk:=aJ hb;have hz:=jm hb)|(go_at_call 160;refine mr (eT a _) ?_)|(go_at_call 161;refine mr (ez c h v p s d g a b i u _) ?_)|(go_at_call 19;refine mr (aP _ _ _ _) ?_)|(go_at_call 162;refine mr (dQ c h v p s d g a b i u _) ?_)|(go_at_call 50;refine mr (aV a _) ?_)|(go_at_call 109;refine mr (cC c h v p s d g a b i u clock _) ?_))
  go_ret
  exact⟨bu (by simp[eL, *]),by repeat (first|exact af (ae bR _) hb|refine ae ?_ _|refine au ?_)⟩
theorem Df(c h:ByteArray)(v p s d g a b i u clock:Int):eL c h v p s d g a b i u clock=(dc c h v p s d g&&(cA a 1 6&&(cA b 0 100&&(!((a==2)&&(b != 0))&&(cA i 0 1000&&(cA u 0 1000016&&(!(h.toList.isEmpty&&(u != 0))&&(!bq a||bj h u clock)))))))):=by
 have e1:fK a b=(cA b 0 100&&!((a==2)&&(b != 0))):=by
  unfold fK;by_cases h2:a=2
  ·
   rw[if_pos h2];by_cases h0:b=0;·simp[h2,h0,cA]
   rw[show(b==0)=false from by simpa using h0,show(b != 0)=true from by simpa using h0];simp[h2]
  rw[if_neg h2];simp[h2]
 have e2:fz h u=(cA u 0 1000016&&!(h.toList.isEmpty&&(u != 0))):=by
  unfold fz;cases he:h.toList.isEmpty;·simp
  by_cases h0:u=0;·simp[h0,cA]
  rw[show(u==0)=false from by simpa using h0,show(u != 0)=true from by simpa using h0];simp
 rw[eL,e1,e2];cases dc c h v p s d g<;>cases cA a 1 6<;>cases cA b 0 100<;>cases cA i 0 1000<;>simp[Bool.and_assoc]
theorem fC(c h:ByteArray)(v p s d g a b i u clock:Int)(w:World)(hc:c.size<=maxLen)(hh:h.size<=maxLen):
  Calls prog 87 #[.agg (aL c v h p s d g a b i u),.int .i64 clock] w fun e w'=>e=.returned (.bool (eL c h v p s d g a b i u clock))/\Below w.heap.size w w':=by
 have hr:=Df c h v p s d g a b i u clock;cases q0:dc c h v p s d g
 ·
  have Hr:=ah hr;clear hr;go_enter func87,ntmps87
  go_wp2_with (first|(go_at_call 86;refine mr (bp c h v p s d g _ hc hh) ?_)|(go_at_call 28;refine mr (aI _ _ _ _) ?_)|(go_at_call 42;refine mr (aE c h v p s d g a b i u _) ?_)|(go_at_call 82;refine mr (bB c h v p s d g a b i u clock _) ?_))
  go_ret
  exact⟨bu (by rw[Hr.out];simp[*]),by repeat (first|exact bR|refine ae ?_ _|refine au ?_)⟩
 ·
  skip
  cases q1:cA a 1 6
  ·
   have Hr:=ah hr;clear hr;go_enter func87,ntmps87
   go_wp2_with (first|(go_at_call 86;refine mr (bp c h v p s d g _ hc hh) ?_)|(go_at_call 28;refine mr (aI _ _ _ _) ?_)|(go_at_call 42;refine mr (aE c h v p s d g a b i u _) ?_)|(go_at_call 82;refine mr (bB c h v p s d g a b i u clock _) ?_))
   go_ret
   exact⟨bu (by rw[Hr.out];simp[*]),by repeat (first|exact bR|refine ae ?_ _|refine au ?_)⟩
  skip
  cases q2:cA b 0 100
  ·
   have Hr:=ah hr;clear hr;go_enter func87,ntmps87
   go_wp2_with (first|(go_at_call 86;refine mr (bp c h v p s d g _ hc hh) ?_)|(go_at_call 28;refine mr (aI _ _ _ _) ?_)|(go_at_call 42;refine mr (aE c h v p s d g a b i u _) ?_)|(go_at_call 82;refine mr (bB c h v p s d g a b i u clock _) ?_))
   go_ret
   exact⟨bu (by rw[Hr.out];simp[*]),by repeat (first|exact bR|refine ae ?_ _|refine au ?_)⟩
  skip
  have hp:((a==2)=true/\(b != 0)=true)\/((a==2)=false)\/((a==2)=true/\(b != 0)=false):=by cases (a==2)<;>cases (b != 0)<;>simp
  rcases hp with⟨q3,r3⟩|q3|⟨q3,r3⟩
  ·
   have Hr:=ah hr;clear hr;go_enter func87,ntmps87
   go_wp2_with (first|(go_at_call 86;refine mr (bp c h v p s d g _ hc hh) ?_)|(go_at_call 28;refine mr (aI _ _ _ _) ?_)|(go_at_call 42;refine mr (aE c h v p s d g a b i u _) ?_)|(go_at_call 82;refine mr (bB c h v p s d g a b i u clock _) ?_))
   go_ret
   exact⟨bu (by rw[Hr.out];simp[*]),by repeat (first|exact bR|refine ae ?_ _|refine au ?_)⟩
  ·
   skip
   cases q4:cA i 0 1000
   ·
    have Hr:=ah hr;clear hr;go_enter func87,ntmps87
    go_wp2_with (first|(go_at_call 86;refine mr (bp c h v p s d g _ hc hh) ?_)|(go_at_call 28;refine mr (aI _ _ _ _) ?_)|(go_at_call 42;refine mr (aE c h v p s d g a b i u _) ?_)|(go_at_call 82;refine mr (bB c h v p s d g a b i u clock _) ?_))
    go_ret
    exact⟨bu (by rw[Hr.out];simp[*]),by repeat (first|exact bR|refine ae ?_ _|refine au ?_)⟩
   skip
   cases q5:cA u 0 1000016
   ·
    have Hr:=ah hr;clear hr;go_enter func87,ntmps87
    go_wp2_with (first|(go_at_call 86;refine mr (bp c h v p s d g _ hc hh) ?_)|(go_at_call 28;refine mr (aI _ _ _ _) ?_)|(go_at_call 42;refine mr (aE c h v p s d g a b i u _) ?_)|(go_at_call 82;refine mr (bB c h v p s d g a b i u clock _) ?_))
    go_ret
    exact⟨bu (by rw[Hr.out];simp[*]),by repeat (first|exact bR|refine ae ?_ _|refine au ?_)⟩
   skip
   have hp:(h.toList.isEmpty=true/\(u != 0)=true)\/(h.toList.isEmpty=false)\/(h.toList.isEmpty=true/\(u != 0)=false):=by cases h.toList.isEmpty<;>cases (u != 0)<;>simp
   rcases hp with⟨q6,r6⟩|q6|⟨q6,r6⟩
   ·
    have Hr:=ah hr;clear hr;go_enter func87,ntmps87
    go_wp2_with (first|(go_at_call 86;refine mr (bp c h v p s d g _ hc hh) ?_)|(go_at_call 28;refine mr (aI _ _ _ _) ?_)|(go_at_call 42;refine mr (aE c h v p s d g a b i u _) ?_)|(go_at_call 82;refine mr (bB c h v p s d g a b i u clock _) ?_))
    go_ret
    exact⟨bu (by rw[Hr.out];simp[*]),by repeat (first|exact bR|refine ae ?_ _|refine au ?_)⟩
   ·
    skip
    cases q7:bq a
    ·
     have Hr:=ah hr;clear hr;go_enter func87,ntmps87
     go_wp2_with (first|(go_at_call 86;refine mr (bp c h v p s d g _ hc hh) ?_)|(go_at_call 28;refine mr (aI _ _ _ _) ?_)|(go_at_call 42;refine mr (aE c h v p s d g a b i u _) ?_)|(go_at_call 82;refine mr (bB c h v p s d g a b i u clock _) ?_))
     go_ret
     exact⟨bu (by rw[Hr.out];simp[*]),by repeat (first|exact bR|refine ae ?_ _|refine au ?_)⟩
    cases q8:bj h u clock
    ·
     have Hr:=ah hr;clear hr;go_enter func87,ntmps87
     go_wp2_with (first|(go_at_call 86;refine mr (bp c h v p s d g _ hc hh) ?_)|(go_at_call 28;refine mr (aI _ _ _ _) ?_)|(go_at_call 42;refine mr (aE c h v p s d g a b i u _) ?_)|(go_at_call 82;refine mr (bB c h v p s d g a b i u clock _) ?_))
     go_ret
     exact⟨bu (by rw[Hr.out];simp[*]),by repeat (first|exact bR|refine ae ?_ _|refine au ?_)⟩
    have Hr:=ah hr;clear hr;go_enter func87,ntmps87
    go_wp2_with (first|(go_at_call 86;refine mr (bp c h v p s d g _ hc hh) ?_)|(go_at_call 28;refine mr (aI _ _ _ _) ?_)|(go_at_call 42;refine mr (aE c h v p s d g a b i u _) ?_)|(go_at_call 82;refine mr (bB c h v p s d g a b i u clock _) ?_))
    go_ret
    exact⟨bu (by rw[Hr.out];simp[*]),by repeat (first|exact bR|refine ae ?_ _|refine au ?_)⟩
   skip
   cases q7:bq a
   ·
    have Hr:=ah hr;clear hr;go_enter func87,ntmps87
    go_wp2_with (first|(go_at_call 86;refine mr (bp c h v p s d g _ hc hh) ?_)|(go_at_call 28;refine mr (aI _ _ _ _) ?_)|(go_at_call 42;refine mr (aE c h v p s d g a b i u _) ?_)|(go_at_call 82;refine mr (bB c h v p s d g a b i u clock _) ?_))
    go_ret
    exact⟨bu (by rw[Hr.out];simp[*]),by repeat (first|exact bR|refine ae ?_ _|refine au ?_)⟩
   cases q8:bj h u clock
   ·
    have Hr:=ah hr;clear hr;go_enter func87,ntmps87
    go_wp2_with (first|(go_at_call 86;refine mr (bp c h v p s d g _ hc hh) ?_)|(go_at_call 28;refine mr (aI _ _ _ _) ?_)|(go_at_call 42;refine mr (aE c h v p s d g a b i u _) ?_)|(go_at_call 82;refine mr (bB c h v p s d g a b i u clock _) ?_))
    go_ret
    exact⟨bu (by rw[Hr.out];simp[*]),by repeat (first|exact bR|refine ae ?_ _|refine au ?_)⟩
   have Hr:=ah hr;clear hr;go_enter func87,ntmps87
   go_wp2_with (first|(go_at_call 86;refine mr (bp c h v p s d g _ hc hh) ?_)|(go_at_call 28;refine mr (aI _ _ _ _) ?_)|(go_at_call 42;refine mr (aE c h v p s d g a b i u _) ?_)|(go_at_call 82;refine mr (bB c h v p s d g a b i u clock _) ?_))
   go_ret
   exact⟨bu (by rw[Hr.out];simp[*]),by repeat (first|exact bR|refine ae ?_ _|refine au ?_)⟩
  skip
  cases q4:cA i 0 1000
  ·
   have Hr:=ah hr;clear hr;go_enter func87,ntmps87
   go_wp2_with (first|(go_at_call 86;refine mr (bp c h v p s d g _ hc hh) ?_)|(go_at_call 28;refine mr (aI _ _ _ _) ?_)|(go_at_call 42;refine mr (aE c h v p s d g a b i u _) ?_)|(go_at_call 82;refine mr (bB c h v p s d g a b i u clock _) ?_))
   go_ret
   exact⟨bu (by rw[Hr.out];simp[*]),by repeat (first|exact bR|refine ae ?_ _|refine au ?_)⟩
  skip
  cases q5:cA u 0 1000016
  ·
   have Hr:=ah hr;clear hr;go_enter func87,ntmps87
   go_wp2_with (first|(go_at_call 86;refine mr (bp c h v p s d g _ hc hh) ?_)|(go_at_call 28;refine mr (aI _ _ _ _) ?_)|(go_at_call 42;refine mr (aE c h v p s d g a b i u _) ?_)|(go_at_call 82;refine mr (bB c h v p s d g a b i u clock _) ?_))
   go_ret
   exact⟨bu (by rw[Hr.out];simp[*]),by repeat (first|exact bR|refine ae ?_ _|refine au ?_)⟩
  skip
  have hp:(h.toList.isEmpty=true/\(u != 0)=true)\/(h.toList.isEmpty=false)\/(h.toList.isEmpty=true/\(u != 0)=false):=by cases h.toList.isEmpty<;>cases (u != 0)<;>simp
  rcases hp with⟨q6,r6⟩|q6|⟨q6,r6⟩
  ·
   have Hr:=ah hr;clear hr;go_enter func87,ntmps87
   go_wp2_with (first|(go_at_call 86;refine mr (bp c h v p s d g _ hc hh) ?_)|(go_at_call 28;refine mr (aI _ _ _ _) ?_)|(go_at_call 42;refine mr (aE c h v p s d g a b i u _) ?_)|(go_at_call 82;refine mr (bB c h v p s d g a b i u clock _) ?_))
   go_ret
   exact⟨bu (by rw[Hr.out];simp[*]),by repeat (first|exact bR|refine ae ?_ _|refine au ?_)⟩
  ·
   skip
   cases q7:bq a
   ·
    have Hr:=ah hr;clear hr;go_enter func87,ntmps87
    go_wp2_with (first|(go_at_call 86;refine mr (bp c h v p s d g _ hc hh) ?_)|(go_at_call 28;refine mr (aI _ _ _ _) ?_)|(go_at_call 42;refine mr (aE c h v p s d g a b i u _) ?_)|(go_at_call 82;refine mr (bB c h v p s d g a b i u clock _) ?_))
    go_ret
    exact⟨bu (by rw[Hr.out];simp[*]),by repeat (first|exact bR|refine ae ?_ _|refine au ?_)⟩
   cases q8:bj h u clock
   ·
    have Hr:=ah hr;clear hr;go_enter func87,ntmps87
    go_wp2_with (first|(go_at_call 86;refine mr (bp c h v p s d g _ hc hh) ?_)|(go_at_call 28;refine mr (aI _ _ _ _) ?_)|(go_at_call 42;refine mr (aE c h v p s d g a b i u _) ?_)|(go_at_call 82;refine mr (bB c h v p s d g a b i u clock _) ?_))
    go_ret
    exact⟨bu (by rw[Hr.out];simp[*]),by repeat (first|exact bR|refine ae ?_ _|refine au ?_)⟩
   have Hr:=ah hr;clear hr;go_enter func87,ntmps87
   go_wp2_with (first|(go_at_call 86;refine mr (bp c h v p s d g _ hc hh) ?_)|(go_at_call 28;refine mr (aI _ _ _ _) ?_)|(go_at_call 42;refine mr (aE c h v p s d g a b i u _) ?_)|(go_at_call 82;refine mr (bB c h v p s d g a b i u clock _) ?_))
   go_ret
   exact⟨bu (by rw[Hr.out];simp[*]),by repeat (first|exact bR|refine ae ?_ _|refine au ?_)⟩
  skip
  cases q7:bq a
  ·
   have Hr:=ah hr;clear hr;go_enter func87,ntmps87
   go_wp2_with (first|(go_at_call 86;refine mr (bp c h v p s d g _ hc hh) ?_)|(go_at_call 28;refine mr (aI _ _ _ _) ?_)|(go_at_call 42;refine mr (aE c h v p s d g a b i u _) ?_)|(go_at_call 82;refine mr (bB c h v p s d g a b i u clock _) ?_))
   go_ret
   exact⟨bu (by rw[Hr.out];simp[*]),by repeat (first|exact bR|refine ae ?_ _|refine au ?_)⟩
  cases q8:bj h u clock
  ·
   have Hr:=ah hr;clear hr;go_enter func87,ntmps87
   go_wp2_with (first|(go_at_call 86;refine mr (bp c h v p s d g _ hc hh) ?_)|(go_at_call 28;refine mr (aI _ _ _ _) ?_)|(go_at_call 42;refine mr (aE c h v p s d g a b i u _) ?_)|(go_at_call 82;refine mr (bB c h v p s d g a b i u clock _) ?_))
   go_ret
   exact⟨bu (by rw[Hr.out];simp[*]),by repeat (first|exact bR|refine ae ?_ _|refine au ?_)⟩
  have Hr:=ah hr;clear hr;go_enter func87,ntmps87
  go_wp2_with (first|(go_at_call 86;refine mr (bp c h v p s d g _ hc hh) ?_)|(go_at_call 28;refine mr (aI _ _ _ _) ?_)|(go_at_call 42;refine mr (aE c h v p s d g a b i u _) ?_)|(go_at_call 82;refine mr (bB c h v p s d g a b i u clock _) ?_))
  go_ret
  exact⟨bu (by rw[Hr.out];simp[*]),by repeat (first|exact bR|refine ae ?_ _|refine au ?_)⟩
end Go.Proofs.YtlfnpjcjapljpaaGreatDoor
