import Derived.Test.YtlfnpjcjapljpaaGreatDoorJ10
import Derived.Test.YtlfnpjcjapljpaaGreatDoorJ13
import Derived.Test.YtlfnpjcjapljpaaGreatDoorJ08
import Derived.Test.YtlfnpjcjapljpaaGreatDoorJ07
import Derived.Test.YtlfnpjcjapljpaaGreatDoorJ14
import Derived.Test.YtlfnpjcjapljpaaGreatDoorJ15
import Derived.Test.YtlfnpjcjapljpaaGreatDoorJ11
import Derived.Test.YtlfnpjcjapljpaaGreatDoorJ12
namespace Go.Proofs.YtlfnpjcjapljpaaGreatDoor
open Go.Proofs.Tryz Go.RowKit
set_option linter.unusedVariables false
def aW(h:ByteArray)(s d g a b i u clock:Int)(sm:Bool):Option (Int×Int×Int):=
 if sm=false/\a≠6 then(if bq a=true then some (6,g,i)else none)
 else if a=2 then(if bj h u clock=true then some (3,s,i)else some (2,0,i))
 else if 1<b then some (a,b-1,i)
 else if a=1\/a=5 then(if bj h u clock=true then some (3,s,i)else some (2,0,i))
 else if a=3 then some (4,d,i)
 else if a=4/\b=1 then(if i<1000 then some (5,eJ (i+1),i+1)else some (5,eJ i,i))
 else if a=6 then none
 else some (a,b,i)
def EM(c h:ByteArray)(v p s d g u:Int):Option (Int×Int×Int)->Value
 |none=>.tuple #[.agg (aL ⟨#[]⟩ 0 ⟨#[]⟩ 0 0 0 0 0 0 0 0),.bool false]
 |some (a,b,i)=>.tuple #[.agg (aL c v h p s d g a b i u),.bool true]
theorem qU(c h c2 h2:ByteArray)(v p s d g a b i u v2 p2 s2 d2 g2 clock:Int)(wanted:Bool)(w:World)(hbb:b<=9223372036854775807)(hii:-9223372036854775808<=i):
  Calls prog 111 #[.agg (aL c v h p s d g a b i u),.agg (aX c2 v2 h2 p2 s2 d2 g2),.bool wanted,.int .i64 clock] w fun e w'=>e=.returned (EM c h v p s d g u (aW h s d g a b i u clock (wanted&&fL c h c2 h2 v p s d g v2 p2 s2 d2 g2)))/\Below w.heap.size w w':=by
 have fw:∀(x:Bool),x=false->a≠6->aW h s d g a b i u clock x=if bq a=true then some (6,g,i)else none:=by intro x hx h6;subst hx;simp[aW,h6]
 cases wanted
 ·
  simp only[Bool.false_and];by_cases h6:a=6
  ·
   subst h6;by_cases hb:1<b
   ·
    rw[show aW h s d g 6 b i u clock false=some (6,b-1,i) from by simp[aW,hb]]
    (refine(oU c h c2 h2 v p s d g b i u v2 p2 s2 d2 g2 clock w hb hbb).mono ?_;rintro e w' ⟨rfl,k⟩;exact⟨rfl,k⟩)
   rw[show aW h s d g 6 b i u clock false=none from by simp[aW,hb]]
   (refine(oV c h c2 h2 v p s d g b i u v2 p2 s2 d2 g2 clock w (by omega)).mono ?_;rintro e w' ⟨rfl,k⟩;exact⟨rfl,k⟩)
  have h6':(a==6)=false:=by simpa using h6
  rw[fw _ rfl h6];cases ha:bq a;·(refine(qV c h c2 h2 v p s d g a b i u v2 p2 s2 d2 g2 clock w ha h6').mono ?_;rintro e w' ⟨rfl,k⟩;exact⟨rfl,k⟩)
  (refine(qW c h c2 h2 v p s d g a b i u v2 p2 s2 d2 g2 clock w ha h6').mono ?_;rintro e w' ⟨rfl,k⟩;exact⟨rfl,k⟩)
 ·
  simp only[Bool.true_and];cases hs:fL c h c2 h2 v p s d g v2 p2 s2 d2 g2
  ·
   have heq:∀w,Sem.run prog (binOp .eql 37 (.agg (aX c2 v2 h2 p2 s2 d2 g2)) (.agg (aX c v h p s d g))) w=.ok (.bool false) w:=fun w=>by rw[iJ,hs]
   by_cases h6:a=6
   ·
    subst h6;by_cases hb:1<b
    ·
     rw[show aW h s d g 6 b i u clock false=some (6,b-1,i) from by simp[aW,hb]]
     (refine(oW c h c2 h2 v p s d g b i u v2 p2 s2 d2 g2 clock w hb hbb heq).mono ?_;rintro e w' ⟨rfl,k⟩;exact⟨rfl,k⟩)
    rw[show aW h s d g 6 b i u clock false=none from by simp[aW,hb]]
    (refine(oX c h c2 h2 v p s d g b i u v2 p2 s2 d2 g2 clock w (by omega) heq).mono ?_;rintro e w' ⟨rfl,k⟩;exact⟨rfl,k⟩)
   have h6':(a==6)=false:=(by simpa using h6);rw[fw _ rfl h6];cases ha:bq a;·(refine(qX c h c2 h2 v p s d g a b i u v2 p2 s2 d2 g2 clock w ha h6' heq).mono ?_;rintro e w' ⟨rfl,k⟩;exact⟨rfl,k⟩)
   (refine(qY c h c2 h2 v p s d g a b i u v2 p2 s2 d2 g2 clock w ha h6' heq).mono ?_;rintro e w' ⟨rfl,k⟩;exact⟨rfl,k⟩)
  have heq:∀w,Sem.run prog (binOp .eql 37 (.agg (aX c2 v2 h2 p2 s2 d2 g2)) (.agg (aX c v h p s d g))) w=.ok (.bool true) w:=fun w=>by rw[iJ,hs]
  clear fw;by_cases h6:a=6
  ·
   subst h6;by_cases hb:1<b
   ·
    rw[show aW h s d g 6 b i u clock true=some (6,b-1,i) from by simp[aW,hb]]
    (refine(oY c h c2 h2 v p s d g b i u v2 p2 s2 d2 g2 clock w hb hbb heq).mono ?_;rintro e w' ⟨rfl,k⟩;exact⟨rfl,k⟩)
   rw[show aW h s d g 6 b i u clock true=none from by simp[aW,hb]]
   (refine(oZ c h c2 h2 v p s d g b i u v2 p2 s2 d2 g2 clock w (by omega) heq).mono ?_;rintro e w' ⟨rfl,k⟩;exact⟨rfl,k⟩)
  by_cases Dc:a=2
  ·
   subst Dc;cases hl:bj h u clock
   ·
    rw[show aW h s d g 2 b i u clock true=some (2,0,i) from by simp[aW,hl]]
    (refine(qZ c h c2 h2 v p s d g b i u v2 p2 s2 d2 g2 clock w hl heq).mono ?_;rintro e w' ⟨rfl,k⟩;exact⟨rfl,k⟩)
   rw[show aW h s d g 2 b i u clock true=some (3,s,i) from by simp[aW,hl]]
   (refine(rf c h c2 h2 v p s d g b i u v2 p2 s2 d2 g2 clock w hl heq).mono ?_;rintro e w' ⟨rfl,k⟩;exact⟨rfl,k⟩)
  by_cases h1a:a=1
  ·
   subst h1a;by_cases hb:1<b
   ·
    rw[show aW h s d g 1 b i u clock true=some (1,b-1,i) from by simp[aW,hb]]
    (refine(ri c h c2 h2 v p s d g b i u v2 p2 s2 d2 g2 clock w hb hbb heq).mono ?_;rintro e w' ⟨rfl,k⟩;exact⟨rfl,k⟩)
   cases hl:bj h u clock
   ·
    rw[show aW h s d g 1 b i u clock true=some (2,0,i) from by simp[aW,hb,hl]]
    (refine(rj c h c2 h2 v p s d g b i u v2 p2 s2 d2 g2 clock w (by omega) hl heq).mono ?_;rintro e w' ⟨rfl,k⟩;exact⟨rfl,k⟩)
   rw[show aW h s d g 1 b i u clock true=some (3,s,i) from by simp[aW,hb,hl]]
   (refine(rk c h c2 h2 v p s d g b i u v2 p2 s2 d2 g2 clock w (by omega) hl heq).mono ?_;rintro e w' ⟨rfl,k⟩;exact⟨rfl,k⟩)
  by_cases GG:a=5
  ·
   subst GG;by_cases hb:1<b
   ·
    rw[show aW h s d g 5 b i u clock true=some (5,b-1,i) from by simp[aW,hb]]
    (refine(rl c h c2 h2 v p s d g b i u v2 p2 s2 d2 g2 clock w hb hbb heq).mono ?_;rintro e w' ⟨rfl,k⟩;exact⟨rfl,k⟩)
   cases hl:bj h u clock
   ·
    rw[show aW h s d g 5 b i u clock true=some (2,0,i) from by simp[aW,hb,hl]]
    (refine(rm c h c2 h2 v p s d g b i u v2 p2 s2 d2 g2 clock w (by omega) hl heq).mono ?_;rintro e w' ⟨rfl,k⟩;exact⟨rfl,k⟩)
   rw[show aW h s d g 5 b i u clock true=some (3,s,i) from by simp[aW,hb,hl]]
   (refine(rq c h c2 h2 v p s d g b i u v2 p2 s2 d2 g2 clock w (by omega) hl heq).mono ?_;rintro e w' ⟨rfl,k⟩;exact⟨rfl,k⟩)
  by_cases GH:a=3
  ·
   subst GH;by_cases hb:1<b
   ·
    rw[show aW h s d g 3 b i u clock true=some (3,b-1,i) from by simp[aW,hb]]
    (refine(ru c h c2 h2 v p s d g b i u v2 p2 s2 d2 g2 clock w hb hbb heq).mono ?_;rintro e w' ⟨rfl,k⟩;exact⟨rfl,k⟩)
   rw[show aW h s d g 3 b i u clock true=some (4,d,i) from by simp[aW,hb]]
   (refine(rx c h c2 h2 v p s d g b i u v2 p2 s2 d2 g2 clock w (by omega) heq).mono ?_;rintro e w' ⟨rfl,k⟩;exact⟨rfl,k⟩)
  by_cases GI:a=4
  ·
   subst GI;by_cases hb:1<b
   ·
    rw[show aW h s d g 4 b i u clock true=some (4,b-1,i) from by simp[aW,hb]]
    (refine(ry c h c2 h2 v p s d g b i u v2 p2 s2 d2 g2 clock w hb hbb (by simp;omega) heq).mono ?_;rintro e w' ⟨rfl,k⟩;exact⟨rfl,k⟩)
   by_cases hb1:b=1
   ·
    subst hb1;by_cases hi:i<1000
    ·
     rw[show aW h s d g 4 1 i u clock true=some (5,eJ (i+1),i+1) from by simp[aW,hi]]
     (refine(rA c h c2 h2 v p s d g i u v2 p2 s2 d2 g2 clock w hi hii heq).mono ?_;rintro e w' ⟨rfl,k⟩;exact⟨rfl,k⟩)
    rw[show aW h s d g 4 1 i u clock true=some (5,eJ i,i) from by simp[aW,hi]]
    (refine(rB c h c2 h2 v p s d g i u v2 p2 s2 d2 g2 clock w (by omega) heq).mono ?_;rintro e w' ⟨rfl,k⟩;exact⟨rfl,k⟩)
   rw[show aW h s d g 4 b i u clock true=some (4,b,i) from by simp[aW,hb,hb1]]
   (refine(rC c h c2 h2 v p s d g b i u v2 p2 s2 d2 g2 clock w (by omega) (by simpa using hb1) heq).mono ?_;rintro e w' ⟨rfl,k⟩;exact⟨rfl,k⟩)
  have hoth:aW h s d g a b i u clock true=if 1<b then some (a,b-1,i)else some (a,b,i):=by simp[aW,h6,Dc,h1a,GG,GH,GI]
  rw[hoth];by_cases hlt:a<1
  ·
   by_cases hb:1<b
   ·
    rw[if_pos hb]
    (refine(rD c h c2 h2 v p s d g a b i u v2 p2 s2 d2 g2 clock w hlt hb hbb heq).mono ?_;rintro e w' ⟨rfl,k⟩;exact⟨rfl,k⟩)
   rw[if_neg hb]
   (refine(rE c h c2 h2 v p s d g a b i u v2 p2 s2 d2 g2 clock w hlt (by omega) heq).mono ?_;rintro e w' ⟨rfl,k⟩;exact⟨rfl,k⟩)
  by_cases hb:1<b
  ·
   rw[if_pos hb]
   (refine(rF c h c2 h2 v p s d g a b i u v2 p2 s2 d2 g2 clock w (by omega) (by omega) hb hbb heq).mono ?_;rintro e w' ⟨rfl,k⟩;exact⟨rfl,k⟩)
  rw[if_neg hb]
  (refine(rG c h c2 h2 v p s d g a b i u v2 p2 s2 d2 g2 clock w (by omega) (by omega) (by omega) heq).mono ?_;rintro e w' ⟨rfl,k⟩;exact⟨rfl,k⟩)
theorem rH(c h c2 h2:ByteArray)(v p s d g a b i u v2 p2 s2 d2 g2 clock:Int)(wanted:Bool)(w:World)(hbb:b<=9223372036854775807)(hii:-9223372036854775808<=i):
  Calls prog 84 #[.agg (aL c v h p s d g a b i u),.agg (aX c2 v2 h2 p2 s2 d2 g2),.bool wanted,.int .i64 clock] w fun e w'=>e=.returned (EM c h v p s d g u (aW h s d g a b i u clock (wanted&&fL c h c2 h2 v p s d g v2 p2 s2 d2 g2)))/\Below w.heap.size w w':=by
 have fw:∀(x:Bool),x=false->a≠6->aW h s d g a b i u clock x=if bq a=true then some (6,g,i)else none:=by intro x hx h6;subst hx;simp[aW,h6]
 cases wanted
 ·
  simp only[Bool.false_and];by_cases h6:a=6
  ·
   subst h6;by_cases hb:1<b
   ·
    rw[show aW h s d g 6 b i u clock false=some (6,b-1,i) from by simp[aW,hb]]
    (refine(o6 c h c2 h2 v p s d g b i u v2 p2 s2 d2 g2 clock w hb hbb).mono ?_;rintro e w' ⟨rfl,k⟩;exact⟨rfl,k⟩)
   rw[show aW h s d g 6 b i u clock false=none from by simp[aW,hb]]
   (refine(pe c h c2 h2 v p s d g b i u v2 p2 s2 d2 g2 clock w (by omega)).mono ?_;rintro e w' ⟨rfl,k⟩;exact⟨rfl,k⟩)
  have h6':(a != 6)=true:=by simpa using h6
  rw[fw _ rfl h6];cases ha:bq a;·(refine(rI c h c2 h2 v p s d g a b i u v2 p2 s2 d2 g2 clock w ha h6').mono ?_;rintro e w' ⟨rfl,k⟩;exact⟨rfl,k⟩)
  (refine(rJ c h c2 h2 v p s d g a b i u v2 p2 s2 d2 g2 clock w ha h6').mono ?_;rintro e w' ⟨rfl,k⟩;exact⟨rfl,k⟩)
 ·
  simp only[Bool.true_and];cases hs:fL c h c2 h2 v p s d g v2 p2 s2 d2 g2
  ·
   have heq:∀w,Sem.run prog (binOp .neq 37 (.agg (aX c2 v2 h2 p2 s2 d2 g2)) (.agg (aX c v h p s d g))) w=.ok (.bool true) w:=fun w=>by rw[jB,hs];rfl
   by_cases h6:a=6
   ·
    subst h6;by_cases hb:1<b
    ·
     rw[show aW h s d g 6 b i u clock false=some (6,b-1,i) from by simp[aW,hb]]
     (refine(pj c h c2 h2 v p s d g b i u v2 p2 s2 d2 g2 clock w hb hbb heq).mono ?_;rintro e w' ⟨rfl,k⟩;exact⟨rfl,k⟩)
    rw[show aW h s d g 6 b i u clock false=none from by simp[aW,hb]]
    (refine(po c h c2 h2 v p s d g b i u v2 p2 s2 d2 g2 clock w (by omega) heq).mono ?_;rintro e w' ⟨rfl,k⟩;exact⟨rfl,k⟩)
   have h6':(a != 6)=true:=(by simpa using h6);rw[fw _ rfl h6];cases ha:bq a;·(refine(rK c h c2 h2 v p s d g a b i u v2 p2 s2 d2 g2 clock w ha h6' heq).mono ?_;rintro e w' ⟨rfl,k⟩;exact⟨rfl,k⟩)
   (refine(rL c h c2 h2 v p s d g a b i u v2 p2 s2 d2 g2 clock w ha h6' heq).mono ?_;rintro e w' ⟨rfl,k⟩;exact⟨rfl,k⟩)
  have heq:∀w,Sem.run prog (binOp .neq 37 (.agg (aX c2 v2 h2 p2 s2 d2 g2)) (.agg (aX c v h p s d g))) w=.ok (.bool false) w:=fun w=>by rw[jB,hs];rfl
  clear fw;by_cases h6:a=6
  ·
   subst h6;by_cases hb:1<b
   ·
    rw[show aW h s d g 6 b i u clock true=some (6,b-1,i) from by simp[aW,hb]]
    (refine(pu c h c2 h2 v p s d g b i u v2 p2 s2 d2 g2 clock w hb hbb heq).mono ?_;rintro e w' ⟨rfl,k⟩;exact⟨rfl,k⟩)
   rw[show aW h s d g 6 b i u clock true=none from by simp[aW,hb]]
   (refine(pv c h c2 h2 v p s d g b i u v2 p2 s2 d2 g2 clock w (by omega) heq).mono ?_;rintro e w' ⟨rfl,k⟩;exact⟨rfl,k⟩)
  by_cases Dc:a=2
  ·
   subst Dc;cases hl:bj h u clock
   ·
    rw[show aW h s d g 2 b i u clock true=some (2,0,i) from by simp[aW,hl]]
    (refine(rM c h c2 h2 v p s d g b i u v2 p2 s2 d2 g2 clock w hl heq).mono ?_;rintro e w' ⟨rfl,k⟩;exact⟨rfl,k⟩)
   rw[show aW h s d g 2 b i u clock true=some (3,s,i) from by simp[aW,hl]]
   (refine(rN c h c2 h2 v p s d g b i u v2 p2 s2 d2 g2 clock w hl heq).mono ?_;rintro e w' ⟨rfl,k⟩;exact⟨rfl,k⟩)
  by_cases h1a:a=1
  ·
   subst h1a;by_cases hb:1<b
   ·
    rw[show aW h s d g 1 b i u clock true=some (1,b-1,i) from by simp[aW,hb]]
    (refine(rO c h c2 h2 v p s d g b i u v2 p2 s2 d2 g2 clock w hb hbb heq).mono ?_;rintro e w' ⟨rfl,k⟩;exact⟨rfl,k⟩)
   cases hl:bj h u clock
   ·
    rw[show aW h s d g 1 b i u clock true=some (2,0,i) from by simp[aW,hb,hl]]
    (refine(rP c h c2 h2 v p s d g b i u v2 p2 s2 d2 g2 clock w (by omega) hl heq).mono ?_;rintro e w' ⟨rfl,k⟩;exact⟨rfl,k⟩)
   rw[show aW h s d g 1 b i u clock true=some (3,s,i) from by simp[aW,hb,hl]]
   (refine(rQ c h c2 h2 v p s d g b i u v2 p2 s2 d2 g2 clock w (by omega) hl heq).mono ?_;rintro e w' ⟨rfl,k⟩;exact⟨rfl,k⟩)
  by_cases GG:a=5
  ·
   subst GG;by_cases hb:1<b
   ·
    rw[show aW h s d g 5 b i u clock true=some (5,b-1,i) from by simp[aW,hb]]
    (refine(rR c h c2 h2 v p s d g b i u v2 p2 s2 d2 g2 clock w hb hbb heq).mono ?_;rintro e w' ⟨rfl,k⟩;exact⟨rfl,k⟩)
   cases hl:bj h u clock
   ·
    rw[show aW h s d g 5 b i u clock true=some (2,0,i) from by simp[aW,hb,hl]]
    (refine(rS c h c2 h2 v p s d g b i u v2 p2 s2 d2 g2 clock w (by omega) hl heq).mono ?_;rintro e w' ⟨rfl,k⟩;exact⟨rfl,k⟩)
   rw[show aW h s d g 5 b i u clock true=some (3,s,i) from by simp[aW,hb,hl]]
   (refine(rT c h c2 h2 v p s d g b i u v2 p2 s2 d2 g2 clock w (by omega) hl heq).mono ?_;rintro e w' ⟨rfl,k⟩;exact⟨rfl,k⟩)
  by_cases GH:a=3
  ·
   subst GH;by_cases hb:1<b
   ·
    rw[show aW h s d g 3 b i u clock true=some (3,b-1,i) from by simp[aW,hb]]
    (refine(rU c h c2 h2 v p s d g b i u v2 p2 s2 d2 g2 clock w hb hbb heq).mono ?_;rintro e w' ⟨rfl,k⟩;exact⟨rfl,k⟩)
   rw[show aW h s d g 3 b i u clock true=some (4,d,i) from by simp[aW,hb]]
   (refine(rV c h c2 h2 v p s d g b i u v2 p2 s2 d2 g2 clock w (by omega) heq).mono ?_;rintro e w' ⟨rfl,k⟩;exact⟨rfl,k⟩)
  by_cases GI:a=4
  ·
   subst GI;by_cases hb:1<b
   ·
    rw[show aW h s d g 4 b i u clock true=some (4,b-1,i) from by simp[aW,hb]]
    (refine(rW c h c2 h2 v p s d g b i u v2 p2 s2 d2 g2 clock w hb hbb heq).mono ?_;rintro e w' ⟨rfl,k⟩;exact⟨rfl,k⟩)
   by_cases hb1:b=1
   ·
    subst hb1;by_cases hi:i<1000
    ·
     rw[show aW h s d g 4 1 i u clock true=some (5,eJ (i+1),i+1) from by simp[aW,hi]]
     (refine(rX c h c2 h2 v p s d g i u v2 p2 s2 d2 g2 clock w hi hii heq).mono ?_;rintro e w' ⟨rfl,k⟩;exact⟨rfl,k⟩)
    rw[show aW h s d g 4 1 i u clock true=some (5,eJ i,i) from by simp[aW,hi]]
    (refine(rY c h c2 h2 v p s d g i u v2 p2 s2 d2 g2 clock w (by omega) heq).mono ?_;rintro e w' ⟨rfl,k⟩;exact⟨rfl,k⟩)
   rw[show aW h s d g 4 b i u clock true=some (4,b,i) from by simp[aW,hb,hb1]]
   (refine(rZ c h c2 h2 v p s d g b i u v2 p2 s2 d2 g2 clock w (by omega) (by simpa using hb1) heq).mono ?_;rintro e w' ⟨rfl,k⟩;exact⟨rfl,k⟩)
  have hoth:aW h s d g a b i u clock true=if 1<b then some (a,b-1,i)else some (a,b,i):=by simp[aW,h6,Dc,h1a,GG,GH,GI]
  rw[hoth];by_cases hb:1<b
  ·
   rw[if_pos hb]
   (refine(tA c h c2 h2 v p s d g a b i u v2 p2 s2 d2 g2 clock w (by simpa using h1a) (by simpa using Dc) (by simpa using Dc) (by simpa using GH) (by simpa using GI) (by simpa using GG) (by simpa using h6) (by simpa using h6) hb hbb heq).mono ?_;rintro e w' ⟨rfl,k⟩;exact⟨rfl,k⟩)
  rw[if_neg hb]
  (refine(tB c h c2 h2 v p s d g a b i u v2 p2 s2 d2 g2 clock w (by simpa using h1a) (by simpa using Dc) (by simpa using Dc) (by simpa using GH) (by simpa using GI) (by simpa using GG) (by simpa using h6) (by simpa using h6) (by omega) heq).mono ?_;rintro e w' ⟨rfl,k⟩;exact⟨rfl,k⟩)
theorem W.Sl.low{w:World}{v:Value}{l:List W.ay}{B B':Nat}(h:W.Sl w v l B)(hB:B'<=B):W.Sl w v l B':=by
 rcases h with h|⟨g,cap,h0,h1,h2,h3,h4⟩;·exact Or.inl h
 exact Or.inr ⟨g,cap,h0,Nat.le_trans hB h1,h2,h3,h4⟩
theorem W.Sl.shape{w:World}{v:Value}{l:List W.ay}{B:Nat}(h:W.Sl w v l B):∃a c,v=.slice a l.length c:=by
 rcases h with⟨rfl,rfl⟩|⟨g,cap,rfl,-⟩;·exact⟨none,0,rfl⟩
 exact⟨_,_,rfl⟩
theorem W.Sl.one{w:World}{v:Value}{l:List W.ay}{B:Nat}(h:W.Sl w v l B):v.oneCell'=true:=by rcases h with⟨rfl,-⟩|⟨g,cap,rfl,-⟩<;>rfl
theorem Sl.low{w:World}{v:Value}{l:List aw}{B B':Nat}(h:Sl w v l B)(hB:B'<=B):Sl w v l B':=by
 rcases h with h|⟨g,cap,h0,h1,h2,h3,h4⟩;·exact Or.inl h
 exact Or.inr ⟨g,cap,h0,Nat.le_trans hB h1,h2,h3,h4⟩
theorem Sl.shape{w:World}{v:Value}{l:List aw}{B:Nat}(h:Sl w v l B):∃a c,v=.slice a l.length c:=by
 rcases h with⟨rfl,rfl⟩|⟨g,cap,rfl,-⟩;·exact⟨none,0,rfl⟩
 exact⟨_,_,rfl⟩
theorem Sl.one{w:World}{v:Value}{l:List aw}{B:Nat}(h:Sl w v l B):v.oneCell'=true:=by rcases h with⟨rfl,-⟩|⟨g,cap,rfl,-⟩<;>rfl
theorem A.Sl.low{w:World}{v:Value}{l:List A.aC}{B B':Nat}(h:A.Sl w v l B)(hB:B'<=B):A.Sl w v l B':=by
 rcases h with h|⟨g,cap,h0,h1,h2,h3,h4⟩;·exact Or.inl h
 exact Or.inr ⟨g,cap,h0,Nat.le_trans hB h1,h2,h3,h4⟩
theorem A.Sl.shape{w:World}{v:Value}{l:List A.aC}{B:Nat}(h:A.Sl w v l B):∃a c,v=.slice a l.length c:=by
 rcases h with⟨rfl,rfl⟩|⟨g,cap,rfl,-⟩;·exact⟨none,0,rfl⟩
 exact⟨_,_,rfl⟩
theorem A.Sl.one{w:World}{v:Value}{l:List A.aC}{B:Nat}(h:A.Sl w v l B):v.oneCell'=true:=by rcases h with⟨rfl,-⟩|⟨g,cap,rfl,-⟩<;>rfl
theorem ones(m:aj){w1 w2 w3 w4:World}{a1 a2 a3 a4:Option Addr}{p1 p2 p3 p4 B1 B2 B3 B4:Nat}(h1:W.Sl w1 (ai a1 m.ws p1) m.ws B1)(h2:Sl w2 (ai a2 m.rs p2) m.rs B2)(h3:A.Sl w3 (ai a3 m.qs p3) m.qs B3)(h4:A.Sl w4 (ai a4 m.gs p4) m.gs B4):∀u∈([.string m.nm,.bool m.up,.int .i64 m.ck,.bool m.kn,.int .i64 m.se,(ai a1 m.ws p1),(ai a2 m.rs p2),(ai a3 m.qs p3),(ai a4 m.gs p4)]:List Value),u.oneCell'=true:=by
 intro u hu;simp only[List.mem_cons,List.not_mem_nil,or_false]at hu;rcases hu with rfl|rfl|rfl|rfl|rfl|rfl|rfl|rfl|rfl;·rfl
 ·rfl
 ·rfl
 ·rfl
 ·rfl
 ·exact W.Sl.one h1
 ·exact Sl.one h2
 ·exact A.Sl.one h3
 exact A.Sl.one h4
theorem bC{v:Value}{N k:Nat}(h:∀g,v.ownBlock=some g->N<g)(hk:k<=N):v.ownBlock=none\/v.ownBlock≠some k:=by
 cases hv:v.ownBlock with
 |none=>exact Or.inl rfl
 |some g=>exact Or.inr (fun e=>by cases e;have:=h k hv;omega)
theorem cj{a b:Value}{N N':Nat}(h1:∀g,a.ownBlock=some g->g<N)(h2:∀g,b.ownBlock=some g->N'<=g)(h:N<=N'):eh a b:=by
 cases ha:a.ownBlock with
 |none=>exact Or.inl ha
 |some g=>exact Or.inr (fun e=>by rw[ha]at e;have:=h1 g ha;have:=h2 g e.symm;omega)
set_option maxRecDepth 4000
set_option maxHeartbeats 1000000
theorem tI(c h:ByteArray)(v p s d g a b i u clock:Int)(w:World)(hc:c.size<=maxLen)(hh:h.size<=maxLen)(q:Bool)(hq:eL c h v p s d g a b i u clock=q):
  Calls prog 129 #[.agg (aL c v h p s d g a b i u),.int .i64 clock] w fun e w'=>e=.returned (.bool q)/\Below w.heap.size w w':=by
 rw[<-hq];exact px c h v p s d g a b i u clock w hc hh
theorem Dg(c h:ByteArray)(v p s d g a b i u:Int)(w:World):
  Calls prog 66 #[.agg (aL c v h p s d g a b i u)] w fun e w'=>e=.returned (.agg (aL c v h p s d g a b i u))/\Below w.heap.size w w':=by
 refine mr (bA c h v p s d g a b i u w) ?_;exact⟨rfl,by repeat (first|exact bR|refine ae ?_ _)⟩
theorem Az{w w':World}{bk:Nat}{clock:Int}{r:aw}(hc:w.cell? ⟨bk,0,none⟩=some (.int .i64 clock))(lk:bk<w.heap.size)(hb:Below (w.alloc (.cells (aL r.c r.v r.h r.p r.s r.d r.g r.a r.b r.i r.u) 39)).heap.size (w.alloc (.cells (aL r.c r.v r.h r.p r.s r.d r.g r.a r.b r.i r.u) 39)) w'):
  Below (w.alloc (.cells (aL r.c r.v r.h r.p r.s r.d r.g r.a r.b r.i r.u) 39)).heap.size (w.alloc (.cells (aL r.c r.v r.h r.p r.s r.d r.g r.a r.b r.i r.u) 39)) w'/\(IJ w' w.heap.size r.c r.v r.h r.p r.s r.d r.g r.a r.b r.i r.u)/\w'.cell? ⟨bk,0,none⟩=some (.int .i64 clock):=by
 have hk:=aJ hb;refine⟨hb,⟨by rw[hk 0];simp[go_sem],by rw[hk 1];simp[go_sem],by rw[hk 2];simp[go_sem],by rw[hk 3];simp[go_sem],by rw[hk 4];simp[go_sem],by rw[hk 5];simp[go_sem],by rw[hk 6];simp[go_sem],by rw[hk 7];simp[go_sem],by rw[hk 8];simp[go_sem],by rw[hk 9];simp[go_sem],by rw[hk 10];simp[go_sem]⟩,?_⟩;rw[hb.cell (p:=⟨bk,0,none⟩) (by simp;omega),World.cell?_alloc_past _ _ _ lk];exact hc
theorem GM(r:aw)(clock:Int)(bk:Nat)(w:World)(hc:w.cell? ⟨bk,0,none⟩=some (.int .i64 clock))(lk:bk<w.heap.size)(hf:r.fits):
  Calls prog 128 #[.agg (aL r.c r.v r.h r.p r.s r.d r.g r.a r.b r.i r.u),.pointer (some ⟨bk,0,none⟩)] w fun e w'=>e=.returned (.bool (r.ok clock))/\Below w.heap.size w w':=by
 obtain⟨q,hq⟩:∃q,r.ok clock=q:=⟨_,rfl⟩
 rw[hq];have Hq:=ah hq;have Hc:=ah hc;clear hq hc;go_enter func128,ntmps128
 go_wp2_with fail
 go_region_held3 (fun w'=>Below (w.alloc (.cells (aL r.c r.v r.h r.p r.s r.d r.g r.a r.b r.i r.u) 39)).heap.size (w.alloc (.cells (aL r.c r.v r.h r.p r.s r.d r.g r.a r.b r.i r.u) 39)) w'/\(IJ w' w.heap.size r.c r.v r.h r.p r.s r.d r.g r.a r.b r.i r.u)/\w'.cell? ⟨bk,0,none⟩=some (.int .i64 clock))
  (first|exact Az Hc.out lk bD|exact Az Hc.out lk (af bD hx)|exact Az Hc.out lk (af (af bD hx) hy))
  (first|(go_at_call 66;refine(Dg r.c r.h r.v r.p r.s r.d r.g r.a r.b r.i r.u _).mono ?_;rintro e w' ⟨rfl,hx⟩)|(go_at_call 129;refine(tI r.c r.h r.v r.p r.s r.d r.g r.a r.b r.i r.u clock _ hf.1 hf.2.1 q Hq.out).mono ?_;rintro e w'' ⟨rfl,hy⟩))
 have y1:=af (af (au (Below.refl _ (w.alloc (.cells (aL r.c r.v r.h r.p r.s r.d r.g r.a r.b r.i r.u) 39)))) hx) hy;have Hb1:Hid _:=af (ae (Below.refl _ w) _) y1;clear hx hy y1;go_wp2
 go_ret
 exact⟨rfl,Hb1.out⟩
theorem xS(clock:Int)(rs:List aw):dW clock rs rs.length↔(fh rs rs.length/\∀r∈rs,r.ok clock=true):=by
 constructor
 ·
  intro h;refine⟨fun j q r hj hq hr=>?_,fun r hr=>?_⟩
  ·
   have:=h (j+1) r hj hr;simp only[eI,hq,Bool.and_eq_true]at this;exact this.2
  obtain⟨j,hj⟩:=List.getElem?_of_mem hr;have:=h j r (List.getElem?_eq_some_iff.1 hj).1 hj;simp only[eI,Bool.and_eq_true]at this;exact this.1
 rintro⟨h1,h2⟩ j r hj hr;simp only[eI,Bool.and_eq_true];refine⟨h2 r (List.mem_of_getElem? hr),?_⟩;cases j with
 |zero=>rfl
 |succ i=>
  obtain⟨q,hq⟩:∃q,rs[i]?=some q:=⟨rs[i],List.getElem?_eq_getElem (by omega)⟩
  simp only[hq];exact h1 i q r hj hq hr
def Ls(q:Bool)(clock:Int)(rs:List aw):Prop:=q=true↔rs.length<=20/\(fh rs rs.length/\∀r∈rs,r.ok clock=true)
theorem sg(b off cap:Nat)(rs:List aw)(clock:Int)(w:World)(hR:aG w b off rs)(l1:b<w.heap.size)(hfit:∀r∈rs,r.fits)(hl:rs.length<=1048576):
  Calls prog 91 #[.slice (some ⟨b,off,none⟩) rs.length cap,.int .i64 clock] w fun e w'=>(∃q:Bool,e=.returned (.bool q)/\Ls q clock rs)/\Below w.heap.size w w':=by
 by_cases h20:rs.length<=20
 ·
  have Pe:(rs.length:Int)<=20:=by omega
  go_enter func91,ntmps91
  go_wp2_with fail
  have hb0:Below w.heap.size w (w.alloc (.cells #[.int .i64 clock] 3)):=ae bR _;refine(iX b off cap rs _ (hR.keep l1 hb0) (by simp;omega) hl).mono ?_;rintro e w1 ⟨⟨q1,rfl,h1⟩,b1⟩;have B1:=af hb0 b1;have H0:=ah h1;clear h1;cases q1
  ·
   clear hb0 b1;go_wp2
   go_ret
   exact⟨⟨false,rfl,⟨fun h=>(by cases h),fun h=>by have:=H0.out.2 h.2.1;cases this⟩⟩,B1⟩
  have H1:=ah (H0.out.1 rfl);have hck:w1.cell? ⟨w.heap.size,0,none⟩=some (.int .i64 clock):=by rw[aJ b1 0];simp[go_sem]
  have Jq:w.heap.size<w1.heap.size:=jm b1;have NC:=ah hck;clear hck hb0 b1;go_wp2_with fail
  refine(sE w.heap.size (fun r=>r.ok clock) b off cap rs w1 (hR.keep l1 B1) (Nat.lt_of_lt_of_le l1 B1.size) hl (fun r hr x hx=>GM r clock w.heap.size x ((hx.cell (p:=⟨w.heap.size,0,none⟩) Jq).trans NC.out) (Nat.lt_of_lt_of_le Jq hx.size) (hfit r hr))).mono ?_;rintro e w2 ⟨⟨q2,rfl,h2⟩,b2⟩;have B2:=af B1 b2;clear b2;go_wp2
  go_ret
  exact⟨⟨q2,rfl,⟨fun h=>⟨h20,H1.out,h2.1 h⟩,fun h=>h2.2 h.2.2⟩⟩,B2⟩
 ·
  have Pe:(20:Int)<(rs.length:Int):=by omega
  have Un:=ah h20;clear h20;go_enter func91,ntmps91
  go_wp2
  go_ret
  exact⟨Or.inl ⟨rfl,⟨fun h=>(by cases h),fun h=>absurd h.1 Un.out⟩⟩,ae bR _⟩
theorem vj(b off cap:Nat)(rs:List aw)(clock:Int)(w:World)(hR:aG w b off rs)(l1:b<w.heap.size)(hfit:∀r∈rs,r.fits)(hl:rs.length<=1048576):
  Calls prog 91 #[.slice (some ⟨b,off,none⟩) rs.length cap,.int .i64 clock] w fun e w'=>(∃q:Bool,e=.returned (.bool q)/\(q=true↔rs.length<=20/\dW clock rs rs.length))/\Below w.heap.size w w':=by
 refine(sg b off cap rs clock w hR l1 hfit hl).mono ?_;rintro e w' ⟨⟨q,rfl,h⟩,hb⟩;exact⟨⟨q,rfl,by rw[xS];exact h⟩,hb⟩
def tY(q:Bool)(m:aj):Prop:=q=true↔cV m=true
theorem m6{m:aj}(h:m.up=true\/jO m)(hu:m.up=false):jO m:=by
 rcases h with h'|h';·rw[hu]at h';cases h'
 exact h'
theorem mN(r:aw)(w:World):Calls prog 11 #[.agg (aL r.c r.v r.h r.p r.s r.d r.g r.a r.b r.i r.u)] w fun e w'=>e=.returned (.bool (bq r.a))/\Below w.heap.size w w':=by
 go_enter func11,ntmps11
 go_wp2_with (first|(go_at_call 50;refine mr (aV r.a _) ?_)|(go_at_call 66;refine mr (bA r.c r.h r.v r.p r.s r.d r.g r.a r.b r.i r.u _) ?_))
 go_ret
 exact⟨rfl,by repeat (first|exact bR|refine ae ?_ _)⟩
theorem Ee(r:aw)(w:World):Calls prog 97 #[.agg (aL r.c r.v r.h r.p r.s r.d r.g r.a r.b r.i r.u)] w fun e w'=>e=.returned (.bool (!r.h.toList.isEmpty))/\Below w.heap.size w w':=by
 cases he:r.h.toList.isEmpty
 ·
  go_enter func97,ntmps97
  go_wp2
  go_ret
  exact⟨rfl,by repeat (first|exact bR|refine ae ?_ _)⟩
 go_enter func97,ntmps97
 go_wp2
 go_ret
 exact⟨rfl,by repeat (first|exact bR|refine ae ?_ _)⟩
theorem Bh(r:aw)(w:World):Calls prog 96 #[.agg (aL r.c r.v r.h r.p r.s r.d r.g r.a r.b r.i r.u)] w fun e w'=>e=.returned (.bool (dL r))/\Below w.heap.size w w':=by
 cases ha:bq r.a
 ·
  have Hh:Hid (dL r=!r.h.toList.isEmpty):=by show dL r=_;simp[dL,ha]
  go_enter func96,ntmps96
  go_wp2_with fail
  refine(mN r _).mono ?_;rintro e w1 ⟨rfl,c1⟩;have k1:=aJ c1;have C1:=ah c1;clear c1;go_wp2_with fail
  refine(Ee r _).mono ?_;rintro e w2 ⟨rfl,c2⟩;have C2:=ah (af C1.out c2);clear c2;go_wp2
  go_ret
  exact⟨by rw[Hh.out];rfl,af (ae bR _) C2.out⟩
 have Hh:Hid (dL r=true):=by show dL r=_;simp[dL,ha]
 go_enter func96,ntmps96
 go_wp2_with fail
 refine(mN r _).mono ?_;rintro e w1 ⟨rfl,c1⟩;have C1:=ah c1;clear c1;go_wp2
 go_ret
 exact⟨by rw[Hh.out];rfl,af (ae bR _) C1.out⟩
def tT(q:Bool)(m:aj):Prop:=q=true↔Valid m
theorem bV{m:aj}(h:Valid m->False):tT false m:=⟨fun h'=>(by cases h'),fun h'=>(h h').elim⟩
theorem Mv{k:Bool}{n:Nat}(h1:k=false)(h2:0<n)(h:k=true\/n=0):False:=by
 rcases h with h|h;·rw[h1]at h;cases h
 omega
theorem IB{k:Bool}{n:Nat}(h:¬(k=false/\0<n)):k=true\/n=0:=by
 cases hk:k;·exact Or.inr (Nat.eq_zero_of_not_pos (fun h'=>h ⟨hk,h'⟩))
 exact Or.inl rfl
theorem Eh{k:Bool}{n:Nat}(h:k=true\/n=0):(k=true/\(0:Int)<(n:Int))\/n=0:=by
 rcases Nat.eq_zero_or_pos n with h'|h';·exact Or.inr h'
 rcases h with h|h;·exact Or.inl ⟨h,by omega⟩
 omega
theorem qo{qs gs:List A.aC}{k:Nat}{r:A.aC}(h:∀j r,j<k->qs[j]?=some r->¬A.jt gs r.h)(hr:qs[k]?=some r)(hn:¬A.jt gs r.h):∀j r,j<k+1->qs[j]?=some r->¬A.jt gs r.h:=by
 intro j q hj hq;by_cases e:j=k;·subst e;rw[hr]at hq;cases hq;exact hn
 exact h j q (by omega) hq
theorem t8{qs gs:List A.aC}(h:∀j r,j<qs.length->qs[j]?=some r->¬A.jt gs r.h):∀r∈qs,¬A.jt gs r.h:=by intro r hr;obtain⟨j,hj⟩:=List.getElem?_of_mem hr;exact h j r (List.getElem?_eq_some_iff.1 hj).1 hj
theorem jS{rs:List aw}{k:Nat}{r:aw}(h:∀j r,j<k->rs[j]?=some r->dL r=true)(hr:rs[k]?=some r)(hn:dL r=true):∀j r,j<k+1->rs[j]?=some r->dL r=true:=by
 intro j q hj hq;by_cases e:j=k;·subst e;rw[hr]at hq;cases hq;exact hn
 exact h j q (by omega) hq
theorem t9{rs:List aw}(h:∀j r,j<rs.length->rs[j]?=some r->dL r=true):∀r∈rs,dL r=true:=by intro r hr;obtain⟨j,hj⟩:=List.getElem?_of_mem hr;exact h j r (List.getElem?_eq_some_iff.1 hj).1 hj
theorem jT{B:Nat}{w w':World}(h:Below B w w'){n:Nat}:Below B w (w'.drewN n):=⟨h.os,h.tape,h.output,h.size,h.block⟩
theorem lN{m:aj}(h:Valid m)(hu:m.up=false):jO m:=by
 rcases h.2.2.2.2.2 with h'|h';·rw[hu]at h';cases h'
 exact h'
theorem Bj{k:Bool}{a b c:Nat}(h:k=true\/a=0)(hk:k=false)(hl:b+c=0):a+b+c=0:=by
 rcases h with h|h;·rw[hk]at h;cases h
 omega
theorem wA{m:aj}{k:Nat}{r:aw}(hr:m.rs[k]?=some r)(hh:dL r=false)(h:Valid m)(hu:m.up=false):False:=by have:=(lN h hu).2.2.2 r (List.mem_of_getElem? hr);rw[hh]at this;cases this
theorem W.nI(a:Option Addr)(cap:Nat)(w:World):
  Calls prog 38 #[.slice a 0 cap] w fun e w'=>e=.returned (.bool true)/\w'=w:=by
 go_enter func38,ntmps38
 go_wp2
 refine wp_loop_rounds 1 ?_;rw[rounds_succ];go_wp2
 go_ret
 exact⟨rfl,rfl⟩
theorem oR(a:Option Addr)(cap:Nat)(clock:Int)(w:World):
  Calls prog 39 #[.slice a 0 cap,.int .i64 clock] w fun e w'=>e=.returned (.bool true)/\w'=w:=by
 go_enter func39,ntmps39
 go_wp2
 refine wp_loop_rounds 1 ?_;rw[rounds_succ];go_wp2
 go_ret
 exact⟨rfl,rfl⟩
theorem A.oS(a:Option Addr)(cap:Nat)(clock:Int)(w:World):
  Calls prog 40 #[.slice a 0 cap,.int .i64 clock] w fun e w'=>e=.returned (.bool true)/\w'=w:=by
 go_enter func40,ntmps40
 go_wp2
 refine wp_loop_rounds 1 ?_;rw[rounds_succ];go_wp2
 go_ret
 exact⟨rfl,rfl⟩
theorem A.qP(a:Option Addr)(cap:Nat)(x:ByteArray)(w:World):
  Calls prog 41 #[.slice a 0 cap,.string x] w fun e w'=>e=.returned (.int .i64 (-1))/\w'=w:=by
 go_enter func41,ntmps41
 go_wp2
 refine wp_loop_rounds 1 ?_;rw[rounds_succ];go_wp2
 go_ret
 exact⟨rfl,rfl⟩
theorem W.gy(a:Option Addr)(cap:Nat)(ws:List W.ay)(w:World)(h:W.Gv w a ws)(hfit:∀r∈ws,r.fits)(hl:ws.length<=1048576):
  Calls prog 38 #[.slice a ws.length cap] w fun e w'=>(∃q:Bool,e=.returned (.bool q)/\W.Says q ws)/\Below w.heap.size w w':=by
 rcases h with rfl|⟨b,rfl,hb,hR⟩
 ·
  refine mr (W.nI a cap w) ?_;exact⟨⟨true,rfl,⟨fun _=>⟨by simp,(fun j r hj hr=>by simp at hr),(fun j q r hj hq hr=>by simp at hq),(fun j r hj hr=>by simp at hr)⟩,fun _=>rfl⟩⟩,Below.refl _ _⟩
 ·exact W.tt b 0 cap ws w hR hb hfit hl
theorem kj(a:Option Addr)(cap:Nat)(rs:List aw)(clock:Int)(w:World)(h:Gv w a rs)(hfit:∀r∈rs,r.fits)(hl:rs.length<=1048576):
  Calls prog 39 #[.slice a rs.length cap,.int .i64 clock] w fun e w'=>(∃q:Bool,e=.returned (.bool q)/\(q=true↔rs.length<=20/\dW clock rs rs.length))/\Below w.heap.size w w':=by
 rcases h with rfl|⟨b,rfl,hb,hR⟩
 ·
  refine mr (oR a cap clock w) ?_;exact⟨⟨true,rfl,⟨fun _=>⟨by simp,(fun j r hj hr=>by simp at hr)⟩,fun _=>rfl⟩⟩,Below.refl _ _⟩
 ·exact vk b 0 cap rs clock w hR hb hfit hl
theorem A.fD(a:Option Addr)(cap:Nat)(rs:List A.aC)(clock:Int)(w:World)(h:A.Gv w a rs)(hfit:∀r∈rs,r.fits)(hl:rs.length<=1048576):
  Calls prog 40 #[.slice a rs.length cap,.int .i64 clock] w fun e w'=>(∃q:Bool,e=.returned (.bool q)/\A.sD q clock rs)/\Below w.heap.size w w':=by
 rcases h with rfl|⟨b,rfl,hb,hR⟩
 ·
  refine mr (A.oS a cap clock w) ?_;exact⟨⟨true,rfl,⟨fun _=>⟨by simp,(fun j q r hj hq hr=>by simp at hq),(fun r hr=>by simp at hr)⟩,fun _=>rfl⟩⟩,Below.refl _ _⟩
 ·exact A.uD b 0 cap rs clock w hR hb hfit hl
theorem A.cG(a:Option Addr)(cap:Nat)(rs:List A.aC)(x:ByteArray)(w:World)(h:A.Gv w a rs)(hl:rs.length<=1048576):
  Calls prog 41 #[.slice a rs.length cap,.string x] w fun e w'=>e=.returned (.int .i64 (A.fj rs x))/\w'=w:=by
 rcases h with rfl|⟨b,rfl,hb,hR⟩
 ·
  refine mr (A.qP a cap x w) ?_;exact⟨rfl,rfl⟩
 ·exact A.wG b 0 cap rs x w hR hb hl
structure fO(w:World)(m:aj)(a1 a2 a3 a4:Option Addr):Prop where
 r1:W.Gv w a1 m.ws
 r2:Gv w a2 m.rs
 r3:A.Gv w a3 m.qs
 r4:A.Gv w a4 m.gs
theorem fO.keep{w w':World}{m:aj}{a1 a2 a3 a4:Option Addr}(h:fO w m a1 a2 a3 a4)(hB:Below w.heap.size w w'):fO w' m a1 a2 a3 a4:=⟨h.r1.keep hB,h.r2.keep hB,h.r3.keep hB,h.r4.keep hB⟩
def W.Ow(w:World)(v:Value)(l:List W.ay)(B:Nat):Prop:=w.ownsRow B 37 7 v l.length (W.aA l)
theorem W.Ow.sl{w:World}{v:Value}{l:List W.ay}{B:Nat}(h:W.Ow w v l B):W.Sl w v l B:=W.Sl.bE h
theorem W.Ow.grown{w w':World}{v:Value}{l:List W.ay}{B:Nat}{row:Option Nat}(h:W.Ow w v l B)(hg:w.grownBy w' row)(hne:v.ownBlock=none\/v.ownBlock≠row):W.Ow w' v l B:=
 ⟨h.1,h.2.imp id (fun⟨g,cap,cur,h1,h2,h3,h4⟩=>⟨g,cap,cur,h1,h2,by
  have hl:g<w.heap.size:=by
   rcases Nat.lt_or_ge g w.heap.size with h'|h';·exact h'
   rw[Array.getElem?_eq_none h']at h3;cases h3
  have hn:some g≠row:=by subst h1;simpa[Value.ownBlock]using hne
  rw[hg.block g hl hn];exact h3,h4⟩)⟩
theorem W.Ow.keep{w w':World}{v:Value}{l:List W.ay}{B:Nat}(h:W.Ow w v l B)(hb:Below w.heap.size w w'):W.Ow w' v l B:=W.aN h hb
theorem W.Ow.lt{w:World}{v:Value}{l:List W.ay}{B:Nat}(h:W.Ow w v l B):∀g,v.ownBlock=some g->B<=g/\g<w.heap.size:=W.Sl.lt (W.Ow.sl h)
theorem W.Ow.shape{w:World}{v:Value}{l:List W.ay}{B:Nat}(h:W.Ow w v l B):∃a p,v=.slice a l.length p:=W.Sl.shape (W.Ow.sl h)
theorem W.Ow.low{w:World}{v:Value}{l:List W.ay}{B B':Nat}(h:W.Ow w v l B)(hB:B'<=B):W.Ow w v l B':=
 ⟨h.1,h.2.imp id (fun⟨g,cap,cur,h1,h2,h3,h4⟩=>⟨g,cap,cur,h1,Nat.le_trans hB h2,h3,h4⟩)⟩
theorem W.Ow.nil(w:World)(B:Nat):W.Ow w (.slice none 0 0) [] B:=World.ownsRow_nil _ _ _ _
theorem W.Ow.bE{w:World}{v:Value}{l:List W.ay}{B:Nat}(h:w.ownsRow B 37 7 v l.length (W.aA l)):W.Ow w v l B:=h
def Ow(w:World)(v:Value)(l:List aw)(B:Nat):Prop:=w.ownsRow B 39 11 v l.length (aA l)
theorem Ow.sl{w:World}{v:Value}{l:List aw}{B:Nat}(h:Ow w v l B):Sl w v l B:=Sl.bE h
theorem Ow.grown{w w':World}{v:Value}{l:List aw}{B:Nat}{row:Option Nat}(h:Ow w v l B)(hg:w.grownBy w' row)(hne:v.ownBlock=none\/v.ownBlock≠row):Ow w' v l B:=
 ⟨h.1,h.2.imp id (fun⟨g,cap,cur,h1,h2,h3,h4⟩=>⟨g,cap,cur,h1,h2,by
  have hl:g<w.heap.size:=by
   rcases Nat.lt_or_ge g w.heap.size with h'|h';·exact h'
   rw[Array.getElem?_eq_none h']at h3;cases h3
  have hn:some g≠row:=by subst h1;simpa[Value.ownBlock]using hne
  rw[hg.block g hl hn];exact h3,h4⟩)⟩
theorem Ow.keep{w w':World}{v:Value}{l:List aw}{B:Nat}(h:Ow w v l B)(hb:Below w.heap.size w w'):Ow w' v l B:=Go.Proofs.YtlfnpjcjapljpaaGreatDoor.aN h hb
theorem Ow.lt{w:World}{v:Value}{l:List aw}{B:Nat}(h:Ow w v l B):∀g,v.ownBlock=some g->B<=g/\g<w.heap.size:=Sl.lt (Ow.sl h)
theorem Ow.shape{w:World}{v:Value}{l:List aw}{B:Nat}(h:Ow w v l B):∃a p,v=.slice a l.length p:=Sl.shape (Ow.sl h)
theorem Ow.low{w:World}{v:Value}{l:List aw}{B B':Nat}(h:Ow w v l B)(hB:B'<=B):Ow w v l B':=
 ⟨h.1,h.2.imp id (fun⟨g,cap,cur,h1,h2,h3,h4⟩=>⟨g,cap,cur,h1,Nat.le_trans hB h2,h3,h4⟩)⟩
theorem Ow.nil(w:World)(B:Nat):Ow w (.slice none 0 0) [] B:=World.ownsRow_nil _ _ _ _
theorem Ow.bE{w:World}{v:Value}{l:List aw}{B:Nat}(h:w.ownsRow B 39 11 v l.length (aA l)):Ow w v l B:=h
end Go.Proofs.YtlfnpjcjapljpaaGreatDoor
