import Derived.Test.YtlfnpjcjapljpaaGreatDoorRows
import Derived.WalkSpells
import Derived.WalkLawsBesides
import Derived.Laws.EntriesVeiled
import Derived.Deep.RegionHeld3
namespace Go.Proofs.YtlfnpjcjapljpaaGreatDoor
open Go.RowKit
theorem ae{w w':World}(h:Below w.heap.size w w')(o:Obj):Below w.heap.size w (w'.alloc o):=h.alloc h.size o
theorem au{w w':World}(h:Below w.heap.size w w'):Below w.heap.size w w'.drew:=h.drew
theorem af{w w1 w2:World}(h:Below w.heap.size w w1)(k:Below w1.heap.size w1 w2):Below w.heap.size w w2:=h.trans (k.mono h.size)
theorem iY{w w':World}(h:Below w.heap.size w w'){p:Addr}(hp:w.heap.size<=p.block)(u:Value):Below w.heap.size w (w'.setCell p u):=h.setCell hp u
theorem aJ{w w1:World}{o:Obj}(h:Below (w.alloc o).heap.size (w.alloc o) w1):∀k,w1.cell? ⟨w.heap.size,k,none⟩=(w.alloc o).cell? ⟨w.heap.size,k,none⟩:=
 fun k=>h.cell (p:=⟨w.heap.size,k,none⟩) (by simp)
theorem sp:(∀(a:Act)(d:Nat)(v:Value),a.put (some d) v=⟨a.tmps.setIfInBounds d v,a.defers⟩)/\(∀(a:Act)(v:Value),a.put none v=a)/\(∀(α:Type)(l:List α)(i:Nat)(x:α),l.toArray.setIfInBounds i x=(l.set i x).toArray)/\(∀(α:Type)(x y:α)(l:List α),(x::l).set 0 y=y::l)/\(∀(α:Type)(x y:α)(l:List α)(n:Nat),(x::l).set (n+1) y=x::l.set n y)/\(∀(α:Type)(l:List α)(i:Nat)(h:i<l.toArray.size),l.toArray[i]=l[i]'(by simpa using h))/\(∀(α:Type)(x:α)(l:List α)(h:0<(x::l).length),(x::l)[0]=x)/\(∀(α:Type)(x:α)(l:List α)(i:Nat)(h:i+1<(x::l).length),(x::l)[i+1]=l[i]'(by simpa using h)):=
  ⟨fun _ _ _=>rfl,fun _ _=>rfl,fun _ _ _ _=>by simp,fun _ _ _ _=>rfl,fun _ _ _ _ _=>rfl,fun _ _ _ _=>rfl,fun _ _ _ _=>rfl,fun _ _ _ _ _=>rfl⟩
theorem ec(i:Nat){P:Program}{ops:Array Oper}{Q:Exit->Act->World->Prop}{md:Region.Mode}{S:World->Prop}{oi:Oper}{fuel:Nat}{listed:Array Bool}{a:Act}{w:World}(h:wpAnyH P md ops Q S fuel (listed.setIfInBounds i true) (a.put oi.dst undef) w)(hi:ops[i]?=some oi:=by rfl)(hs:Region.noSelect ops=true:=by kernel_rfl)(hf:Region.free md ops listed i=true:=by kernel_rfl)(hr:(Region.ready md ops listed).contains i=true:=by kernel_rfl)(hQ:∀c a w,Q (.panic c) (a.put oi.dst undef) w->Q (.panic c) a w:=by exact fun _ _ _ h=>h)(hy:Region.wanted oi (yielded ops a.tmps)=false:=by rfl)(hS:S w:=by assumption):wpAnyH P md ops Q S (fuel+1) listed a w:=wpAnyH_take hi hs hf hr hQ (Or.inr ⟨hy,rfl⟩) hS h
theorem aF(i:Nat){P:Program}{ops:Array Oper}{Q:Exit->Act->World->Prop}{md:Region.Mode}{S:World->Prop}{oi:Oper}{v:Value}{fuel:Nat}{listed:Array Bool}{a:Act}{w:World}(h:wpAnyH P md ops Q S fuel (listed.setIfInBounds i true) (a.put oi.dst v) w)(hi:ops[i]?=some oi:=by rfl)(hs:Region.noSelect ops=true:=by kernel_rfl)(hf:Region.free md ops listed i=true:=by kernel_rfl)(hr:(Region.ready md ops listed).contains i=true:=by kernel_rfl)(hQ:∀c a w,Q (.panic c) (a.put oi.dst v) w->Q (.panic c) a w:=by exact fun _ _ _ h=>h)(hw:Region.wanted oi (yielded ops a.tmps)=true:=by rfl)(hx:∀w,S w->(execOp a.eval oi).run P w=.ok (.value v) w:=by intro w hSw;(try dsimp only at hSw);go_simp;try (with_reducible rfl))(hS:S w:=by assumption):wpAnyH P md ops Q S (fuel+1) listed a w:=wpAnyH_take hi hs hf hr hQ (Or.inl ⟨hw,hx⟩) hS h
theorem lE{n m:Nat}(h:Nat.ble n m=true):n<=m:=Nat.le_of_ble_eq_true h
theorem ah{p:Prop}(h:p):Hid p:=h
theorem Ep:(∀(α:Type)(x:α)(l:List α)(n:Nat),(x::l).take (n+1)=x::l.take n)/\(∀(α:Type)(l:List α),l.take 0=[])/\(∀(α:Type)(x:α)(l:List α)(n:Nat),(x::l).drop (n+1)=l.drop n)/\(∀(α:Type)(l:List α),l.drop 0=l)/\(∀(α:Type)(x:α)(l m:List α),x::l++m=x::(l++m))/\(∀(α:Type)(l:List α),[]++l=l):=
 ⟨fun _ _ _ _=>rfl,fun _ _=>by simp,fun _ _ _ _=>rfl,fun _ _=>rfl,fun _ _ _ _=>rfl,fun _ _=>rfl⟩
theorem VF{w w1:World}{o:Obj}{j:Nat}{c x:Option Value}(h:c=(w1.alloc o).cell? ⟨w.heap.size,j,none⟩)(hb:w1.cell? ⟨w.heap.size,j,none⟩=x)(hl:w.heap.size<w1.heap.size:=by omega):c=x:=by rw[h,World.cell?_alloc_past _ _ _ hl];exact hb
theorem bR{B:Nat}{w:World}:Below B w w:=Below.refl _ _
theorem bD{w:World}:Below w.heap.size w w.drew:=au (Below.refl _ _)
abbrev ai{α:Type}(x:Option Addr)(l:List α)(n:Nat):Value:=.slice x l.length n
abbrev iT(c:ByteArray)(v:Int)(h:ByteArray)(p s d g:Int):List Value:=[.string c,.int .i64 v,.string h,.int .i64 p,.int .i64 s,.int .i64 d,.int .i64 g]
abbrev aX(c:ByteArray)(v:Int)(h:ByteArray)(p s d g:Int):Array Value:=#[.string c,.int .i64 v,.string h,.int .i64 p,.int .i64 s,.int .i64 d,.int .i64 g]
abbrev ko(c:ByteArray)(v:Int)(h:ByteArray)(p s d g a b i u:Int):List Value:=[.string c,.int .i64 v,.string h,.int .i64 p,.int .i64 s,.int .i64 d,.int .i64 g,.int .i64 a,.int .i64 b,.int .i64 i,.int .i64 u]
abbrev aL(c:ByteArray)(v:Int)(h:ByteArray)(p s d g a b i u:Int):Array Value:=#[.string c,.int .i64 v,.string h,.int .i64 p,.int .i64 s,.int .i64 d,.int .i64 g,.int .i64 a,.int .i64 b,.int .i64 i,.int .i64 u]
abbrev mD(h c:ByteArray)(f t:Int):List Value:=[.string h,.string c,.int .i64 f,.int .i64 t]
abbrev cZ(h c:ByteArray)(f t:Int):Array Value:=#[.string h,.string c,.int .i64 f,.int .i64 t]
abbrev dP(n:ByteArray)(b:Bool)(c:Int)(k:Bool)(e:Int)(x y z w:Value):List Value:=[.string n,.bool b,.int .i64 c,.bool k,.int .i64 e,x,y,z,w]
abbrev bY(n:ByteArray)(b:Bool)(c:Int)(k:Bool)(e:Int)(x y z w:Value):Array Value:=#[.string n,.bool b,.int .i64 c,.bool k,.int .i64 e,x,y,z,w]
abbrev II(k:Int)(b:ByteArray)(s:Int)(v:Value)(h c:ByteArray)(t:Int):List Value:=[.int .i64 k,.string b,.int .i64 s,v,.string h,.string c,.int .i64 t]
abbrev cw(k:Int)(b:ByteArray)(s:Int)(v:Value)(h c:ByteArray)(t:Int):Array Value:=#[.int .i64 k,.string b,.int .i64 s,v,.string h,.string c,.int .i64 t]
abbrev yE(y:World)(b:Nat)(v0:ByteArray)(v1:Int)(v2:ByteArray)(v3 v4 v5 v6:Int):Prop:=y.cell? ⟨b,0,none⟩=some (.string v0)/\y.cell? ⟨b,1,none⟩=some (.int .i64 v1)/\y.cell? ⟨b,2,none⟩=some (.string v2)/\y.cell? ⟨b,3,none⟩=some (.int .i64 v3)/\y.cell? ⟨b,4,none⟩=some (.int .i64 v4)/\y.cell? ⟨b,5,none⟩=some (.int .i64 v5)/\y.cell? ⟨b,6,none⟩=some (.int .i64 v6)
abbrev vP(y:World)(b o:Nat)(v0:ByteArray)(v1:Int)(v2:ByteArray)(v3 v4 v5 v6:Int):Prop:=y.cell? ⟨b,o,none⟩=some (.string v0)/\y.cell? ⟨b,o+1,none⟩=some (.int .i64 v1)/\y.cell? ⟨b,o+2,none⟩=some (.string v2)/\y.cell? ⟨b,o+3,none⟩=some (.int .i64 v3)/\y.cell? ⟨b,o+4,none⟩=some (.int .i64 v4)/\y.cell? ⟨b,o+5,none⟩=some (.int .i64 v5)/\y.cell? ⟨b,o+6,none⟩=some (.int .i64 v6)
abbrev IJ(y:World)(b:Nat)(v0:ByteArray)(v1:Int)(v2:ByteArray)(v3 v4 v5 v6 v7 v8 v9 v10:Int):Prop:=y.cell? ⟨b,0,none⟩=some (.string v0)/\y.cell? ⟨b,1,none⟩=some (.int .i64 v1)/\y.cell? ⟨b,2,none⟩=some (.string v2)/\y.cell? ⟨b,3,none⟩=some (.int .i64 v3)/\y.cell? ⟨b,4,none⟩=some (.int .i64 v4)/\y.cell? ⟨b,5,none⟩=some (.int .i64 v5)/\y.cell? ⟨b,6,none⟩=some (.int .i64 v6)/\y.cell? ⟨b,7,none⟩=some (.int .i64 v7)/\y.cell? ⟨b,8,none⟩=some (.int .i64 v8)/\y.cell? ⟨b,9,none⟩=some (.int .i64 v9)/\y.cell? ⟨b,10,none⟩=some (.int .i64 v10)
abbrev oN(y:World)(b o:Nat)(v0:ByteArray)(v1:Int)(v2:ByteArray)(v3 v4 v5 v6 v7 v8 v9 v10:Int):Prop:=y.cell? ⟨b,o,none⟩=some (.string v0)/\y.cell? ⟨b,o+1,none⟩=some (.int .i64 v1)/\y.cell? ⟨b,o+2,none⟩=some (.string v2)/\y.cell? ⟨b,o+3,none⟩=some (.int .i64 v3)/\y.cell? ⟨b,o+4,none⟩=some (.int .i64 v4)/\y.cell? ⟨b,o+5,none⟩=some (.int .i64 v5)/\y.cell? ⟨b,o+6,none⟩=some (.int .i64 v6)/\y.cell? ⟨b,o+7,none⟩=some (.int .i64 v7)/\y.cell? ⟨b,o+8,none⟩=some (.int .i64 v8)/\y.cell? ⟨b,o+9,none⟩=some (.int .i64 v9)/\y.cell? ⟨b,o+10,none⟩=some (.int .i64 v10)
abbrev Er(y:World)(b:Nat)(v0 v1:ByteArray)(v2 v3:Int):Prop:=y.cell? ⟨b,0,none⟩=some (.string v0)/\y.cell? ⟨b,1,none⟩=some (.string v1)/\y.cell? ⟨b,2,none⟩=some (.int .i64 v2)/\y.cell? ⟨b,3,none⟩=some (.int .i64 v3)
abbrev Bw(y:World)(b o:Nat)(v0 v1:ByteArray)(v2 v3:Int):Prop:=y.cell? ⟨b,o,none⟩=some (.string v0)/\y.cell? ⟨b,o+1,none⟩=some (.string v1)/\y.cell? ⟨b,o+2,none⟩=some (.int .i64 v2)/\y.cell? ⟨b,o+3,none⟩=some (.int .i64 v3)
abbrev BN(y:World)(b:Nat)(v0:ByteArray)(v1:Bool)(v2:Int)(v3:Bool)(v4:Int)(v5 v6 v7 v8:Value):Prop:=y.cell? ⟨b,0,none⟩=some (.string v0)/\y.cell? ⟨b,1,none⟩=some (.bool v1)/\y.cell? ⟨b,2,none⟩=some (.int .i64 v2)/\y.cell? ⟨b,3,none⟩=some (.bool v3)/\y.cell? ⟨b,4,none⟩=some (.int .i64 v4)/\y.cell? ⟨b,5,none⟩=some v5/\y.cell? ⟨b,6,none⟩=some v6/\y.cell? ⟨b,7,none⟩=some v7/\y.cell? ⟨b,8,none⟩=some v8
abbrev VG(y:World)(b o:Nat)(v0:ByteArray)(v1:Bool)(v2:Int)(v3:Bool)(v4:Int)(v5 v6 v7 v8:Value):Prop:=y.cell? ⟨b,o,none⟩=some (.string v0)/\y.cell? ⟨b,o+1,none⟩=some (.bool v1)/\y.cell? ⟨b,o+2,none⟩=some (.int .i64 v2)/\y.cell? ⟨b,o+3,none⟩=some (.bool v3)/\y.cell? ⟨b,o+4,none⟩=some (.int .i64 v4)/\y.cell? ⟨b,o+5,none⟩=some v5/\y.cell? ⟨b,o+6,none⟩=some v6/\y.cell? ⟨b,o+7,none⟩=some v7/\y.cell? ⟨b,o+8,none⟩=some v8
abbrev Ql(y:World)(b:Nat)(v0:Int)(v1:ByteArray)(v2:Int)(v3:Value)(v4 v5:ByteArray)(v6:Int):Prop:=y.cell? ⟨b,0,none⟩=some (.int .i64 v0)/\y.cell? ⟨b,1,none⟩=some (.string v1)/\y.cell? ⟨b,2,none⟩=some (.int .i64 v2)/\y.cell? ⟨b,3,none⟩=some v3/\y.cell? ⟨b,4,none⟩=some (.string v4)/\y.cell? ⟨b,5,none⟩=some (.string v5)/\y.cell? ⟨b,6,none⟩=some (.int .i64 v6)
abbrev ND(y:World)(b o:Nat)(v0:Int)(v1:ByteArray)(v2:Int)(v3:Value)(v4 v5:ByteArray)(v6:Int):Prop:=y.cell? ⟨b,o,none⟩=some (.int .i64 v0)/\y.cell? ⟨b,o+1,none⟩=some (.string v1)/\y.cell? ⟨b,o+2,none⟩=some (.int .i64 v2)/\y.cell? ⟨b,o+3,none⟩=some v3/\y.cell? ⟨b,o+4,none⟩=some (.string v4)/\y.cell? ⟨b,o+5,none⟩=some (.string v5)/\y.cell? ⟨b,o+6,none⟩=some (.int .i64 v6)
theorem mr{P:Program}{f:FuncId}{a:Array Value}{w y:World}{x:Ending}{R:Ending->World->Prop}(h:Calls P f a w fun e z=>e=x/\z=y)(q:R x y):Calls P f a w R:=h.mono fun _ _ h=>by rw[h.1,h.2];exact q
theorem d9{y:World}{b:Nat}{v0 v1 v2 v3 v4 v5 v6 v7 v8:Value}(h:y.rangeAt b 0 [v0,v1,v2,v3,v4,v5,v6,v7,v8]):y.cell? ⟨b,0,none⟩=some v0/\y.cell? ⟨b,1,none⟩=some v1/\y.cell? ⟨b,2,none⟩=some v2/\y.cell? ⟨b,3,none⟩=some v3/\y.cell? ⟨b,4,none⟩=some v4/\y.cell? ⟨b,5,none⟩=some v5/\y.cell? ⟨b,6,none⟩=some v6/\y.cell? ⟨b,7,none⟩=some v7/\y.cell? ⟨b,8,none⟩=some v8:=by
 have g:=fun k v e=>h k v e
 simp only[Nat.zero_add]at g
 exact⟨g 0 _ rfl,g 1 _ rfl,g 2 _ rfl,g 3 _ rfl,g 4 _ rfl,g 5 _ rfl,g 6 _ rfl,g 7 _ rfl,g 8 _ rfl⟩
theorem dJ{P:Program}{md:Region.Mode}{ops:Array Oper}{Q:Exit->Act->World->Prop}{S:World->Prop}{fuel:Nat}{listed:Array Bool}{a:Act}{w:World}(i:Nat){o:Oper}(hr:Region.ready md ops listed=[i])(ho:ops[i]?=some o)(h:∀K':Act->World->Prop,Shut (∀a w,S w->(S w->wpAnyH P md ops Q S fuel (listed.setIfInBounds i true) a w)->K' a w)->if Region.wanted o (yielded ops a.tmps)=true then Oper.wp P o a w K' Q else K' (a.put o.dst undef) w):wpAnyH P md ops Q S (fuel+1) listed a w:=wpAnyH_ready hr (by simp) (AllReadyH.cons ho h AllReadyH.nil)
abbrev iU:Array Value:=#[.string ⟨#[]⟩,.bool false,.int .i64 0,.bool false,.int .i64 0,.slice none 0 0,.slice none 0 0,.slice none 0 0,.slice none 0 0]
open Go.Proofs.Tryz
def bq(a:Int):Bool:=a==3||a==4||a==6
theorem aV(a:Int)(w:World):
  Calls prog 50 #[.int .i64 a] w fun e w'=>e=.returned (.bool (bq a))/\w'=w:=by
 by_cases h3:a=3
 ·
  subst h3;go_enter func50,ntmps50
  go_wp2
  go_ret
  exact⟨rfl,rfl⟩
 ·
  by_cases h4:a=4
  ·
   subst h4;go_enter func50,ntmps50
   go_wp2
   go_ret
   exact⟨rfl,rfl⟩
  have e3:(a==3)=false:=by simpa using h3
  have e4:(a==4)=false:=by simpa using h4
  have ea:bq a=(a==6):=by simp[bq,e3,e4]
  rw[ea];clear ea h3 h4;go_enter func50,ntmps50
  go_wp2
  go_ret
  exact⟨rfl,rfl⟩
set_option linter.unusedVariables false
theorem bA(c h:ByteArray)(v p s d g a b i u:Int)(w:World):
  Calls prog 66 #[.agg (aL c v h p s d g a b i u)] w fun e w'=>e=.returned (.agg (aL c v h p s d g a b i u))/\w'=(w.alloc (.cells (aL c v h p s d g a b i u) 39)).alloc (.cells (aL c v h p s d g a b i u) 98):=by
 go_enter func66,ntmps66
 go_wp2
 exact bodyPost_ret (v:=.agg (aL c v h p s d g a b i u)) (by simp[results,results66,go_sem]) rfl ⟨rfl,rfl⟩
def bj(h:ByteArray)(u clock:Int):Bool:=h.toList.isEmpty||decide (wrap64 (clock+4)<=u)
theorem cC(c h:ByteArray)(v p s d g a b i u clock:Int)(w:World):
  Calls prog 109 #[.agg (aL c v h p s d g a b i u),.int .i64 clock] w fun e w'=>e=.returned (.bool (bj h u clock))/\w'=w.alloc (.cells (aL c v h p s d g a b i u) 98):=by
 unfold bj;cases hh:h.toList.isEmpty
 ·
  go_enter func109,ntmps109
  go_wp2
  go_ret
  exact⟨by simp,rfl⟩
 ·
  go_enter func109,ntmps109
  go_wp2
  go_ret
  exact⟨by simp,rfl⟩
theorem bB(c h:ByteArray)(v p s d g a b i u clock:Int)(w:World):
  Calls prog 82 #[.agg (aL c v h p s d g a b i u),.int .i64 clock] w fun e w'=>e=.returned (.bool (bj h u clock))/\w'=w.alloc (.cells (aL c v h p s d g a b i u) 39):=by
 unfold bj;cases hh:h.toList.isEmpty
 ·
  go_enter func82,ntmps82
  go_wp2
  go_ret
  exact⟨by simp,rfl⟩
 ·
  go_enter func82,ntmps82
  go_wp2
  go_ret
  exact⟨by simp,rfl⟩
theorem aE(c h:ByteArray)(v p s d g a b i u:Int)(w:World):
  Calls prog 42 #[.agg (aL c v h p s d g a b i u)] w fun e w'=>e=.returned (.bool (bq a))/\w'=w.alloc (.cells (aL c v h p s d g a b i u) 39):=by
 by_cases h3:a=3
 ·
  subst h3;go_enter func42,ntmps42
  go_wp2
  go_ret
  exact⟨rfl,rfl⟩
 ·
  by_cases h4:a=4
  ·
   subst h4;go_enter func42,ntmps42
   go_wp2
   go_ret
   exact⟨rfl,rfl⟩
  have e3:(a==3)=false:=by simpa using h3
  have e4:(a==4)=false:=by simpa using h4
  have ea:bq a=(a==6):=by simp[bq,e3,e4]
  rw[ea];clear ea h3 h4;go_enter func42,ntmps42
  go_wp2
  go_ret
  exact⟨rfl,rfl⟩
theorem bT(c h:ByteArray)(v p s d g a b i u:Int)(w:World):
  Calls prog 68 #[.agg (aL c v h p s d g a b i u)] w fun e w'=>e=.returned (.agg (aL c v h p s d g a b i u))/\w'=(w.alloc (.cells (aL c v h p s d g a b i u) 98)).alloc (.cells (aL c v h p s d g a b i u) 39):=by
 go_enter func68,ntmps68
 go_wp2
 exact bodyPost_ret (v:=.agg (aL c v h p s d g a b i u)) (by simp[results,results68,go_sem]) rfl ⟨rfl,rfl⟩
theorem fJ(c h:ByteArray)(v p s d g a b i u:Int)(w:World):
  Calls prog 110 #[.agg (aL c v h p s d g a b i u)] w fun e w'=>e=.returned (.agg (aL c v h p s d g 2 0 i u))/\w'=(w.alloc (.cells (aL c v h p s d g 2 0 i u) 98)).alloc (.cells (aL c v h p s d g 2 0 i u) 98):=by
 go_enter func110,ntmps110
 go_wp2
 exact bodyPost_ret (v:=.agg (aL c v h p s d g 2 0 i u)) (by simp[results,results110,go_sem]) rfl ⟨rfl,rfl⟩
end Go.Proofs.YtlfnpjcjapljpaaGreatDoor
namespace Go.Proofs.YtlfnpjcjapljpaaGreatDoor.W
open Go.RowKit
set_option linter.unusedVariables false
structure ay where
 c:ByteArray
 h:ByteArray
 v:Int
 p:Int
 s:Int
 d:Int
 g:Int
def ay.cells(r:ay):List Value:=[.string r.c,.int .i64 r.v,.string r.h,.int .i64 r.p,.int .i64 r.s,.int .i64 r.d,.int .i64 r.g]
def ay.fits(r:ay):Prop:=r.c.size<=maxLen/\r.h.size<=maxLen
def aG(w:World)(b off:Nat)(rs:List ay):Prop:=∀k r,rs[k]?=some r->w.rangeAt b (off+k*7) r.cells
theorem aG.keep{w w':World}{b off:Nat}{rs:List ay}(h:aG w b off rs)(hb:b<w.heap.size)(hB:Below w.heap.size w w'):aG w' b off rs:=
 fun k r hk j v hj=>(hB.cell (p:=⟨b,off+k*7+j,none⟩) hb).trans (h k r hk j v hj)
theorem aG.at{w:World}{b off:Nat}{rs:List ay}(h:aG w b off rs){k:Nat}{r:ay}(hk:rs[k]?=some r):
  vP w b (off+k*7) r.c r.v r.h r.p r.s r.d r.g:=
 ⟨h k r hk 0 _ rfl,h k r hk 1 _ rfl,h k r hk 2 _ rfl,h k r hk 3 _ rfl,h k r hk 4 _ rfl,h k r hk 5 _ rfl,h k r hk 6 _ rfl⟩
end Go.Proofs.YtlfnpjcjapljpaaGreatDoor.W
namespace Go.Proofs.YtlfnpjcjapljpaaGreatDoor
open Go.Proofs.Tryz Go.RowKit
set_option linter.unusedVariables false
theorem eU{a b:ByteArray}(h:a.toList=b.toList):a=b:=by rw[ByteArray.toList_eq,ByteArray.toList_eq]at h;obtain⟨⟨a⟩⟩:=a;obtain⟨⟨b⟩⟩:=b;simpa using h
def fL(c h c2 h2:ByteArray)(v p s d g v2 p2 s2 d2 g2:Int):Bool:=c2.toList==c.toList&&(v2==v&&(h2.toList==h.toList&&(p2==p&&(s2==s&&(d2==d&&g2==g)))))
theorem iJ(c h c2 h2:ByteArray)(v p s d g v2 p2 s2 d2 g2:Int)(w:World):Sem.run prog (binOp .eql 37 (.agg (aX c2 v2 h2 p2 s2 d2 g2)) (.agg (aX c v h p s d g))) w=.ok (.bool (fL c h c2 h2 v p s d g v2 p2 s2 d2 g2)) w:=by
 unfold fL;rw[run_eql_struct,run_equalIn_agg _ _ _ _ _ (by kernel_rfl) (by kernel_rfl)];simp only[Program.fieldsOf,underlying37,Op.eqFields];simp[go_sem,underlying9,underlying3]
 (repeat' split)<;>simp_all
theorem jB(c h c2 h2:ByteArray)(v p s d g v2 p2 s2 d2 g2:Int)(w:World):Sem.run prog (binOp .neq 37 (.agg (aX c2 v2 h2 p2 s2 d2 g2)) (.agg (aX c v h p s d g))) w=.ok (.bool (!fL c h c2 h2 v p s d g v2 p2 s2 d2 g2)) w:=by
 have hq:=iJ c h c2 h2 v p s d g v2 p2 s2 d2 g2 w;rw[run_eql_struct]at hq;rw[run_neq_struct];cases hr:(Op.equalIn 10000 37 (.agg (aX c2 v2 h2 p2 s2 d2 g2)) (.agg (aX c v h p s d g))).run prog w with
 |ok b w1=>rw[hr]at hq;simp at hq ⊢;obtain⟨rfl,rfl⟩:=hq;simp
 |halt x w1=>rw[hr]at hq;simp[Result.andThen]at hq
theorem same_iff(q r:W.ay):fL r.c r.h q.c q.h r.v r.p r.s r.d r.g q.v q.p q.s q.d q.g=true↔q=r:=by
 obtain⟨qc,qh,qv,qp,qs,qd,qg⟩:=q;obtain⟨rc,rh,rv,rp,rs,rd,rg⟩:=r;simp only[fL,Bool.and_eq_true,beq_iff_eq,W.ay.mk.injEq];constructor
 ·
  rintro⟨h1,h2,h3,h4,h5,h6,h7⟩;exact⟨eU h1,eU h3,h2,h4,h5,h6,h7⟩
 rintro⟨h1,h2,h3,h4,h5,h6,h7⟩;exact⟨by rw[h1],h3,by rw[h2],h4,h5,h6,h7⟩
structure aw where
 c:ByteArray
 h:ByteArray
 v:Int
 p:Int
 s:Int
 d:Int
 g:Int
 a:Int
 b:Int
 i:Int
 u:Int
def aw.cells(r:aw):List Value:=[.string r.c,.int .i64 r.v,.string r.h,.int .i64 r.p,.int .i64 r.s,.int .i64 r.d,.int .i64 r.g,.int .i64 r.a,.int .i64 r.b,.int .i64 r.i,.int .i64 r.u]
def aw.fits(r:aw):Prop:=r.c.size<=maxLen/\r.h.size<=maxLen/\r.b<=9223372036854775807/\-9223372036854775808<=r.i
def aG(w:World)(b off:Nat)(rs:List aw):Prop:=∀k r,rs[k]?=some r->w.rangeAt b (off+k*11) r.cells
theorem aG.keep{w w':World}{b off:Nat}{rs:List aw}(h:aG w b off rs)(hb:b<w.heap.size)(hB:Below w.heap.size w w'):aG w' b off rs:=
 fun k r hk j v hj=>(hB.cell (p:=⟨b,off+k*11+j,none⟩) hb).trans (h k r hk j v hj)
theorem aG.at{w:World}{b off:Nat}{rs:List aw}(h:aG w b off rs){k:Nat}{r:aw}(hk:rs[k]?=some r):
  oN w b (off+k*11) r.c r.v r.h r.p r.s r.d r.g r.a r.b r.i r.u:=
 ⟨h k r hk 0 _ rfl,h k r hk 1 _ rfl,h k r hk 2 _ rfl,h k r hk 3 _ rfl,h k r hk 4 _ rfl,h k r hk 5 _ rfl,h k r hk 6 _ rfl,h k r hk 7 _ rfl,h k r hk 8 _ rfl,h k r hk 9 _ rfl,h k r hk 10 _ rfl⟩
end Go.Proofs.YtlfnpjcjapljpaaGreatDoor
namespace Go.Proofs.YtlfnpjcjapljpaaGreatDoor.A
open Go.RowKit
set_option linter.unusedVariables false
structure aC where
 h:ByteArray
 c:ByteArray
 f:Int
 t:Int
def aC.cells(r:aC):List Value:=[.string r.h,.string r.c,.int .i64 r.f,.int .i64 r.t]
def aC.fits(r:aC):Prop:=r.h.size<=maxLen/\r.c.size<=maxLen
def aG(w:World)(b off:Nat)(rs:List aC):Prop:=∀k r,rs[k]?=some r->w.rangeAt b (off+k*4) r.cells
theorem aG.keep{w w':World}{b off:Nat}{rs:List aC}(h:aG w b off rs)(hb:b<w.heap.size)(hB:Below w.heap.size w w'):aG w' b off rs:=
 fun k r hk j v hj=>(hB.cell (p:=⟨b,off+k*4+j,none⟩) hb).trans (h k r hk j v hj)
theorem aG.at{w:World}{b off:Nat}{rs:List aC}(h:aG w b off rs){k:Nat}{r:aC}(hk:rs[k]?=some r):
  Bw w b (off+k*4) r.h r.c r.f r.t:=
 ⟨h k r hk 0 _ rfl,h k r hk 1 _ rfl,h k r hk 2 _ rfl,h k r hk 3 _ rfl⟩
end Go.Proofs.YtlfnpjcjapljpaaGreatDoor.A
namespace Go.Proofs.YtlfnpjcjapljpaaGreatDoor
open Go.Proofs.Tryz Go.RowKit
set_option maxHeartbeats 400000
set_option linter.unusedVariables false
def cA(n low high:Int):Bool:=decide (low<=n)&&decide (n<=high)
def nV(c:UInt8):Bool:=decide (33<=(c.toNat:Int))&&decide ((c.toNat:Int)<=126)
def cF(s:ByteArray):Bool:=cA s.size 1 20&&s.data.toList.all nV
theorem aI(n low high:Int)(w:World):Calls prog 28 #[.int .i64 n,.int .i64 low,.int .i64 high] w fun e w'=>e=.returned (.bool (cA n low high))/\w'=w:=by
 unfold cA;by_cases h1:low<=n
 ·
  rw[decide_eq_true h1,Bool.true_and];go_enter func28,ntmps28
  go_wp2
  go_ret
  exact⟨rfl,rfl⟩
 rw[decide_eq_false h1,Bool.false_and];go_enter func28,ntmps28
 go_wp2
 go_ret
 exact⟨rfl,rfl⟩
theorem aP(n low high:Int)(w:World):Calls prog 19 #[.int .i64 n,.int .i64 low,.int .i64 high] w fun e w'=>e=.returned (.bool (cA n low high))/\w'=w:=by
 unfold cA;by_cases h1:low<=n
 ·
  rw[decide_eq_true h1,Bool.true_and];go_enter func19,ntmps19
  go_wp2
  go_ret
  exact⟨rfl,rfl⟩
 rw[decide_eq_false h1,Bool.false_and];go_enter func19,ntmps19
 go_wp2
 go_ret
 exact⟨rfl,rfl⟩
theorem bu{a b:Bool}(h:a=b):Ending.returned (.bool a)=.returned (.bool b):=by rw[h]
theorem xP(s:ByteArray)(k:Nat)(h:k<s.size):s.data.toList.take (k+1)=s.data.toList.take k++[s[k]]:=by rw[List.take_succ_eq_append_getElem (by simpa using h)];rfl
theorem tG(s:ByteArray)(k:Nat)(h:k<s.size)(ha:(s.data.toList.take k).all nV=true)(hc:nV s[k]=true):(s.data.toList.take (k+1)).all nV=true:=by rw[xP s k h,List.all_append,ha];simp[hc]
theorem mX(s:ByteArray)(k:Nat)(h:k<s.size)(hc:nV s[k]=false):s.data.toList.all nV=false:=by rw[List.all_eq_false];exact⟨s.data.toList[k]'(by simpa using h),List.getElem_mem _,by show ¬nV s[k]=true;simp[hc]⟩
theorem wj(s:ByteArray)(k:Nat)(h:s.size<=k)(ha:(s.data.toList.take k).all nV=true):s.data.toList.all nV=true:=by rwa [List.take_of_length_le (by simpa using h)]at ha
theorem aQ(s:ByteArray)(w:World)(hs:s.size<=maxLen):
  Calls prog 37 #[.string s] w fun e w'=>e=.returned (.bool (cF s))/\w'=w:=by
 unfold maxLen at hs;cases hin:cA s.size 1 20
 ·
  rw[show cF s=false from by simp[cF,hin]];go_enter func37,ntmps37
  go_wp2_with (go_at_call 28;refine mr (aI _ _ _ _) ?_)
  go_ret
  exact⟨rfl,rfl⟩
 ·
  have hl:s.size<=20:=by simp[cA]at hin;omega
  have Hn:Hid (cF s=s.data.toList.all nV):=by show cF s=_;simp[cF,hin]
  go_enter func37,ntmps37
  go_wp2_with (go_at_call 28;refine mr (aI _ _ _ _) ?_)
  go_loop [3] (fun i=>∃k:Nat,k<=s.size/\i=.int .i64 k/\(s.data.toList.take k).all nV=true) (fun i=>s.size-(intOf i).toNat)
  case atStart=>exact⟨0,Nat.zero_le _,rfl,rfl⟩
  obtain⟨k,hk,rfl,hall⟩:=hrel;have Ha:=ah hall;clear hall;by_cases hlt:k<s.size
  ·
   by_cases b1:(s[k].toNat:Int)<33
   ·
    go_wp2
    go_ret
    exact⟨bu (by rw[Hn.out,mX s k hlt (by simp[nV];omega)]),rfl⟩
   by_cases b2:126<(s[k].toNat:Int)
   ·
    go_wp2
    go_ret
    exact⟨bu (by rw[Hn.out,mX s k hlt (by simp[nV];omega)]),rfl⟩
   have Hc:Hid (nV s[k]=true):=(by show nV s[k]=true;simp[nV];omega);go_wp2
   exact⟨⟨k+1,by omega,by go_num,tG s k hlt Ha.out Hc.out⟩,by simp[intOf];omega⟩
  go_wp2
  go_ret
  exact⟨bu (by rw[Hn.out,wj s k (by omega) Ha.out]),rfl⟩
theorem bX(s:ByteArray)(w:World)(hs:s.size<=maxLen):
  Calls prog 89 #[.string s] w fun e w'=>e=.returned (.bool (cF s))/\w'=w:=by
 unfold maxLen at hs;cases hin:cA s.size 1 20
 ·
  rw[show cF s=false from by simp[cF,hin]];go_enter func89,ntmps89
  go_wp2_with (go_at_call 19;refine mr (aP _ _ _ _) ?_)
  go_ret
  exact⟨rfl,rfl⟩
 ·
  have hl:s.size<=20:=by simp[cA]at hin;omega
  have Hn:Hid (cF s=s.data.toList.all nV):=by show cF s=_;simp[cF,hin]
  go_enter func89,ntmps89
  go_wp2_with (go_at_call 19;refine mr (aP _ _ _ _) ?_)
  go_loop [10] (fun i=>∃k:Nat,k<=s.size/\i=.int .i64 k/\(s.data.toList.take k).all nV=true) (fun i=>s.size-(intOf i).toNat)
  case atStart=>exact⟨0,Nat.zero_le _,rfl,rfl⟩
  obtain⟨k,hk,rfl,hall⟩:=hrel;have Ha:=ah hall;clear hall;by_cases hlt:k<s.size
  ·
   by_cases b1:(s[k].toNat:Int)<33
   ·
    go_wp2
    go_ret
    exact⟨bu (by rw[Hn.out,mX s k hlt (by simp[nV];omega)]),rfl⟩
   by_cases b2:126<(s[k].toNat:Int)
   ·
    go_wp2
    go_ret
    exact⟨bu (by rw[Hn.out,mX s k hlt (by simp[nV];omega)]),rfl⟩
   have Hc:Hid (nV s[k]=true):=(by show nV s[k]=true;simp[nV];omega);go_wp2
   exact⟨⟨k+1,by omega,by go_num,tG s k hlt Ha.out Hc.out⟩,by simp[intOf];omega⟩
  go_wp2
  go_ret
  exact⟨bu (by rw[Hn.out,wj s k (by omega) Ha.out]),rfl⟩
def holdB(s:ByteArray):Bool:=cF s&&!(s.toList==[42])
theorem bg(s:ByteArray)(w:World)(hs:s.size<=maxLen):
  Calls prog 88 #[.string s] w fun e w'=>e=.returned (.bool (holdB s))/\w'=w:=by
 unfold holdB;cases hn:cF s
 ·
  go_enter func88,ntmps88
  go_wp2_with (go_at_call 37;refine mr (aQ s _ hs) ?_)
  go_ret
  exact⟨rfl,rfl⟩
 ·
  go_enter func88,ntmps88
  go_wp2_with (go_at_call 37;refine mr (aQ s _ hs) ?_)
  go_ret
  exact⟨rfl,rfl⟩
theorem dS(s:ByteArray)(w:World)(hs:s.size<=maxLen):
  Calls prog 163 #[.string s] w fun e w'=>e=.returned (.bool (holdB s))/\w'=w:=by
 unfold holdB;cases hn:cF s
 ·
  go_enter func163,ntmps163
  go_wp2_with (go_at_call 89;refine mr (bX s _ hs) ?_)
  go_ret
  exact⟨rfl,rfl⟩
 ·
  go_enter func163,ntmps163
  go_wp2_with (go_at_call 89;refine mr (bX s _ hs) ?_)
  go_ret
  exact⟨rfl,rfl⟩
end Go.Proofs.YtlfnpjcjapljpaaGreatDoor
namespace Go.Proofs.YtlfnpjcjapljpaaGreatDoor.A
open Go.Proofs.Tryz Go.RowKit
set_option maxRecDepth 4000
set_option maxHeartbeats 2000000
set_option linter.unusedVariables false
theorem sE(bk:Nat)(P:aC->Bool)(b off cap:Nat)(rs:List aC)(w:World)(hR:aG w b off rs)(l1:b<w.heap.size)(hl:rs.length<=1048576)
  (hF:∀r∈rs,∀x,Below w.heap.size w x->Calls prog 131 #[.agg (cZ r.h r.c r.f r.t),.pointer (some ⟨bk,0,none⟩)] x fun e x'=>e=.returned (.bool (P r))/\Below x.heap.size x x'):
  Calls prog 93 #[.slice (some ⟨b,off,none⟩) rs.length cap,.func (.func 131) #[] #[.pointer (some ⟨bk,0,none⟩)]] w fun e w'=>(∃q:Bool,e=.returned (.bool q)/\(q=true↔∀r∈rs,P r=true))/\Below w.heap.size w w':=by
 have HF:=ah hF;clear hF;go_enter func93,ntmps93
 go_wp2
 go_loopw [9] (fun i wx=>∃(k:Nat),k<=rs.length/\i=.int .i64 k/\Hid (∀j r,j<k->rs[j]?=some r->P r=true)/\Below w.heap.size w wx) (fun i _=>rs.length-(intOf i).toNat)
 case atStart=>exact⟨0,Nat.zero_le _,rfl,fun j r h=>by omega,Below.refl _ _⟩
 case round=>
  obtain⟨k,hk,rfl,Ha,hB⟩:=hrel;by_cases hlt:k<rs.length
  ·
   obtain⟨r,hr⟩:∃r,rs[k]?=some r:=⟨rs[k],List.getElem?_eq_getElem hlt⟩
   have Hr:=ah hr;clear hr;obtain⟨c0,c1,c2,c3⟩:=(hR.keep l1 hB).at Hr.out;go_wp2_with fail
   refine(HF.out r (List.mem_of_getElem? Hr.out) _ (ae hB _)).mono ?_;rintro e w1 ⟨rfl,hb⟩;have hB1:=af (ae hB _) hb;have Hb1:=ah hB1;clear hB hb hB1;cases hP:P r
   ·
    go_wp2
    go_ret
    exact⟨⟨false,rfl,⟨fun h=>(by cases h),fun h=>by have:=h r (List.mem_of_getElem? Hr.out);rw[hP]at this;cases this⟩⟩,Hb1.out⟩
   go_wp2
   exact⟨⟨k+1,by omega,by go_num,(fun j q hj hq=>by
    by_cases e:j=k;·subst e;have hh:=Hr.out;rw[hh]at hq;cases hq;exact hP
    exact Ha.out j q (by omega) hq),Hb1.out⟩,by simp[intOf];omega⟩
  go_wp2
  go_ret
  exact⟨⟨true,rfl,⟨fun _ r hr=>by obtain⟨j,hj⟩:=List.getElem?_of_mem hr;have hjl:j<rs.length:=(List.getElem?_eq_some_iff.1 hj).1;exact Ha.out j r (by omega) hj,fun _=>rfl⟩⟩,hB⟩
theorem zX(bk:Nat)(P:aC->Bool)(b off cap:Nat)(rs:List aC)(w:World)(hR:aG w b off rs)(l1:b<w.heap.size)(hl:rs.length<=1048576)
  (hF:∀r∈rs,∀x,Below w.heap.size w x->Calls prog 94 #[.agg (cZ r.h r.c r.f r.t),.pointer (some ⟨bk,0,none⟩)] x fun e x'=>e=.returned (.bool (P r))/\Below x.heap.size x x'):
  Calls prog 93 #[.slice (some ⟨b,off,none⟩) rs.length cap,.func (.func 94) #[] #[.pointer (some ⟨bk,0,none⟩)]] w fun e w'=>(∃q:Bool,e=.returned (.bool q)/\(q=true↔∀r∈rs,P r=true))/\Below w.heap.size w w':=by
 have HF:=ah hF;clear hF;go_enter func93,ntmps93
 go_wp2
 go_loopw [9] (fun i wx=>∃(k:Nat),k<=rs.length/\i=.int .i64 k/\Hid (∀j r,j<k->rs[j]?=some r->P r=true)/\Below w.heap.size w wx) (fun i _=>rs.length-(intOf i).toNat)
 case atStart=>exact⟨0,Nat.zero_le _,rfl,fun j r h=>by omega,Below.refl _ _⟩
 case round=>
  obtain⟨k,hk,rfl,Ha,hB⟩:=hrel;by_cases hlt:k<rs.length
  ·
   obtain⟨r,hr⟩:∃r,rs[k]?=some r:=⟨rs[k],List.getElem?_eq_getElem hlt⟩
   have Hr:=ah hr;clear hr;obtain⟨c0,c1,c2,c3⟩:=(hR.keep l1 hB).at Hr.out;go_wp2_with fail
   refine(HF.out r (List.mem_of_getElem? Hr.out) _ (ae hB _)).mono ?_;rintro e w1 ⟨rfl,hb⟩;have hB1:=af (ae hB _) hb;have Hb1:=ah hB1;clear hB hb hB1;cases hP:P r
   ·
    go_wp2
    go_ret
    exact⟨⟨false,rfl,⟨fun h=>(by cases h),fun h=>by have:=h r (List.mem_of_getElem? Hr.out);rw[hP]at this;cases this⟩⟩,Hb1.out⟩
   go_wp2
   exact⟨⟨k+1,by omega,by go_num,(fun j q hj hq=>by
    by_cases e:j=k;·subst e;have hh:=Hr.out;rw[hh]at hq;cases hq;exact hP
    exact Ha.out j q (by omega) hq),Hb1.out⟩,by simp[intOf];omega⟩
  go_wp2
  go_ret
  exact⟨⟨true,rfl,⟨fun _ r hr=>by obtain⟨j,hj⟩:=List.getElem?_of_mem hr;have hjl:j<rs.length:=(List.getElem?_eq_some_iff.1 hj).1;exact Ha.out j r (by omega) hj,fun _=>rfl⟩⟩,hB⟩
theorem cM(r:aC)(w:World):
  Calls prog 74 #[.agg (cZ r.h r.c r.f r.t)] w fun e w'=>e=.returned (.string r.h)/\Below w.heap.size w w':=by
 go_enter func74,ntmps74
 go_wp2
 go_ret
 exact⟨rfl,by repeat (first|exact bR|refine ae ?_ _)⟩
def fh(rs:List aC)(n:Nat):Prop:=∀j q r,j+1<n->rs[j]?=some q->rs[j+1]?=some r->Op.bytesLess q.h.toList r.h.toList=true
theorem fh.step{rs:List aC}{k:Nat}{q r:aC}(h:fh rs (k+1))(hq:rs[k]?=some q)(hr:rs[k+1]?=some r)(hs:Op.bytesLess q.h.toList r.h.toList=true):fh rs (k+1+1):=by
 intro j q' r' hj hq' hr';by_cases e:j=k;·subst e;rw[hq]at hq';rw[hr]at hr';cases hq';cases hr';exact hs
 exact h j q' r' (by omega) hq' hr'
theorem cY{x w':World}{b off m:Nat}{rs:List aC}{r q:aC}(hk:rs[m+1]?=some r)(hq:rs[m]?=some q)(h1:aG x b off rs)(l1:b<x.heap.size)(hb:Below x.heap.size x w'):
  Below x.heap.size x w'/\(Bw w' b (off+(m+1)*4) r.h r.c r.f r.t)/\(Bw w' b (off+m*4) q.h q.c q.f q.t):=⟨hb,(h1.keep l1 hb).at hk,(h1.keep l1 hb).at hq⟩
theorem iX(b off cap:Nat)(rs:List aC)(w:World)(hR:aG w b off rs)(l1:b<w.heap.size)(hl:rs.length<=1048576):
  Calls prog 130 #[.slice (some ⟨b,off,none⟩) rs.length cap,.func (.func 74) #[] #[]] w fun e w'=>(∃q:Bool,e=.returned (.bool q)/\(q=true↔fh rs rs.length))/\Below w.heap.size w w':=by
 go_enter func130,ntmps130
 go_wp2
 go_loopw [5] (fun i wx=>∃(m:Nat),m<=rs.length/\i=.int .i64 ((m:Int)+1)/\Hid (fh rs (m+1))/\Below w.heap.size w wx) (fun i _=>rs.length+1-(intOf i).toNat)
 case atStart=>exact⟨0,Nat.zero_le _,rfl,(fun j q r hj _ _=>by omega),Below.refl _ _⟩
 case round=>
  obtain⟨m,hk,rfl,Ha,hB⟩:=hrel;by_cases hlt:m+1<rs.length
  ·
   obtain⟨r,hr⟩:∃r,rs[m+1]?=some r:=⟨rs[m+1],List.getElem?_eq_getElem hlt⟩
   obtain⟨q,hq⟩:∃q,rs[m]?=some q:=⟨rs[m],List.getElem?_eq_getElem (by omega)⟩
   have Hr:=ah hr;have Hq:=ah hq;clear hr hq;have g1:=hR.keep l1 hB;have z1:b<wr.heap.size:=Nat.lt_of_lt_of_le l1 hB.size;have i0:(0:Int)<=(m:Int):=(by omega);have i1:(m:Int)+1<(rs.length:Int):=(by omega);have i2:(m:Int)<(rs.length:Int):=(by omega);have i3:(0:Int)<=(m:Int)+1:=(by omega);have iw:IntKind.i64.wrap (m:Int)=(m:Int):=(by rw[IntKind.wrap_i64];omega);cases hasc:Op.bytesLess q.h.toList r.h.toList
   ·
    go_wp2_with fail
    go_region_held3 (fun w'=>Below wr.heap.size wr w'/\(Bw w' b (off+(m+1)*4) r.h r.c r.f r.t)/\(Bw w' b (off+m*4) q.h q.c q.f q.t))
     (first|exact cY Hr.out Hq.out g1 z1 bD|exact cY Hr.out Hq.out g1 z1 (af bD hx)|exact cY Hr.out Hq.out g1 z1 (af (af bD hx) hy))
     (first|(go_at_call 74;refine(cM q _).mono ?_;rintro e w' ⟨rfl,hx⟩)|(go_at_call 74;refine(cM r _).mono ?_;rintro e w'' ⟨rfl,hy⟩))
    have y1:=af (af (au (Below.refl _ wr)) hx) hy;have Hb1:=ah (af hB y1);clear hx hy y1 hB g1;go_wp2
    go_ret
    exact⟨⟨false,rfl,⟨fun h=>(by cases h),fun h=>by have:=h m q r (by omega) Hq.out Hr.out;rw[hasc]at this;cases this⟩⟩,Hb1.out⟩
   go_wp2_with fail
   go_region_held3 (fun w'=>Below wr.heap.size wr w'/\(Bw w' b (off+(m+1)*4) r.h r.c r.f r.t)/\(Bw w' b (off+m*4) q.h q.c q.f q.t))
    (first|exact cY Hr.out Hq.out g1 z1 bD|exact cY Hr.out Hq.out g1 z1 (af bD hx)|exact cY Hr.out Hq.out g1 z1 (af (af bD hx) hy))
    (first|(go_at_call 74;refine(cM q _).mono ?_;rintro e w' ⟨rfl,hx⟩)|(go_at_call 74;refine(cM r _).mono ?_;rintro e w'' ⟨rfl,hy⟩))
   have y1:=af (af (au (Below.refl _ wr)) hx) hy;have Hb1:=ah (af hB y1);clear hx hy y1 hB g1;go_wp2
   exact⟨⟨m+1,by omega,by go_num,Ha.out.step Hq.out Hr.out hasc,Hb1.out⟩,by simp[intOf];omega⟩
  go_wp2
  go_ret
  exact⟨⟨true,rfl,⟨fun _ j q r hj hq hr=>Ha.out j q r (by omega) hq hr,fun _=>rfl⟩⟩,hB⟩
end Go.Proofs.YtlfnpjcjapljpaaGreatDoor.A
