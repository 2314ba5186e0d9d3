import Derived.Test.YtcjhlhijdacinaaGreatDoorJ02
import Derived.Test.YtcjhlhijdacinaaGreatDoorJ03
import Derived.Deep.RegionHeld3
import Derived.Test.YtcjhlhijdacinaaGreatDoorJ01
import Derived.Laws.MakeOwn
import Derived.Laws.Pointers
import Derived.StillTactics
import Derived.Lib.ItoaNum
namespace Go.Proofs.YtcjhlhijdacinaaGreatDoor.W
open Go.RowKit
set_option linter.unusedVariables false
def WantD.ok (r:WantD):Bool:=wantB r.c r.h r.v r.p r.s r.d r.g
def ascB (q r:WantD):Bool:=Op.bytesLess q.c.toList r.c.toList
def clash (q r:WantD):Bool:=!r.h.toList.isEmpty && (q.h.toList == r.h.toList)
def Each (ws:List WantD) (n:Nat):Prop:=∀ j r,j < n→ws[j]?=some r→r.ok=true
def Asc (ws:List WantD) (n:Nat):Prop:=∀ j q r,j+1 < n→ws[j]?=some q→ws[j+1]?=some r→ascB q r=true
def NoneOf (ws:List WantD) (r:WantD) (m:Nat):Prop:=∀ i q,i < m→ws[i]?=some q→clash q r=false
def Diff (ws:List WantD) (n:Nat):Prop:=∀ j r,j < n→ws[j]?=some r→NoneOf ws r j
def AllW (ws:List WantD) (n:Nat):Prop:=Each ws n∧Asc ws n∧Diff ws n
def Says (q:Bool) (ws:List WantD):Prop:=q=true↔ws.length≤10∧AllW ws ws.length
theorem Each.step {ws:List WantD} {k:Nat} {r:WantD} (h:Each ws k) (hr:ws[k]?=some r) (hs:r.ok=true):Each ws (k+1):=by
 intro j q hj hq
 by_cases e:j=k
 · subst e; rw [hr] at hq; cases hq; exact hs
 exact h j q (by omega) hq
theorem Asc.step {ws:List WantD} {k:Nat} {q r:WantD} (h:Asc ws (k+1)) (hq:ws[k]?=some q) (hr:ws[k+1]?=some r) (hs:ascB q r=true):Asc ws (k+1+1):=by
 intro j q' r' hj hq' hr'
 by_cases e:j=k
 · subst e; rw [hq] at hq'; rw [hr] at hr'; cases hq'; cases hr'; exact hs
 exact h j q' r' (by omega) hq' hr'
theorem Asc.one {ws:List WantD}:Asc ws 1:=fun j q r hj _ _=>by omega
theorem NoneOf.step {ws:List WantD} {m:Nat} {q r:WantD} (h:NoneOf ws r m) (hq:ws[m]?=some q) (hs:clash q r=false):NoneOf ws r (m+1):=by
 intro i q' hi hq'
 by_cases e:i=m
 · subst e; rw [hq] at hq'; cases hq'; exact hs
 exact h i q' (by omega) hq'
theorem Diff.step {ws:List WantD} {k:Nat} {r:WantD} (h:Diff ws k) (hr:ws[k]?=some r) (hs:NoneOf ws r k):Diff ws (k+1):=by
 intro j q hj hq
 by_cases e:j=k
 · subst e; rw [hr] at hq; cases hq; exact hs
 exact h j q (by omega) hq
theorem says_no {ws:List WantD} (h:ws.length≤10→AllW ws ws.length→False):Says false ws:=⟨fun h'=>(by cases h'),fun h'=>(h h'.1 h'.2).elim⟩
theorem says_yes {ws:List WantD} {k:Nat} (h:AllW ws k) (hk:ws.length≤k) (h10:ws.length≤10):Says true ws :=
 ⟨fun _=>⟨h10,fun j r hj hr=>h.1 j r (by omega) hr,fun j q r hj hq hr=>h.2.1 j q r (by omega) hq hr,fun j r hj hr=>h.2.2 j r (by omega) hr⟩,fun _=>rfl⟩
theorem keep1 {x w':World} {b off k:Nat} {rs:List WantD} {r:WantD} (hk:rs[k]?=some r) (h1:RowsAt x b off rs) (l1:b < x.heap.size) (hb:Below x.heap.size x w') :
  Below x.heap.size x w'∧(w'.cell? ⟨b,off+k * 7,none⟩=some (.string r.c)∧w'.cell? ⟨b,off+k * 7+1,none⟩=some (.int .i64 r.v)∧w'.cell? ⟨b,off+k * 7+2,none⟩=some (.string r.h)∧w'.cell? ⟨b,off+k * 7+3,none⟩=some (.int .i64 r.p)∧w'.cell? ⟨b,off+k * 7+4,none⟩=some (.int .i64 r.s)∧w'.cell? ⟨b,off+k * 7+5,none⟩=some (.int .i64 r.d)∧w'.cell? ⟨b,off+k * 7+6,none⟩=some (.int .i64 r.g)):=⟨hb,(h1.keep l1 hb).at hk⟩
theorem keep2 {x w':World} {b off k:Nat} {rs:List WantD} {r q:WantD} (hk:rs[k+1]?=some r) (hq:rs[k]?=some q) (h1:RowsAt x b off rs) (l1:b < x.heap.size) (hb:Below x.heap.size x w') :
  Below x.heap.size x w'∧(w'.cell? ⟨b,off+(k+1) * 7,none⟩=some (.string r.c)∧w'.cell? ⟨b,off+(k+1) * 7+1,none⟩=some (.int .i64 r.v)∧w'.cell? ⟨b,off+(k+1) * 7+2,none⟩=some (.string r.h)∧w'.cell? ⟨b,off+(k+1) * 7+3,none⟩=some (.int .i64 r.p)∧w'.cell? ⟨b,off+(k+1) * 7+4,none⟩=some (.int .i64 r.s)∧w'.cell? ⟨b,off+(k+1) * 7+5,none⟩=some (.int .i64 r.d)∧w'.cell? ⟨b,off+(k+1) * 7+6,none⟩=some (.int .i64 r.g))∧w'.cell? ⟨b,off+k * 7,none⟩=some (.string q.c):=⟨hb,(h1.keep l1 hb).at hk,((h1.keep l1 hb).at hq).1⟩
theorem keep0 {x w':World} {b off:Nat} {rs:List WantD} {r:WantD} (hk:rs[0]?=some r) (h1:RowsAt x b off rs) (l1:b < x.heap.size) (hb:Below x.heap.size x w') :
  Below x.heap.size x w'∧(w'.cell? ⟨b,off,none⟩=some (.string r.c)∧w'.cell? ⟨b,off+1,none⟩=some (.int .i64 r.v)∧w'.cell? ⟨b,off+2,none⟩=some (.string r.h)∧w'.cell? ⟨b,off+3,none⟩=some (.int .i64 r.p)∧w'.cell? ⟨b,off+4,none⟩=some (.int .i64 r.s)∧w'.cell? ⟨b,off+5,none⟩=some (.int .i64 r.d)∧w'.cell? ⟨b,off+6,none⟩=some (.int .i64 r.g)):=by
 have:=keep1 (k:=0) hk h1 l1 hb
 simpa using this
theorem hold_at {x:World} {b off k:Nat} {rs:List WantD} {r:WantD} (hk:rs[k]?=some r) (h1:RowsAt x b off rs):x.cell? ⟨b,off+k * 7+2,none⟩=some (.string r.h):=(h1.at hk).2.2.1
end Go.Proofs.YtcjhlhijdacinaaGreatDoor.W
namespace Go.Proofs.YtcjhlhijdacinaaGreatDoor.P
open Go.RowKit
set_option linter.unusedVariables false
def timeB (t:Int):Bool:=inB t 0 2000000 && decide (t % 2=0)
def grantB (t:Int) (g:G.GrantD):Bool:=holdB g.h && (nameB g.b && (nameB g.c && (inB g.t 0 1000000 && inB g.u 0 (t+32))))
def GrantsSay (t:Int) (gs:List G.GrantD):Prop:=gs.length≤40∧(G.AscN gs gs.length∧∀ g∈gs,grantB t g=true)
def PlaceD.fine (p:PlaceD):Prop:=nameB p.b=true∧(inB p.s 1 1000000=true∧(p.ws.length≤10∧W.AllW p.ws p.ws.length))
def Apart (ps:List PlaceD):Prop:=ps.Pairwise (fun p q=>∀ x∈p.ws,∀ y∈q.ws,W.clash x y=false)
def PlacesSay (ps:List PlaceD):Prop:=ps.length≤4∧(AscN ps ps.length∧∀ p∈ps,p.fine)
def LandSay (t:Int) (gs:List G.GrantD) (ps:List PlaceD):Prop:=timeB t=true∧(GrantsSay t gs∧(PlacesSay ps∧Apart ps))
def SaysL (q:Bool) (t:Int) (gs:List G.GrantD) (ps:List PlaceD):Prop:=q=true↔LandSay t gs ps
structure Fit (gs:List G.GrantD) (ps:List PlaceD):Prop where
 g:∀ g∈gs,g.fits
 p:∀ p∈ps,p.b.size≤maxLen∧∀ r∈p.ws,r.fits
 gl:gs.length≤1048576
 pl:ps.length≤1048576
 ln:Lns ps
theorem diff_iff (ws:List W.WantD):W.Diff ws ws.length↔ws.Pairwise (fun q r=>W.clash q r=false):=by
 rw [List.pairwise_iff_getElem]
 constructor
 ·
  intro h i j hi hj hij
  exact h j ws[j] hj (List.getElem?_eq_getElem hj) i ws[i] hij (List.getElem?_eq_getElem hi)
 intro h j r hj hr i q hi hq
 obtain ⟨hj',rfl⟩:=List.getElem?_eq_some_iff.1 hr
 obtain ⟨hi',rfl⟩:=List.getElem?_eq_some_iff.1 hq
 exact h i j hi' hj' hi
theorem apart_iff (ps:List PlaceD) (hf:∀ p∈ps,p.fine):W.Diff (ps.flatMap (·.ws)) (ps.flatMap (·.ws)).length↔Apart ps:=by
 rw [diff_iff,List.pairwise_flatMap]
 constructor
 · exact fun h=>h.2
 exact fun h=>⟨fun p hp=>(diff_iff p.ws).1 (hf p hp).2.2.2.2.2,h⟩
theorem like_apart {ps qs:List PlaceD} (h:Like ps qs):Apart ps↔Apart qs:=by
 have e:∀ l:List PlaceD,Apart l↔(l.map PlaceD.says).Pairwise (fun p q=>∀ x∈p.2.2,∀ y∈q.2.2,W.clash x y=false):=fun l=>by
  rw [List.pairwise_map]; exact Iff.rfl
 rw [e,e,h]
theorem like_fine {ps qs:List PlaceD} (h:Like ps qs) (hf:∀ p∈qs,p.fine):∀ p∈ps,p.fine:=by
 intro p hp
 obtain ⟨k,hk⟩:=List.getElem?_of_mem hp
 obtain ⟨q,hq,e1,e2,e3⟩:=h.get hk
 obtain ⟨f1,f2,f3,f4⟩:=hf q (List.mem_of_getElem? hq)
 exact ⟨by rw [e1]; exact f1,by rw [e2]; exact f2,by rw [e3]; exact f3,by rw [e3]; exact f4⟩
theorem like_asc {ps qs:List PlaceD} (h:Like ps qs) (ha:AscN qs qs.length):AscN ps ps.length:=by
 intro j q r hj hq hr
 obtain ⟨q',hq',e1,-⟩:=h.get hq
 obtain ⟨r',hr',e2,-⟩:=h.get hr
 rw [e1,e2]
 exact ha j q' r' (by rw [← h.len]; exact hj) hq' hr'
theorem like_says {t:Int} {gs:List G.GrantD} {ps qs:List PlaceD} (h:Like ps qs):LandSay t gs ps↔LandSay t gs qs:=by
 have one:∀ {ps qs:List PlaceD},Like ps qs→LandSay t gs qs→LandSay t gs ps:=fun {ps qs} h hs =>
  ⟨hs.1,hs.2.1,⟨by rw [h.len]; exact hs.2.2.1.1,like_asc h hs.2.2.1.2.1,like_fine h hs.2.2.1.2.2⟩,(like_apart h).2 hs.2.2.2⟩
 exact ⟨one h.symm,one h⟩
end Go.Proofs.YtcjhlhijdacinaaGreatDoor.P
namespace Go.Proofs.YtcjhlhijdacinaaGreatDoor
open Go.RowKit
section
variable {P:Program} {ops:Array Oper} {Q:Exit→Act→World→Prop} {md:Region.Mode}
def openOf (listed:Array Bool):Nat:=listed.toList.countP (fun b=>!b)
theorem openOf_set {listed:Array Bool} {i:Nat} (h:listed.getD i true=false):openOf (listed.setIfInBounds i true)+1=openOf listed:=by
 obtain ⟨l⟩:=listed
 simp only [openOf,List.setIfInBounds_toArray]
 have:l[i]?=some false:=by
  simp only [Array.getD] at h
  split at h
  · rename_i hlt; simp at h hlt; rw [List.getElem?_eq_getElem hlt,h]
  cases h
 clear h
 induction l generalizing i with
 | nil=>simp at this
 | cons x l ih =>
  cases i with
  | zero=>simp at this; subst this; simp
  | succ i =>
   simp at this
   have:=ih this
   simp only [List.set_cons_succ,List.countP_cons]
   omega
theorem ready_open {listed:Array Bool} {i:Nat} (h:i∈Region.ready md ops listed):listed.getD i true=false:=by
 simp only [Region.ready,List.mem_filter,Bool.and_eq_true,Bool.not_eq_true'] at h
 exact h.2.1
theorem openOf_pos {listed:Array Bool} {i:Nat} (h:listed.getD i true=false):0 < openOf listed:=by
 have:=openOf_set h; omega
theorem wpAny_inv (I:Array Bool→Act→World→Prop)
  (step:∀ listed a w i,I listed a w→i∈Region.ready md ops listed→wpOp P ops Q i (I (listed.setIfInBounds i true)) a w)
  (done:∀ listed a w,I listed a w→Region.ready md ops listed=[]→Q .normal a w) :
  ∀ fuel listed a w,openOf listed≤fuel→I listed a w→wpAny P md ops Q fuel listed a w:=by
 intro fuel
 induction fuel with
 | zero =>
  intro listed a w hf hI
  have hr:Region.ready md ops listed=[]:=by
   cases h:Region.ready md ops listed with
   | nil=>rfl
   | cons i rs =>
    have hi:i∈Region.ready md ops listed:=by rw [h]; exact List.mem_cons_self ..
    have:=openOf_pos (ready_open hi)
    omega
  exact ⟨hr,done _ _ _ hI hr⟩
 | succ fuel ih =>
  intro listed a w hf hI
  refine ⟨done _ _ _ hI,fun i hi=>wpOp_mono (fun a' w' h=>ih _ a' w' ?_ h) (step _ _ _ i hI hi)⟩
  have:=openOf_set (ready_open hi)
  omega
def depsOk (ops:Array Oper):Bool:=(List.range ops.size).all fun i=>match ops[i]? with | some o=>o.after.toList.all (fun e=>decide (e.on < i)) | none=>true
theorem all_listed {listed:Array Bool} (hd:depsOk ops=true) (hr:Region.ready md ops listed=[]) (hz:listed.size=ops.size):∀ i,i < ops.size→listed.getD i false=true:=by
 intro i
 induction i using Nat.strongRecOn with
 | ind i ih =>
  intro hi
  have hl:listed.getD i false=listed[i]'(by omega):=by simp [Array.getD,show i < listed.size from by omega]
  have hl':listed.getD i true=listed[i]'(by omega):=by simp [Array.getD,show i < listed.size from by omega]
  cases hb:listed[i]'(by omega) with
  | true=>rw [hl,hb]
  | false =>
   exfalso
   have hmem:i∈Region.ready md ops listed:=by
    simp only [Region.ready,List.mem_filter,List.mem_range,hi,true_and,hl',hb,Bool.not_false,Bool.true_and]
    have ho:ops[i]?=some ops[i]:=Array.getElem?_eq_getElem hi
    rw [ho]
    simp only [Option.map_some,Option.getD_some]
    have h1:=List.all_eq_true.1 hd i (List.mem_range.2 hi)
    rw [ho] at h1
    simp only at h1
    rw [← Array.all_toList]
    refine List.all_eq_true.2 fun e he=>?_
    have h2:=of_decide_eq_true (List.all_eq_true.1 h1 e he)
    rw [ih e.on h2 (by omega)]
    simp
   rw [hr] at hmem
   cases hmem
theorem dep_listed {listed:Array Bool} {i j:Nat} {o:Oper} (hi:i∈Region.ready md ops listed) (ho:ops[i]?=some o) (he:o.after.toList.any (fun e=>Region.binds md e && e.on == j)=true):listed.getD j false=true:=by
 have h:=(List.mem_filter.1 hi).2
 rw [ho] at h
 simp only [Option.map_some,Option.getD_some,Bool.and_eq_true] at h
 obtain ⟨e,hm,hb⟩:=List.any_eq_true.1 he
 simp only [Bool.and_eq_true,beq_iff_eq] at hb
 have h2:=h.2
 rw [← Array.all_toList] at h2
 have h3:=List.all_eq_true.1 h2 e hm
 rw [hb.1,hb.2] at h3
 simpa using h3
end
theorem wpOp_plain {P:Program} {ops:Array Oper} {Q:Exit→Act→World→Prop} {i:Nat} {o:Oper} {K:Act→World→Prop} {a:Act} {w:World} (ho:ops[i]?=some o) (hg:o.guard=none) (h:o.wp P a w K Q):wpOp P ops Q i K a w:=by
 unfold wpOp
 simp only [ho]
 have hw:Region.wanted o (yielded ops a.tmps)=true:=by simp [Region.wanted,hg]
 rw [if_pos hw]
 exact Or.inl h
theorem ev_tmp {a:Act} {k:Nat} {v:Value} (h:a.tmps.getD k undef=v):a.tmps[k]?.getD undef=v:=by rwa [Array.getD_eq_getD_getElem?] at h
def waits (md:Region.Mode) (ops:Array Oper) (i j:Nat):Bool:=match ops[i]? with
 | some o=>o.after.toList.any (fun e=>Region.binds md e && e.on == j)
 | none=>false
theorem waits_of {md:Region.Mode} {ops:Array Oper} {listed:Array Bool} {i j:Nat} (hi:i∈Region.ready md ops listed) (hd:waits md ops i j=true):listed.getD j false=true:=by
 unfold waits at hd
 split at hd
 · rename_i o ho; exact dep_listed hi ho hd
 cases hd
structure Ip (sl:Nat→Nat) (n:Nat) (a0:Act) (G:World→Nat→Value→Prop) (D:World→Prop) (listed:Array Bool) (a:Act) (w:World):Prop where
 df:a.defers=a0.defers
 sz:a.tmps.size=a0.tmps.size
 out:∀ k,(∀ i,i < n→sl i≠k)→a.tmps.getD k undef=a0.tmps.getD k undef
 lz:listed.size=n
 good:∀ i,i < n→listed.getD i false=true→G w i (a.tmps.getD (sl i) undef)
 d:D w
section
variable {sl:Nat→Nat} {n:Nat} {md:Region.Mode} {ops:Array Oper} {a0:Act} {G:World→Nat→Value→Prop} {D:World→Prop} {listed:Array Bool} {a:Act} {w w':World} {i:Nat} {v:Value}
theorem Ip.put (h:Ip sl n a0 G D listed a w) (hi:i < n) (hlt:sl i < a0.tmps.size) (hinj:∀ j,j < n→sl j=sl i→j=i) (hg:G w' i v)
  (hk:∀ j u,j < n→G w j u→G w' j u) (hd:D w'):Ip sl n a0 G D (listed.setIfInBounds i true) (a.put (some (sl i)) v) w':=by
 have hsz:=h.sz
 have hlz:=h.lz
 refine ⟨h.df,by simpa [Act.put] using hsz, ?_,by simpa using hlz, ?_,hd⟩
 ·
  intro k hko
  rw [← h.out k hko]
  simp only [Act.put,Array.getD_eq_getD_getElem?]
  rw [Array.getElem?_setIfInBounds_ne (hko i hi)]
 ·
  intro j hj hl
  by_cases e:j=i
  ·
   subst e
   simp only [Act.put,Array.getD_eq_getD_getElem?]
   rw [Array.getElem?_setIfInBounds_self_of_lt (by omega)]
   exact hg
  have hl':listed.getD j false=true:=by
   simp only [Array.getD_eq_getD_getElem?] at hl ⊢
   rwa [Array.getElem?_setIfInBounds_ne (fun x=>e x.symm)] at hl
  have h1:=hk j _ hj (h.good j hj hl')
  simp only [Act.put,Array.getD_eq_getD_getElem?] at h1 ⊢
  rw [Array.getElem?_setIfInBounds_ne (fun e'=>e (hinj j hj e'.symm))]
  exact h1
end
theorem Ip.all {sl:Nat→Nat} {n:Nat} {a0:Act} {G:World→Nat→Value→Prop} {D:World→Prop} {a:Act} {w:World} (h:Ip sl n a0 G D (Array.replicate n true) a w) (i:Nat) (hi:i < n):G w i (a.tmps.getD (sl i) undef) :=
 h.good i hi (by simp only [Array.getD_eq_getD_getElem?,Array.getElem?_replicate,if_pos hi,Option.getD_some])
theorem wp_cover {P:Program} {o:Oper} {a:Act} {w:World} {I:Act→World→Prop} {Q:Exit→Act→World→Prop} (h:∀ K:Act→World→Prop,Hid (∀ a w,I a w→K a w)→o.wp P a w K Q):o.wp P a w I Q:=h I (fun _ _ h=>h)
theorem frameP_of {a a0:Act} {lo n:Nat} (df:a.defers=a0.defers) (sz:a.tmps.size=a0.tmps.size) (out:∀ k,k < lo∨lo+n≤k→a.tmps.getD k undef=a0.tmps.getD k undef) (hn:lo+n≤a0.tmps.size) :
  ∃ l:List Value,l.length=n∧a=⟨(a0.tmps.toList.take lo++(l++a0.tmps.toList.drop (lo+n))).toArray,a0.defers⟩:=by
 obtain ⟨⟨t⟩,d⟩:=a
 obtain ⟨⟨t0⟩,d0⟩:=a0
 simp only at df
 subst df
 have sz:t.length=t0.length:=sz
 have hn:lo+n≤t0.length:=hn
 refine ⟨(t.drop lo).take n,by simp; omega, ?_⟩
 have e:t=t0.take lo++((t.drop lo).take n++t0.drop (lo+n)):=by
  apply List.ext_getElem?
  intro k
  rcases Nat.lt_or_ge k lo with h1 | h1
  ·
   have h2:=out k (Or.inl h1)
   rw [List.getElem?_append_left (by simp; omega),List.getElem?_take_of_lt h1]
   simp only [Array.getD_eq_getD_getElem?,List.getElem?_toArray] at h2
   rw [List.getElem?_eq_getElem (by omega),List.getElem?_eq_getElem (by omega)] at h2 ⊢
   simpa using h2
  rw [List.getElem?_append_right (by simp; omega)]
  have hl:(t0.take lo).length=lo:=by simp; omega
  rw [hl]
  rcases Nat.lt_or_ge k (lo+n) with h3 | h3
  ·
   rw [List.getElem?_append_left (by simp; omega),List.getElem?_take_of_lt (by omega),List.getElem?_drop]
   congr 1; omega
  rw [List.getElem?_append_right (by simp; omega)]
  have hl2:((t.drop lo).take n).length=n:=by simp; omega
  rw [hl2,List.getElem?_drop]
  have e2:lo+n+(k - lo - n)=k:=by omega
  rw [e2]
  have h2:=out k (Or.inr h3)
  simp only [Array.getD_eq_getD_getElem?,List.getElem?_toArray] at h2
  rcases Nat.lt_or_ge k t.length with h4 | h4
  ·
   rw [List.getElem?_eq_getElem (by omega),List.getElem?_eq_getElem (by omega)] at h2 ⊢
   simpa using h2
  rw [List.getElem?_eq_none h4,List.getElem?_eq_none (by omega)]
 show Act.mk ⟨t⟩ d=Act.mk ⟨_⟩ d
 exact congrArg (fun l=>Act.mk ⟨l⟩ d) e
theorem lenP_succ {l:List Value} {k:Nat} (h:l.length=k+1):∃ x t,l=x :: t∧t.length=k:=by
 cases l with
 | nil=>cases h
 | cons x t=>exact ⟨x,t,rfl,by simpa using h⟩
theorem lenP_zero {l:List Value} (h:l.length=0):l=[]:=List.eq_nil_of_length_eq_zero h
theorem frameP_two {a a0:Act} {lo n se:Nat} (df:a.defers=a0.defers) (sz:a.tmps.size=a0.tmps.size) (hse:se < a0.tmps.size) (hn:lo+n≤a0.tmps.size) (out:∀ k,k≠se→k < lo∨lo+n≤k→a.tmps.getD k undef=a0.tmps.getD k undef) :
  ∃ l:List Value,l.length=n∧a=⟨((a0.tmps.setIfInBounds se (a.tmps.getD se undef)).toList.take lo++(l++(a0.tmps.setIfInBounds se (a.tmps.getD se undef)).toList.drop (lo+n))).toArray,a0.defers⟩:=by
 refine frameP_of (a:=a) (a0:=⟨a0.tmps.setIfInBounds se (a.tmps.getD se undef),a0.defers⟩) df (by simpa using sz) ?_ (by simpa using hn)
 intro k hk
 by_cases e:k=se
 ·
  subst e
  simp only [Array.getD_eq_getD_getElem?]
  rw [Array.getElem?_setIfInBounds_self_of_lt hse,Option.getD_some]
 ·
  rw [out k e hk]
  simp only [Array.getD_eq_getD_getElem?]
  rw [Array.getElem?_setIfInBounds_ne (fun e'=>e e'.symm)]
theorem Ip.sm {sl:Nat→Nat} {n:Nat} {a0:Act} {G:World→Nat→Value→Prop} {D:World→Prop} {listed:Array Bool} {a:Act} {w:World} {i:Nat} {v:Value} {K:Act→World→Prop} (h:Ip sl n a0 G D listed a w) (hK:Hid (∀ a w,Ip sl n a0 G D (listed.setIfInBounds i true) a w→K a w)) (hi:i < n) (hlt:sl i < a0.tmps.size) (hinj:∀ j,j < n→sl j=sl i→j=i) (hg:G w i v):K (a.put (some (sl i)) v) w:=hK.out _ _ (h.put hi hlt hinj hg (fun _ _ _ h=>h) h.d)
theorem wO {md:Region.Mode} {ops:Array Oper} {listed:Array Bool} {i j:Nat} (hi:i∈Region.ready md ops listed) (hd:waits md ops i j=true:=by rfl):listed.getD j false=true:=waits_of hi hd
theorem op9 {P:Program} {ops:Array Oper} {Q:Exit→Act→World→Prop} {i:Nat} {o:Oper} {I:Act→World→Prop} {a:Act} {w:World} (h:∀ K:Act→World→Prop,Hid (∀ a w,I a w→K a w)→o.wp P a w K Q) (ho:ops[i]?=some o:=by rfl) (hg:o.guard=none:=by rfl):wpOp P ops Q i I a w:=wpOp_plain ho hg (wp_cover h)
def Nq (sl:Nat→Nat) (p q:Nat) (listed:Array Bool) (a:Act):Prop:=listed.getD p false=true→listed.getD q false=true→a.tmps.getD (sl p) undef≠a.tmps.getD (sl q) undef
section
variable {sl:Nat→Nat} {p q i:Nat} {listed:Array Bool} {a:Act} {v:Value}
theorem setQ_ne {l:Array Bool} {i j:Nat} (h:j≠i):(l.setIfInBounds i true).getD j false=l.getD j false:=by
 simp only [Array.getD_eq_getD_getElem?]
 rw [Array.getElem?_setIfInBounds_ne (fun e=>h e.symm)]
theorem putQ_ne {a:Act} {k j:Nat} {v:Value} (h:j≠k):(a.put (some k) v).tmps.getD j undef=a.tmps.getD j undef:=by
 simp only [Act.put,Array.getD_eq_getD_getElem?]
 rw [Array.getElem?_setIfInBounds_ne (fun e=>h e.symm)]
theorem putQ_same {a:Act} {k:Nat} {v:Value} (h:k < a.tmps.size):(a.put (some k) v).tmps.getD k undef=v:=by
 simp only [Act.put,Array.getD_eq_getD_getElem?]
 rw [Array.getElem?_setIfInBounds_self_of_lt h,Option.getD_some]
theorem Nq.other (h:Nq sl p q listed a) (h1:sl p≠sl i) (h2:sl q≠sl i) (hp:p≠i) (hq:q≠i):Nq sl p q (listed.setIfInBounds i true) (a.put (some (sl i)) v):=by
 intro e1 e2
 rw [setQ_ne hp] at e1
 rw [setQ_ne hq] at e2
 rw [putQ_ne h1,putQ_ne h2]
 exact h e1 e2
theorem Nq.first (hne:sl q≠sl p) (hpq:q≠p) (hlt:sl p < a.tmps.size) (h:listed.getD q false=true→v≠a.tmps.getD (sl q) undef):Nq sl p q (listed.setIfInBounds p true) (a.put (some (sl p)) v):=by
 intro _ e2
 rw [setQ_ne hpq] at e2
 rw [putQ_same hlt,putQ_ne hne]
 exact h e2
theorem Nq.second (hne:sl p≠sl q) (hpq:p≠q) (hlt:sl q < a.tmps.size) (h:listed.getD p false=true→a.tmps.getD (sl p) undef≠v):Nq sl p q (listed.setIfInBounds q true) (a.put (some (sl q)) v):=by
 intro e1 _
 rw [setQ_ne hpq] at e1
 rw [putQ_same hlt,putQ_ne hne]
 exact h e1
end
theorem reg_invQ {P:Program} {ops:Array Oper} {Q:Exit→Act→World→Prop} {a0:Act} {w0:World} (sl:Nat→Nat) (n p q:Nat) (G:World→Nat→Value→Prop) (D:World→Prop)
  (hd:depsOk ops=true) (hops:ops.size=n) (hD:D w0)
  (done:∀ a y,Ip sl n a0 G D (Array.replicate n true) a y→Q .normal a y)
  (step:∀ listed x y i,Ip sl n a0 G D listed x y→Nq sl p q listed x→i∈Region.ready .any ops listed→i < n→wpOp P ops Q i (fun a w=>Ip sl n a0 G D (listed.setIfInBounds i true) a w∧Nq sl p q (listed.setIfInBounds i true) a) x y) :
  wpAny P .any ops Q ops.size (Array.replicate ops.size false) a0 w0:=by
 refine wpAny_inv (fun listed a w=>Ip sl n a0 G D listed a w∧Nq sl p q listed a) (fun listed x y i hI hi=>step listed x y i hI.1 hI.2 hi (by have:=List.mem_range.1 (List.mem_filter.1 hi).1; omega)) ?_ _ _ _ _ ?_ ?_
 ·
  intro listed x y hI hr
  have hall:=all_listed hd hr (by rw [hI.1.lz,hops])
  exact done x y ⟨hI.1.df,hI.1.sz,hI.1.out,by simp,fun i hi _=>hI.1.good i hi (hall i (by omega)),hI.1.d⟩
 ·
  unfold openOf
  exact Nat.le_trans List.countP_le_length (by simp)
 ·
  have hno:∀ k j,(Array.replicate k false).getD j false=false:=fun k j=>by
   simp only [Array.getD_eq_getD_getElem?,Array.getElem?_replicate]
   split <;> rfl
  refine ⟨⟨rfl,rfl,fun _ _=>rfl,by simp [hops], ?_,hD⟩,fun e=>by rw [hno] at e; cases e⟩
  intro i _ h
  rw [hno] at h
  cases h
end Go.Proofs.YtcjhlhijdacinaaGreatDoor
namespace Go.Proofs.YtcjhlhijdacinaaGreatDoor.G
open Go.RowKit Go.Maps Go.WideMaps
set_option linter.unusedVariables false
def GvG (w:World) (a:Option Addr) (gs:List GrantD):Prop:=gs=[]∨∃ b,a=some ⟨b,0,none⟩∧b < w.heap.size∧RowsAt w b 0 gs
theorem GvG.keep {w w':World} {a:Option Addr} {gs:List GrantD} (h:GvG w a gs) (hb:Below w.heap.size w w'):GvG w' a gs:=by
 rcases h with h | ⟨b,h1,h2,h3⟩
 · exact Or.inl h
 exact Or.inr ⟨b,h1,Nat.lt_of_lt_of_le h2 hb.size,h3.keep h2 hb⟩
def SrcG (w:World) (a:Option Addr) (c:Nat) (gs:List GrantD):Prop:=(a=none∧c=0∧gs=[])∨∃ b,a=some ⟨b,0,none⟩∧b < w.heap.size∧RowsAt w b 0 gs
theorem SrcG.keep {w w':World} {a:Option Addr} {c:Nat} {gs:List GrantD} (h:SrcG w a c gs) (hb:Below w.heap.size w w'):SrcG w' a c gs:=by
 rcases h with h | ⟨b,h1,h2,h3⟩
 · exact Or.inl h
 exact Or.inr ⟨b,h1,Nat.lt_of_lt_of_le h2 hb.size,h3.keep h2 hb⟩
theorem SrcG.gv {w:World} {a:Option Addr} {c:Nat} {gs:List GrantD} (h:SrcG w a c gs):GvG w a gs:=by
 rcases h with ⟨-,-,h⟩ | h
 · exact Or.inl h
 exact Or.inr h
set_option maxRecDepth 4000 in
theorem byName_zero (a:Option Addr) (cap:Nat) (w:World) :
  Calls Tryz.prog 72 #[.slice a 0 cap,.func (.func 57) #[] #[]] w fun e w'=>e=.returned (.map (some w.heap.size))∧w'.ownsMap Tryz.prog 9 RV w.heap.size 0 (dec [])∧Below w.heap.size w w':=by
 have hmm:∀ w:World,Sem.run Tryz.prog (Instr.makeMap 90 (some (.int .i64 0))) w=.ok (.map (some w.heap.size)) (w.alloc (.map #[] 0)):=make_mapV 0
 go_enter Tryz.func72,Tryz.ntmps72
 go_wp2
 clear hmm
 refine wp_loop_rounds 1 ?_
 rw [rounds_succ]
 go_wp2
 go_ret
 exact ⟨rfl,World.ownsMap_made _ _ _ _,bl_alloc bR _⟩
theorem byName_x (a:Option Addr) (cap:Nat) (rs:List GrantD) (w:World) (h:GvG w a rs) (hfit:∀ r∈rs,r.h.size≤maxLen) (hl:rs.length≤1048576) (hs:Srt rs) :
  Calls Tryz.prog 72 #[.slice a rs.length cap,.func (.func 57) #[] #[]] w fun e w'=>e=.returned (.map (some w.heap.size))∧w'.ownsMap Tryz.prog 9 RV w.heap.size rs.length (dec rs)∧Below w.heap.size w w':=by
 rcases h with rfl | ⟨b,rfl,hb,hR⟩
 · exact byName_zero a cap w
 · exact byNameV b 0 cap rs w hR hb hfit hl hs
end Go.Proofs.YtcjhlhijdacinaaGreatDoor.G
namespace Go.Proofs.YtcjhlhijdacinaaGreatDoor.Pr
open Go.RowKit Go.Maps Go.WideMaps
set_option linter.unusedVariables false
def GvQ (w:World) (a:Option Addr) (rs:List PlRaw):Prop:=rs=[]∨∃ b,a=some ⟨b,0,none⟩∧b < w.heap.size∧RowsAt w b 0 rs
theorem GvQ.keep {w w':World} {a:Option Addr} {rs:List PlRaw} (h:GvQ w a rs) (hb:Below w.heap.size w w'):GvQ w' a rs:=by
 rcases h with h | ⟨b,h1,h2,h3⟩
 · exact Or.inl h
 exact Or.inr ⟨b,h1,Nat.lt_of_lt_of_le h2 hb.size,h3.keep h2 hb⟩
set_option maxRecDepth 4000 in
theorem byName_zero (a:Option Addr) (cap:Nat) (w:World) :
  Calls Tryz.prog 73 #[.slice a 0 cap,.func (.func 62) #[] #[]] w fun e w'=>e=.returned (.map (some w.heap.size))∧w'.ownsMap Tryz.prog 9 RV w.heap.size 0 (dec [])∧Below w.heap.size w w':=by
 have hmm:∀ w:World,Sem.run Tryz.prog (Instr.makeMap 91 (some (.int .i64 0))) w=.ok (.map (some w.heap.size)) (w.alloc (.map #[] 0)):=make_mapV 0
 go_enter Tryz.func73,Tryz.ntmps73
 go_wp2
 clear hmm
 refine wp_loop_rounds 1 ?_
 rw [rounds_succ]
 go_wp2
 go_ret
 exact ⟨rfl,World.ownsMap_made _ _ _ _,bl_alloc bR _⟩
theorem byName_x (a:Option Addr) (cap:Nat) (rs:List PlRaw) (w:World) (h:GvQ w a rs) (hfit:∀ r∈rs,r.b.size≤maxLen) (hl:rs.length≤1048576) (hs:Srt rs) :
  Calls Tryz.prog 73 #[.slice a rs.length cap,.func (.func 62) #[] #[]] w fun e w'=>e=.returned (.map (some w.heap.size))∧w'.ownsMap Tryz.prog 9 RV w.heap.size rs.length (dec rs)∧Below w.heap.size w w':=by
 rcases h with rfl | ⟨b,rfl,hb,hR⟩
 · exact byName_zero a cap w
 · exact byNameV b 0 cap rs w hR hb hfit hl hs
end Go.Proofs.YtcjhlhijdacinaaGreatDoor.Pr
namespace Go.Proofs.YtcjhlhijdacinaaGreatDoor.P
open Go.RowKit
set_option linter.unusedVariables false
def GvP (w:World) (a:Option Addr) (ps:List PlaceD):Prop:=ps=[]∨∃ b,a=some ⟨b,0,none⟩∧b < w.heap.size∧RowsAt w b 0 ps
theorem GvP.keep {w w':World} {a:Option Addr} {ps:List PlaceD} (h:GvP w a ps) (hb:Below w.heap.size w w'):GvP w' a ps:=by
 rcases h with h | ⟨b,h1,h2,h3⟩
 · exact Or.inl h
 exact Or.inr ⟨b,h1,Nat.lt_of_lt_of_le h2 hb.size,h3.keep h2 hb⟩
theorem GvP.raw {w:World} {a:Option Addr} {ps:List PlaceD} (h:GvP w a ps):Pr.GvQ w a (ps.map Pr.raw):=by
 rcases h with rfl | ⟨b,h1,h2,h3⟩
 · exact Or.inl rfl
 exact Or.inr ⟨b,h1,h2,Pr.raw_rows h3⟩
end Go.Proofs.YtcjhlhijdacinaaGreatDoor.P
