import Derived.Test.YtcjhlhijdacinaaGreatDoorJ15
import Derived.Test.YtcjhlhijdacinaaGreatDoorJ05
import Derived.Test.YtcjhlhijdacinaaGreatDoorJ06
import Derived.Test.YtcjhlhijdacinaaGreatDoorJ02
import Derived.Laws.MakeOwn
import Derived.Test.YtcjhlhijdacinaaGreatDoorJ01
import Derived.Laws.AppendOwn
import Derived.Deep.RegionHeld3
import Derived.Laws.Pointers
import Derived.StillTactics
import Derived.Test.YtcjhlhijdacinaaGreatDoorJ13
namespace Go.Proofs.YtcjhlhijdacinaaGreatDoor
open Go.RowKit
set_option linter.unusedVariables false
def Rq (w:World) (kr:Nat) (q:Int):Prop:=∃ a n cap zs p,Rd w kr a n cap zs p∧p≤q∧(n=0∨∃ b off,a=some ⟨b,off,none⟩∧b < kr)
theorem Rq.lt {w:World} {kr:Nat} {q:Int} (h:Rq w kr q):kr < w.heap.size:=by
 obtain ⟨a,n,cap,zs,p,h,-⟩:=h
 exact h.lt
theorem Rq.up {w:World} {kr:Nat} {q q':Int} (h:Rq w kr q) (hq:q≤q'):Rq w kr q':=by
 obtain ⟨a,n,cap,zs,p,h,h1,h2⟩:=h
 exact ⟨a,n,cap,zs,p,h,Int.le_trans h1 hq,h2⟩
theorem Rq.grown {w w':World} {kr:Nat} {q:Int} {row:Option Nat} (h:Rq w kr q) (hg:w.grownBy w' row) (hr:∀ k,row=some k→kr < k):Rq w' kr q:=by
 obtain ⟨a,n,cap,zs,p,h,h1,h2⟩:=h
 have hk:w'.heap[kr]?=w.heap[kr]?:=hg.block kr h.lt (fun e=>by have:=hr _ e.symm; omega)
 refine ⟨a,n,cap,zs,p,⟨(World.cell?_of_block (w:=w) (a:=⟨kr,0,none⟩) hk).trans h.sl,(World.cell?_of_block (w:=w) (a:=⟨kr,1,none⟩) hk).trans h.at_,(World.frozen?_of_block (w:=w) (a:=⟨kr,1,none⟩) hk).trans h.open_,Nat.lt_of_lt_of_le h.lt hg.size, ?_,h.p0,h.p1⟩,h1,h2⟩
 obtain ⟨hn,hc⟩:=h.code
 refine ⟨hn, ?_⟩
 rcases h2 with hz | ⟨b,off,ha,hb⟩
 · exact Or.inl hz
 rcases hc with hz | ⟨b',off',ha',hne,hlt,hcell⟩
 · exact Or.inl hz
 rw [ha] at ha'
 cases ha'
 exact Or.inr ⟨b,off,ha,hne,Nat.lt_of_lt_of_le hlt hg.size,fun i hi=>⟨(World.cell?_of_block (w:=w) (a:=⟨b,off+i,none⟩) (hg.block b hlt (fun e=>by have:=hr _ e.symm; omega))).trans (hcell i hi).1,(hcell i hi).2⟩⟩
theorem grown_below {w w':World} (hb:Below w.heap.size w w'):w.grownBy w' none:=⟨hb.os,hb.tape,hb.output,hb.size,fun k hk _=>hb.block k hk⟩
theorem Rq.below {w w':World} {kr:Nat} {q:Int} (h:Rq w kr q) (hb:Below w.heap.size w w'):Rq w' kr q:=h.grown (grown_below hb) (fun k hk=>by cases hk)
theorem Ex.grown {kr:Nat} {w x y:World} {row:Option Nat} (h:Ex kr w x) (hg:x.grownBy y row) (hr:∀ k,row=some k→w.heap.size≤k):Ex kr w y :=
 ⟨hg.os.trans h.os,hg.tape.trans h.tape,hg.output.trans h.output,Nat.le_trans h.size hg.size,fun k hk hne=>(hg.block k (Nat.lt_of_lt_of_le hk h.size) (fun e=>by have:=hr _ e.symm; omega)).trans (h.block k hk hne)⟩
theorem Ex.then_below {kr:Nat} {w x y:World} (h:Ex kr w x) (hb:Below x.heap.size x y):Ex kr w y:=h.trans (Ex.of_below hb)
theorem pickQ (kr:Nat) (q k:Int) (w:World) (h:Rq w kr q) (hq:q < 1000000) (k0:1≤k) (k1:k≤1000000) :
  Calls Tryz.prog 18 #[.pointer (some ⟨kr,0,none⟩),.int .i64 k] w fun e w'=>∃ m:Int,e=.returned (.int .i64 m)∧0≤m∧m < k∧Rq w' kr (q+1)∧Ex kr w w':=by
 obtain ⟨a,n,cap,zs,p,h,h1,h2⟩:=h
 refine (pick_rd kr a n cap zs p k w h (by omega) k0 k1).mono ?_
 rintro e w' ⟨m,rfl,m0,m1,r,x⟩
 exact ⟨m,rfl,m0,m1,⟨a,n,cap,zs,_,r,by omega,h2⟩,x⟩
theorem drawWantQ (kr:Nat) (q:Int) (c:ByteArray) (w:World) (h:Rq w kr q) (hq:q < 900000) :
  Calls Tryz.prog 66 #[.pointer (some ⟨kr,0,none⟩),.string c] w fun e w'=>∃ (h:ByteArray) (v1 p1 s d g:Int),e=.returned (.agg #[.string c,.int .i64 v1,.string h,.int .i64 p1,.int .i64 s,.int .i64 d,.int .i64 g])∧h.size≤20∧Rq w' kr (q+22)∧Ex kr w w':=by
 obtain ⟨a,n,cap,zs,p,h,h1,h2⟩:=h
 refine (drawWant kr a n cap zs p c w h (by omega)).mono ?_
 rintro e w' ⟨x,v1,p1,s,d,g,rfl,hx,-,-,-,-,-,⟨r,hr,hrq⟩,he⟩
 exact ⟨x,v1,p1,s,d,g,rfl,hx,⟨a,n,cap,zs,r,hr,by omega,h2⟩,he⟩
theorem spoilWantQ (kr:Nat) (q:Int) (c h:ByteArray) (v p s d g:Int) (w:World) (hr:Rq w kr q) (hq:q < 800000) (hcs:c.size≤maxLen) (hhs:h.size≤maxLen) :
  Calls Tryz.prog 40 #[.pointer (some ⟨kr,0,none⟩),.agg #[.string c,.int .i64 v,.string h,.int .i64 p,.int .i64 s,.int .i64 d,.int .i64 g]] w fun e w'=>∃ (c h:ByteArray) (v p s d g:Int),e=.returned (.agg #[.string c,.int .i64 v,.string h,.int .i64 p,.int .i64 s,.int .i64 d,.int .i64 g])∧c.size≤maxLen∧h.size≤maxLen∧Rq w' kr (q+100)∧Ex kr w w':=by
 obtain ⟨a,n,cap,zs,q0,h0,h1,h2⟩:=hr
 refine (spoilWant kr a n cap zs q0 c h v p s d g w h0 (by omega) hcs hhs).mono ?_
 rintro e w' ⟨c',h',v',p',s',d',g',rfl,⟨r,hr,hrq⟩,he,k1,k2⟩
 exact ⟨c',h',v',p',s',d',g',rfl,k1,k2,⟨a,n,cap,zs,r,hr,by omega,h2⟩,he⟩
theorem dec_small (n:Int) (h0:0≤n) (h1:n < 10) (w:World) :
  Calls Tryz.prog 19 #[.int .i64 n] w fun e w'=>∃ x:ByteArray,e=.returned (.string x)∧x.size=1∧Below w.heap.size w w':=by
 have hb:=build_byte
 have hc:=conv_byte
 go_enter Tryz.func19,Tryz.ntmps19
 go_wp2
 go_ret
 exact ⟨_,rfl,rfl,bl_alloc bR _⟩
def Fa (Z:Nat) (y y':World):Prop:=Off (fun j=>j < Z) y y'
theorem Fa.refl (Z:Nat) (y:World):Fa Z y y:=Off.refl _ _
theorem Fa.ex {Z kr:Nat} {y y':World} (h:Ex kr y y') (hk:kr < Z):Fa Z y y':=⟨h.os,h.tape,h.output,h.size,fun b h1 h2=>h.block b h1 (by omega)⟩
theorem Fa.below {Z:Nat} {y y':World} (h:Below y.heap.size y y'):Fa Z y y':=Off.of_below h
def Tx (n:Nat) (v:Value):Prop:=∃ x:ByteArray,v=.string x∧x.size≤n
def Nm (a b:Int) (v:Value):Prop:=∃ z:Int,v=.int .i64 z∧a≤z∧z≤b
def Tab (T:TypeId) (Pv:Value→Prop) (Z n:Nat) (y:World) (v:Value):Prop:=∃ g,v=.slice (some ⟨g,0,none⟩) n n∧Z≤g∧(∃ cur ro,y.heap[g]?=some (.cells cur T ro))∧∀ j,j < n→∃ u,y.cell? ⟨g,j,none⟩=some u∧Pv u
def Cel (T:TypeId) (Pv:Value→Prop) (Z:Nat) (y:World) (v:Value):Prop:=∃ g j,v=.pointer (some ⟨g,j,none⟩)∧Z≤g∧(∃ cur ro,y.heap[g]?=some (.cells cur T ro))∧∃ u,y.cell? ⟨g,j,none⟩=some u∧Pv u
def Fx (T:TypeId) (Z:Nat) (y y':World):Prop:=∃ X,Z≤X∧(∃ cur ro,y.heap[X]?=some (.cells cur T ro))∧Ex X y y'∧∃ m,y.cell? ⟨X,0,none⟩=some (.int .i64 m)
def Fb (T:TypeId) (Z:Nat) (y y':World):Prop:=Fa Z y y'∨Fx T Z y y'
theorem some_lt {y:World} {g:Nat} {c:Obj} (h:y.heap[g]?=some c):g < y.heap.size:=by
 rcases Nat.lt_or_ge g y.heap.size with h' | h'
 · exact h'
 rw [Array.getElem?_eq_none h'] at h; cases h
theorem Fb.block {T T':TypeId} {Z g:Nat} {y y':World} (h:Fb T' Z y y') (hg:Z≤g) (hT:T≠T') (ht:∃ cur ro,y.heap[g]?=some (.cells cur T ro)):y'.heap[g]?=y.heap[g]?:=by
 obtain ⟨cur,ro,ht⟩:=ht
 rcases h with h | ⟨X,-,⟨cur',ro',h2⟩,h3,-⟩
 · exact h.block g (some_lt ht) (by omega)
 refine h3.block g (some_lt ht) (fun e=>hT ?_)
 rw [e,h2] at ht
 cases ht
 rfl
theorem Tab.keep {T T':TypeId} {Pv:Value→Prop} {Z n:Nat} {y y':World} {v:Value} (h:Tab T Pv Z n y v) (hT:T≠T') (hF:Fb T' Z y y'):Tab T Pv Z n y' v:=by
 obtain ⟨g,h1,h2,h3,h4⟩:=h
 have hb:=hF.block h2 hT h3
 exact ⟨g,h1,h2,by rw [hb]; exact h3,fun j hj=>by obtain ⟨u,h5,h6⟩:=h4 j hj; exact ⟨u,(World.cell?_of_block (w:=y) (a:=⟨g,j,none⟩) hb).trans h5,h6⟩⟩
theorem Cel.keep {T T':TypeId} {Pv:Value→Prop} {Z:Nat} {y y':World} {v:Value} (h:Cel T Pv Z y v) (hT:T≠T') (hF:Fb T' Z y y'):Cel T Pv Z y' v:=by
 obtain ⟨g,j,h1,h2,h3,u,h5,h6⟩:=h
 have hb:=hF.block h2 hT h3
 exact ⟨g,j,h1,h2,by rw [hb]; exact h3,u,(World.cell?_of_block (w:=y) (a:=⟨g,j,none⟩) hb).trans h5,h6⟩
theorem put_some {o:Oper} {d:Nat} (hd:o.dst=some d) (x:Act) (v:Value):x.put o.dst v=⟨x.tmps.setIfInBounds d v,x.defers⟩:=by rw [hd]; rfl
theorem wpIxS {o:Oper} {d:Nat} (hd:o.dst=some d) {a:Act} {w:World} {K:Act→World→Prop} {Q:Exit→Act→World→Prop} {s r g n j:Nat} (ho:o.op=.indexAddr 51 (.tmp s) (.tmp r)) (e1:a.tmps[s]?.getD undef=.slice (some ⟨g,0,none⟩) n n) (e2:a.tmps[r]?.getD undef=.int .i64 (j:Int)) (hj:j < n) (h:K (a.put o.dst (.pointer (some ⟨g,j,none⟩))) w):o.wp Tryz.prog a w K Q:=by
 have i1:(j:Int) < (n:Int):=by omega
 have i0:(0:Int)≤(j:Int):=by omega
 rw [put_some hd] at h
 have H:=hidP h
 clear h
 go_simp
 exact H.out
theorem wpIxI {o:Oper} {d:Nat} (hd:o.dst=some d) {a:Act} {w:World} {K:Act→World→Prop} {Q:Exit→Act→World→Prop} {s r g n j:Nat} (ho:o.op=.indexAddr 49 (.tmp s) (.tmp r)) (e1:a.tmps[s]?.getD undef=.slice (some ⟨g,0,none⟩) n n) (e2:a.tmps[r]?.getD undef=.int .i64 (j:Int)) (hj:j < n) (h:K (a.put o.dst (.pointer (some ⟨g,j,none⟩))) w):o.wp Tryz.prog a w K Q:=by
 have i1:(j:Int) < (n:Int):=by omega
 have i0:(0:Int)≤(j:Int):=by omega
 rw [put_some hd] at h
 have H:=hidP h
 clear h
 go_simp
 exact H.out
structure Nx (kr:Nat) (q:Int) (ops:Array Oper) (D:Nat→(Nat→Bool)→World→Prop) (i:Nat):Prop where
 rd:∀ c S y,Yet ops i S→D c S y→Rq y kr (q+200 * c)
 ex:∀ c S y y' (m:Int),Yet ops i S→D c S y→Rq y' kr (q+200 * c+m)→m≤200→Ex kr y y'→D (c+1) (sset S i) y'
theorem Nx.below {kr:Nat} {q:Int} {ops:Array Oper} {D:Nat→(Nat→Bool)→World→Prop} {i:Nat} (h:Nx kr q ops D i) {c:Nat} {S:Nat→Bool} {y y':World} (hY:Yet ops i S) (hD:D c S y) (hb:Below y.heap.size y y'):D (c+1) (sset S i) y' :=
 h.ex c S y y' 0 hY hD (((h.rd c S y hY hD).below hb).up (by omega)) (by omega) (Ex.of_below hb)
structure Dz (kr:Nat) (q:Int) (W:World) (c:Nat) (S:Nat→Bool) (y:World):Prop where
 r:Rq y kr (q+200 * c)
 e:Ex kr W y
theorem Dz.up {kr:Nat} {q:Int} {W:World} {c i:Nat} {S:Nat→Bool} {y:World} (h:Dz kr q W c S y):Dz kr q W (c+1) (sset S i) y:=⟨h.r.up (by omega),h.e⟩
theorem Dz.nx {kr:Nat} {q:Int} {W:World} {ops:Array Oper} (i:Nat):Nx kr q ops (Dz kr q W) i :=
 ⟨fun c S y _ h=>h.r,fun c S y y' m _ h hr hm he=>⟨hr.up (by omega),h.e.trans he⟩⟩
theorem heap_newZ (w:World) (o:Obj):(w.alloc o).heap[w.heap.size]?=some o:=by
 show (w.heap.push o)[w.heap.size]?=some o
 simp
def txb (m:Nat):Value→Bool
 | .string x=>decide (x.size≤m)
 | _=>false
def nmb (a b:Int):Value→Bool
 | .int .i64 z=>decide (a≤z) && decide (z≤b)
 | _=>false
theorem txAll {C:Array Value} {n m:Nat} (h:(decide (C.size=n) && C.all (txb m))=true):∀ j,j < n→∃ u,C[j]?=some u∧Tx m u:=by
 intro j hj
 simp only [Bool.and_eq_true,decide_eq_true_eq] at h
 obtain ⟨h1,h2⟩:=h
 have hj':j < C.size:=by omega
 refine ⟨C[j],Array.getElem?_eq_getElem hj', ?_⟩
 have h3:=Array.all_eq_true.1 h2 j hj'
 unfold txb at h3
 split at h3
 · rename_i x hx; exact ⟨x,hx,of_decide_eq_true h3⟩
 cases h3
theorem nmAll {C:Array Value} {n:Nat} {a b:Int} (h:(decide (C.size=n) && C.all (nmb a b))=true):∀ j,j < n→∃ u,C[j]?=some u∧Nm a b u:=by
 intro j hj
 simp only [Bool.and_eq_true,decide_eq_true_eq] at h
 obtain ⟨h1,h2⟩:=h
 have hj':j < C.size:=by omega
 refine ⟨C[j],Array.getElem?_eq_getElem hj', ?_⟩
 have h3:=Array.all_eq_true.1 h2 j hj'
 unfold nmb at h3
 split at h3
 ·
  rename_i z hz
  simp only [Bool.and_eq_true,decide_eq_true_eq] at h3
  exact ⟨z,hz,h3⟩
 cases h3
theorem nm_nat {a b:Int} {n:Nat} {v:Value} (h:Nm a b v) (h0:0≤a) (h1:b < n):∃ m:Nat,v=.int .i64 (m:Int)∧m < n:=by
 obtain ⟨z,rfl,h2,h3⟩:=h
 obtain ⟨m,rfl⟩:=Int.eq_ofNat_of_zero_le (Int.le_trans h0 h2)
 exact ⟨m,rfl,by omega⟩
section
variable {Q:Exit→Act→World→Prop} {L:List Nat} {ops:Array Oper} {a0:Act} {G:World→(Nat→Value)→Nat→Prop} {D:Nat→(Nat→Bool)→World→Prop} {F:Nat→World→World→Prop} {i d j:Nat} {o:Oper}
theorem vr_self {V:Nat→Value} {v:Value}:vr ops (vset V i v) i i=v:=by
 unfold vr vset
 simp
theorem vr_own {V:Nat→Value}:vr ops V j j=V j:=by unfold vr; simp
theorem ctOut (hD:∀ c S y,D c S y→D (c+1) (sset S i) y) (hR:∀ y,F i y y) {s:Nat} {u:Value} (ho:ops[i]?=some o) (hg:o.guard=none) (hd:o.dst=some d) (hop:o.op=.move (.tmp s)) (hs:slOut L s=true) (hu:a0.tmps.getD s undef=u) (hG:∀ y V,V i=u→G y V i):Ct Tryz.prog Q L ops a0 G D F i :=
 ctp hD hR ho hg hd (fun x y c S yy g oo dd K hK=>by
  have e:x.tmps[s]?.getD undef=u:=ev_tmp ((oo.out s hs).trans hu)
  have H:=hidP hK
  clear hK g oo dd yy
  go_simp
  have h9:=H.out _ (hG _ _ vr_self)
  rw [put_some hd] at h9
  exact h9)
theorem ctPick {kr s:Nat} {q:Int} (nx:Nx kr q ops D i) (k:Int) (hk1:1≤k) (hk2:k≤1000000) (hq:q+200 * L.length < 1000000) {T:Array TypeId} (j:Nat) (ho:ops[i]?=some o) (hg:o.guard=none) (hd:o.dst=some d)
  (hop:o.op=.call { callee:=.value (.func 18),args:=#[.tmp s,.const (.int .i64 k)],argTypes:=T }) (hw:waits .any ops i j=true) (hs:slAt L j=s) (hj:∀ y V,G y V j→V j=.pointer (some ⟨kr,0,none⟩))
  (hF:∀ y y',Ex kr y y'→F i y y') (hG:∀ y V,Nm 0 (k - 1) (V i)→G y V i):Ct Tryz.prog Q L ops a0 G D F i :=
 ct ho hg hd (fun x y c S hc yy g oo dd K hK=>by
  have e1:x.tmps[s]?.getD undef=.pointer (some ⟨kr,0,none⟩):=ev_tmp (by
   have h:=hj _ _ (g.out j hw)
   rw [vr_own] at h
   unfold vals at h
   rw [hs] at h
   exact h)
  have H:=hidP hK
  have HD:=hidP dd
  have HY:=hidP yy
  have hcc:(c:Int) < (L.length:Int):=by omega
  clear hK g oo dd yy
  go_simp
  refine (pickQ kr _ k y (nx.rd c S y HY.out HD.out) (by omega) hk1 hk2).mono ?_
  rintro e y' ⟨m,rfl,m0,m1,r,ex⟩
  have h9:=H.out _ _ (hG _ _ (by rw [vr_self]; exact ⟨m,rfl,m0,by omega⟩)) (nx.ex c S y y' 1 HY.out HD.out r (by omega) ex) (hF _ _ ex)
  rw [put_some hd] at h9
  exact h9)
theorem ctDec {kr s:Nat} {q:Int} (nx:Nx kr q ops D i) {T:Array TypeId} (j:Nat) (ho:ops[i]?=some o) (hg:o.guard=none) (hd:o.dst=some d)
  (hop:o.op=.call { callee:=.value (.func 19),args:=#[.tmp s],argTypes:=T }) (hw:waits .any ops i j=true) (hs:slAt L j=s) (hj:∀ y V,G y V j→Nm 0 9 (V j))
  (hF:∀ y y',Ex kr y y'→F i y y') (hG:∀ y V,Tx 1 (V i)→G y V i):Ct Tryz.prog Q L ops a0 G D F i :=
 ct ho hg hd (fun x y c S hc yy g oo dd K hK=>by
  obtain ⟨m,hm,m0,m1⟩:=hj _ _ (g.out j hw)
  rw [vr_own] at hm
  unfold vals at hm
  rw [hs] at hm
  have e1:x.tmps[s]?.getD undef=.int .i64 m:=ev_tmp hm
  have H:=hidP hK
  have HD:=hidP dd
  have HY:=hidP yy
  clear hK g oo dd hm yy
  go_simp
  refine (dec_small m m0 (by omega) y).mono ?_
  rintro e y' ⟨x,rfl,hx,hb⟩
  have h9:=H.out _ _ (hG _ _ (by rw [vr_self]; exact ⟨x,rfl,by omega⟩)) (nx.below HY.out HD.out hb) (hF _ _ (Ex.of_below hb))
  rw [put_some hd] at h9
  exact h9)
theorem ctIxS (hD:∀ c S y,D c S y→D (c+1) (sset S i) y) (hR:∀ y,F i y y) {Z n s r:Nat} {T:TypeId} {Pv:Value→Prop} (j k:Nat) (ho:ops[i]?=some o) (hg:o.guard=none) (hd:o.dst=some d) (hop:o.op=.indexAddr 51 (.tmp s) (.tmp r)) (hw:waits .any ops i j=true) (hs:slAt L j=s) (hw2:waits .any ops i k=true) (hs2:slAt L k=r)
  (hj:∀ y V,G y V j→Tab T Pv Z n y (V j)) (hk:∀ y V,G y V k→∃ m:Nat,V k=.int .i64 (m:Int)∧m < n) (hG:∀ y V,Cel T Pv Z y (V i)→G y V i):Ct Tryz.prog Q L ops a0 G D F i :=
 ctp hD hR ho hg hd (fun x y c S yy g oo dd K hK=>by
  obtain ⟨gb,e1,h1,h2,h3⟩:=hj _ _ (g.out j hw)
  obtain ⟨m,e2,hm⟩:=hk _ _ (g.out k hw2)
  rw [vr_own] at e1 e2
  unfold vals at e1 e2
  rw [hs] at e1
  rw [hs2] at e2
  exact wpIxS hd hop (ev_tmp e1) (ev_tmp e2) hm (hK.out _ (hG _ _ (by rw [vr_self]; obtain ⟨u,h4,h5⟩:=h3 m hm; exact ⟨gb,m,rfl,h1,h2,u,h4,h5⟩))))
theorem ctIxI (hD:∀ c S y,D c S y→D (c+1) (sset S i) y) (hR:∀ y,F i y y) {Z n s r:Nat} {T:TypeId} {Pv:Value→Prop} (j k:Nat) (ho:ops[i]?=some o) (hg:o.guard=none) (hd:o.dst=some d) (hop:o.op=.indexAddr 49 (.tmp s) (.tmp r)) (hw:waits .any ops i j=true) (hs:slAt L j=s) (hw2:waits .any ops i k=true) (hs2:slAt L k=r)
  (hj:∀ y V,G y V j→Tab T Pv Z n y (V j)) (hk:∀ y V,G y V k→∃ m:Nat,V k=.int .i64 (m:Int)∧m < n) (hG:∀ y V,Cel T Pv Z y (V i)→G y V i):Ct Tryz.prog Q L ops a0 G D F i :=
 ctp hD hR ho hg hd (fun x y c S yy g oo dd K hK=>by
  obtain ⟨gb,e1,h1,h2,h3⟩:=hj _ _ (g.out j hw)
  obtain ⟨m,e2,hm⟩:=hk _ _ (g.out k hw2)
  rw [vr_own] at e1 e2
  unfold vals at e1 e2
  rw [hs] at e1
  rw [hs2] at e2
  exact wpIxI hd hop (ev_tmp e1) (ev_tmp e2) hm (hK.out _ (hG _ _ (by rw [vr_self]; obtain ⟨u,h4,h5⟩:=h3 m hm; exact ⟨gb,m,rfl,h1,h2,u,h4,h5⟩))))
theorem ctLdS (hD:∀ c S y,D c S y→D (c+1) (sset S i) y) (hR:∀ y,F i y y) {Z s n:Nat} {T:TypeId} (j:Nat) (ho:ops[i]?=some o) (hg:o.guard=none) (hd:o.dst=some d) (hop:o.op=.load 9 (.tmp s)) (hw:waits .any ops i j=true) (hs:slAt L j=s)
  (hj:∀ y V,G y V j→Cel T (Tx n) Z y (V j)) (hG:∀ y V,Tx n (V i)→G y V i):Ct Tryz.prog Q L ops a0 G D F i :=
 ctp hD hR ho hg hd (fun x y c S yy g oo dd K hK=>by
  obtain ⟨gb,m,e1,h1,h2,u,h4,t,rfl,ht⟩:=hj _ _ (g.out j hw)
  rw [vr_own] at e1
  unfold vals at e1
  rw [hs] at e1
  have e:x.tmps[s]?.getD undef=.pointer (some ⟨gb,m,none⟩):=ev_tmp e1
  have H:=hidP hK
  clear hK g oo dd e1 yy
  go_simp
  have h9:=H.out _ (hG _ _ (by rw [vr_self]; exact ⟨t,rfl,ht⟩))
  rw [put_some hd] at h9
  exact h9)
theorem ctLdI (hD:∀ c S y,D c S y→D (c+1) (sset S i) y) (hR:∀ y,F i y y) {Z s:Nat} {T:TypeId} {a b:Int} (j:Nat) (ho:ops[i]?=some o) (hg:o.guard=none) (hd:o.dst=some d) (hop:o.op=.load 3 (.tmp s)) (hw:waits .any ops i j=true) (hs:slAt L j=s)
  (hj:∀ y V,G y V j→Cel T (Nm a b) Z y (V j)) (hG:∀ y V,Nm a b (V i)→G y V i):Ct Tryz.prog Q L ops a0 G D F i :=
 ctp hD hR ho hg hd (fun x y c S yy g oo dd K hK=>by
  obtain ⟨gb,m,e1,h1,h2,u,h4,t,rfl,ht⟩:=hj _ _ (g.out j hw)
  rw [vr_own] at e1
  unfold vals at e1
  rw [hs] at e1
  have e:x.tmps[s]?.getD undef=.pointer (some ⟨gb,m,none⟩):=ev_tmp e1
  have H:=hidP hK
  clear hK g oo dd e1 yy
  go_simp
  have h9:=H.out _ (hG _ _ (by rw [vr_self]; exact ⟨t,rfl,ht⟩))
  rw [put_some hd] at h9
  exact h9)
theorem ctTab {kr Z n:Nat} {q:Int} (nx:Nx kr q ops D i) (hZ:∀ c S y,D c S y→Z≤y.heap.size) {T:TypeId} {Pv:Value→Prop} (C:Array Value) (ho:ops[i]?=some o) (hg:o.guard=none) (hd:o.dst=some d)
  (hev:∀ (x:Act) (y:World),(execOp x.eval o).run Tryz.prog y=.ok (.value (.slice (some ⟨y.heap.size,0,none⟩) n n)) (y.alloc (.cells C T))) (hP:∀ j,j < n→∃ u,C[j]?=some u∧Pv u)
  (hF:∀ y y',Ex kr y y'→F i y y') (hG:∀ y V,Tab T Pv Z n y (V i)→G y V i):Ct Tryz.prog Q L ops a0 G D F i :=
 ct ho hg hd (fun x y c S hc yy g oo dd K hK=>by
  have hb:Below y.heap.size y (y.alloc (.cells C T)):=bl_alloc bR _
  unfold Oper.wp
  rw [hev]
  refine hK.out _ _ (hG _ _ ?_) (nx.below yy.out dd.out hb) (hF _ _ (Ex.of_below hb))
  rw [vr_self]
  refine ⟨_,rfl,hZ c S y dd.out,⟨C,(0,0),heap_newZ y _⟩,fun j hj=>?_⟩
  obtain ⟨u,h1,h2⟩:=hP j hj
  exact ⟨u,by rw [← h1]; simp [go_sem],h2⟩)
end
end Go.Proofs.YtcjhlhijdacinaaGreatDoor
