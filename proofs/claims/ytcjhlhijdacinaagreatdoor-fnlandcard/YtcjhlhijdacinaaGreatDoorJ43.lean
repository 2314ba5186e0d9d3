import Derived.Test.YtcjhlhijdacinaaGreatDoorJ42
import Derived.Test.YtcjhlhijdacinaaGreatDoorJ37
import Derived.Test.YtcjhlhijdacinaaGreatDoorJ22
import Derived.Deep.DeepCutAuto
import Derived.Deep.CutBlock
import Derived.BigQuiet
namespace Go.Proofs.YtcjhlhijdacinaaGreatDoor
open Go.RowKit Go.Maps Go.WideMaps
set_option linter.unusedVariables false
theorem wpList_appG {ops:Array Oper} {rest:List Oper} {o:Oper} {a:Act} {Y:World} {Q:Exit→Act→World→Prop} (hgd:o.guard=none) (s x:Operand)
  (ho:o.op=.call { callee:=.builtin .append,args:=#[s,x],argTypes:=#[23,23] }) (B:Nat) (l:List G.GrantD) (r:G.GrantD) (v:Value) (g:Nat)
  (hs:a.eval s=v) (hown:OG B l Y v) (hB:B≤Y.heap.size) (hx:a.eval x=.slice (some ⟨g,0,none⟩) 1 1) (hc:Y.heap[g]?=some (.cells (arrG r) 40 (0,0))) (hl:l.length+1≤1048576)
  (h:∀ (s':Value) (w':World),OG B (l++[r]) w' s'→Y.grownBy w' v.ownBlock→wpList Tryz.prog ops Q rest (a.put o.dst s') w'):wpList Tryz.prog ops Q (o :: rest) a Y :=
 wpList_plain hgd fun K hK=>appRstG B s x ho l [r] v _ hs hown hB hx (rstg_one hc) hl (fun s' w' o2 hg hat=>hK _ _ (h s' w' o2 hg))
theorem base_len {t:Int} {h:ByteArray} {gs:List G.GrantD}:(baseG t h gs).length≤gs.length:=by
 unfold baseG
 split
 · exact List.length_filter_le ..
 exact left_len
theorem base_none {t:Int} {h:ByteArray} {gs:List G.GrantD}:∀ g∈baseG t h gs,g.h≠h:=by
 unfold baseG
 intro g hg e
 split at hg
 ·
  have h1:=(List.mem_filter.1 hg).2
  rw [G.keyV,e] at h1
  simp at h1
 rename_i hh
 exact has_false (by simpa using hh) g (left_mem g hg) e
theorem base_cut {t:Int} {p:TakeP} {l:List G.GrantD} {k:Nat} (hn:∀ g∈l,g.h≠p.h) (hk:k≤l.length) (hl:∀ (j:Nat) g,j < k→l[j]?=some g→Op.bytesLess g.h.toList p.h.toList=true) (hg:∀ g,l[k]?=some g→Op.bytesLess g.h.toList p.h.toList=false) :
  Ord.insS G.keyV (newG t p) l=l.take k++[newG t p]++l.drop k:=by
 have hL:∀ g:G.GrantD,Op.bytesLess g.h.toList p.h.toList=bytesBefore (G.keyV g) (G.keyV (newG t p)):=fun g=>by
  rw [Ord.less_before,ByteArray.toList_eq,ByteArray.toList_eq]; rfl
 rw [Ord.insS_cut G.keyV (newG t p) l k hk (fun j y hj hy=>by rw [← hL]; exact hl j y hj hy) (fun y hy=>by rw [← hL]; exact hg y hy)]
 rw [List.append_assoc]
 congr 1
 rw [List.singleton_append]
 congr 1
 cases hq:l[k]? with
 | none=>simp only; rw [List.drop_of_length_le (List.getElem?_eq_none_iff.1 hq)]
 | some q =>
  simp only
  rw [if_neg]
  intro e
  exact hn q (List.mem_of_getElem? hq) (Ord.ba_ext e)
theorem asked_own {m m':List G.GrantD} {n B Z b:Nat} {a:Option Addr} {c:Nat} {y z:World} (hm:m=m') (hn:n=m.length) (ho:OG Z m y (.slice a n c)) (hx:Ex b y z) (hb:b < Z) (hB:B≤Z):n=m'.length∧OG B m' z (.slice a n c):=by
 subst hm
 refine ⟨hn,owns_low (ho.grown (row:=some b) ⟨hx.os,hx.tape,hx.output,hx.size,fun j hj hne=>hx.block j hj (fun e=>hne (by rw [e]))⟩ ?_) hB⟩
 cases hv:(Value.slice a n c).ownBlock with
 | none=>exact Or.inl rfl
 | some g =>
  right
  intro e
  have h1:=((og_sl ho).lt g hv).1
  have e':g=b:=Option.some.inj e
  omega
theorem still_take {t:Int} {l:List G.GrantD} {k:Nat} {g:G.GrantD} (hg:l[k]?=some g) (ho:overG t g=false):stillG t (l.take (k+1))=stillG t (l.take k)++[g]:=by
 obtain ⟨hk,rfl⟩:=List.getElem?_eq_some_iff.1 hg
 unfold stillG
 rw [List.take_succ_eq_append_getElem hk,List.filter_append,List.filter_cons_of_pos (by rw [ho]; rfl)]
 rfl
theorem still_skip {t:Int} {l:List G.GrantD} {k:Nat} {g:G.GrantD} (hg:l[k]?=some g) (ho:overG t g=true):stillG t (l.take (k+1))=stillG t (l.take k):=by
 obtain ⟨hk,rfl⟩:=List.getElem?_eq_some_iff.1 hg
 unfold stillG
 rw [List.take_succ_eq_append_getElem hk,List.filter_append,List.filter_cons_of_neg (by rw [ho]; simp),List.filter_nil,List.append_nil]
def slRa:Nat→Nat
 | 0=>61
 | 1=>62
 | 2=>63
 | 3=>64
 | 4=>65
 | 5=>66
 | 6=>67
 | 7=>68
 | 8=>69
 | 9=>70
 | 10=>71
 | 11=>72
 | 12=>73
 | 13=>100013
 | _=>0
theorem slRa_inj (i:Nat) (hi:i < 14):∀ j,j < 14→slRa j=slRa i→j=i:=by
 have h:∀ a:_root_.Fin 14,∀ b:_root_.Fin 14,slRa b.1=slRa a.1→b.1=a.1:=by decide +kernel
 intro j hj e
 exact h ⟨i,hi⟩ ⟨j,hj⟩ e
theorem slRa_far:∀ j,j < 100000→(j < 61∨61+13≤j)→∀ i,i < 14→slRa i≠j:=by
 intro j h1 h2 i hi
 have h:∀ a:_root_.Fin 14,61≤slRa a.1∧(slRa a.1 < 61+13∨100000≤slRa a.1):=by decide +kernel
 have:=h ⟨i,hi⟩
 dsimp only at this
 omega
def GRa (xb Z:Nat) (a:Option Addr) (n c k:Nat) (aH:Option Addr) (cH:Nat) (vT:Value) (lk lt:List G.GrantD) (L:Array Bool) (w:World):Nat→Value→Prop
 | 0,v=>L.getD 5 false=false→∃ g0,v=.slice (some ⟨g0,0,none⟩) 0 0∧OG Z [] w v
 | 1,v=>v=.pointer (some ⟨xb,1,none⟩)
 | 2,v=>v=.slice a n c
 | 3,v=>v=.int .i64 (k:Int)
 | 4,v=>v=.slice aH k cH
 | 5,v=>L.getD 11 false=false→OG Z lk w v
 | 6,v=>v=.pointer (some ⟨xb,1,none⟩)
 | 7,v=>v=.slice a n c
 | 8,v=>v=.int .i64 (k:Int)
 | 9,v=>v=.int .i64 ((k:Int)+1)
 | 10,v=>v=vT
 | 11,v=>L.getD 13 false=false→OG Z (lk++lt) w v
 | 12,v=>v=.pointer (some ⟨xb,1,none⟩)
 | 13,v=>True
 | _,_=>True
theorem GRa.keep {xb Z:Nat} {a:Option Addr} {n c k:Nat} {aH:Option Addr} {cH:Nat} {vT:Value} {lk lt:List G.GrantD} {L L':Array Bool} {w w':World} (hb:Below w.heap.size w w') (h5:L'.getD 5 false=false→L.getD 5 false=false) (h11:L'.getD 11 false=false→L.getD 11 false=false) (h13:L'.getD 13 false=false→L.getD 13 false=false):∀ j v,GRa xb Z a n c k aH cH vT lk lt L w j v→GRa xb Z a n c k aH cH vT lk lt L' w' j v
 | 0,_,h=>fun e=>by
  obtain ⟨g0,h1,h2⟩:=h (h5 e)
  exact ⟨g0,h1,h2.keep hb⟩
 | 1,_,h=>h
 | 2,_,h=>h
 | 3,_,h=>h
 | 4,_,h=>h
 | 5,_,h=>fun e=>(h (h11 e)).keep hb
 | 6,_,h=>h
 | 7,_,h=>h
 | 8,_,h=>h
 | 9,_,h=>h
 | 10,_,h=>h
 | 11,_,h=>fun e=>(h (h13 e)).keep hb
 | 12,_,h=>h
 | 13,_,h=>h
 | _+14,_,h=>h
theorem GRa.dead {xb Z:Nat} {a:Option Addr} {n c k:Nat} {aH:Option Addr} {cH:Nat} {vT:Value} {lk lt:List G.GrantD} {L L':Array Bool} {w w':World} (e5:L'.getD 5 false=true) (e11:L'.getD 11 false=true):∀ j v,j≠11→GRa xb Z a n c k aH cH vT lk lt L w j v→GRa xb Z a n c k aH cH vT lk lt L' w' j v
 | 0,_,h11,h=>fun e=>by rw [e5] at e; cases e
 | 1,_,h11,h=>h
 | 2,_,h11,h=>h
 | 3,_,h11,h=>h
 | 4,_,h11,h=>h
 | 5,_,h11,h=>fun e=>by rw [e11] at e; cases e
 | 6,_,h11,h=>h
 | 7,_,h11,h=>h
 | 8,_,h11,h=>h
 | 9,_,h11,h=>h
 | 10,_,h11,h=>h
 | 11,_,h11,h=>(h11 rfl).elim
 | 12,_,h11,h=>h
 | 13,_,h11,h=>h
 | _+14,_,h11,h=>h
theorem GRa.toset {xb Z:Nat} {a:Option Addr} {n c k:Nat} {aH:Option Addr} {cH:Nat} {vT:Value} {lk lt:List G.GrantD} {L L':Array Bool} {w w':World} (e5:L'.getD 5 false=true) (e11:L'.getD 11 false=true) (e13:L'.getD 13 false=true):∀ j v,GRa xb Z a n c k aH cH vT lk lt L w j v→GRa xb Z a n c k aH cH vT lk lt L' w' j v
 | 0,_,h=>fun e=>by rw [e5] at e; cases e
 | 1,_,h=>h
 | 2,_,h=>h
 | 3,_,h=>h
 | 4,_,h=>h
 | 5,_,h=>fun e=>by rw [e11] at e; cases e
 | 6,_,h=>h
 | 7,_,h=>h
 | 8,_,h=>h
 | 9,_,h=>h
 | 10,_,h=>h
 | 11,_,h=>fun e=>by rw [e13] at e; cases e
 | 12,_,h=>h
 | 13,_,h=>h
 | _+14,_,h=>h
def DRa (xb Z:Nat) (Y:World) (m:List G.GrantD) (L:Array Bool) (w:World):Prop:=(L.getD 13 false=false→Below Z Y w)∧(L.getD 13 false=true→∃ (y0:World) (a9:Option Addr) (c9:Nat),w=y0.setCell ⟨xb,1,none⟩ (.slice a9 m.length c9)∧Below Z Y y0∧OG Z m y0 (.slice a9 m.length c9))
theorem DRa.keep {xb Z:Nat} {Y:World} {m:List G.GrantD} {L:Array Bool} {w':World} {i:Nat} (h:L.getD 13 false=false) (hi:13≠i) (hb:Below Z Y w'):DRa xb Z Y m (L.setIfInBounds i true) w':=⟨fun _=>hb,fun e=>by rw [setT_ne hi,h] at e; cases e⟩
def slRi:Nat→Nat
 | 0=>140
 | 1=>141
 | 2=>142
 | 3=>143
 | 4=>144
 | 5=>145
 | 6=>146
 | 7=>147
 | 8=>148
 | 9=>149
 | 10=>150
 | 11=>151
 | 12=>152
 | 13=>153
 | 14=>154
 | 15=>100015
 | _=>0
theorem slRi_inj (i:Nat) (hi:i < 16):∀ j,j < 16→slRi j=slRi i→j=i:=by
 have h:∀ a:_root_.Fin 16,∀ b:_root_.Fin 16,slRi b.1=slRi a.1→b.1=a.1:=by decide +kernel
 intro j hj e
 exact h ⟨i,hi⟩ ⟨j,hj⟩ e
theorem slRi_far:∀ j,j < 100000→(j < 140∨140+15≤j)→∀ i,i < 16→slRi i≠j:=by
 intro j h1 h2 i hi
 have h:∀ a:_root_.Fin 16,140≤slRi a.1∧(slRi a.1 < 140+15∨100000≤slRi a.1):=by decide +kernel
 have:=h ⟨i,hi⟩
 dsimp only at this
 omega
def GRi (xb Z:Nat) (a:Option Addr) (n c k:Nat) (aH:Option Addr) (cH:Nat) (vT:Value) (r:G.GrantD) (lk lt:List G.GrantD) (L:Array Bool) (w:World):Nat→Value→Prop
 | 0,v=>L.getD 5 false=false→∃ g0,v=.slice (some ⟨g0,0,none⟩) 0 0∧OG Z [] w v
 | 1,v=>v=.pointer (some ⟨xb,1,none⟩)
 | 2,v=>v=.slice a n c
 | 3,v=>v=.int .i64 (k:Int)
 | 4,v=>v=.slice aH k cH
 | 5,v=>L.getD 8 false=false→OG Z lk w v
 | 6,v=>v=.agg #[.string r.h,.string r.b,.string r.c,.int .i64 r.t,.int .i64 r.u]
 | 7,v=>L.getD 8 false=false→∃ g,v=.slice (some ⟨g,0,none⟩) 1 1∧g < w.heap.size∧w.heap[g]?=some (.cells (arrG r) 40 (0,0))
 | 8,v=>L.getD 13 false=false→OG Z (lk++[r]) w v
 | 9,v=>v=.pointer (some ⟨xb,1,none⟩)
 | 10,v=>v=.slice a n c
 | 11,v=>v=.int .i64 (k:Int)
 | 12,v=>v=vT
 | 13,v=>L.getD 15 false=false→OG Z (lk++[r]++lt) w v
 | 14,v=>v=.pointer (some ⟨xb,1,none⟩)
 | 15,v=>True
 | _,_=>True
theorem GRi.keep {xb Z:Nat} {a:Option Addr} {n c k:Nat} {aH:Option Addr} {cH:Nat} {vT:Value} {r:G.GrantD} {lk lt:List G.GrantD} {L L':Array Bool} {w w':World} (hb:Below w.heap.size w w') (h5:L'.getD 5 false=false→L.getD 5 false=false) (h8:L'.getD 8 false=false→L.getD 8 false=false) (h13:L'.getD 13 false=false→L.getD 13 false=false) (h15:L'.getD 15 false=false→L.getD 15 false=false):∀ j v,GRi xb Z a n c k aH cH vT r lk lt L w j v→GRi xb Z a n c k aH cH vT r lk lt L' w' j v
 | 0,_,h=>fun e=>by
  obtain ⟨g0,h1,h2⟩:=h (h5 e)
  exact ⟨g0,h1,h2.keep hb⟩
 | 1,_,h=>h
 | 2,_,h=>h
 | 3,_,h=>h
 | 4,_,h=>h
 | 5,_,h=>fun e=>(h (h8 e)).keep hb
 | 6,_,h=>h
 | 7,_,h=>fun e=>by
  obtain ⟨g,h1,h2,h3⟩:=h (h8 e)
  exact ⟨g,h1,Nat.lt_of_lt_of_le h2 hb.size,(hb.block g h2).trans h3⟩
 | 8,_,h=>fun e=>(h (h13 e)).keep hb
 | 9,_,h=>h
 | 10,_,h=>h
 | 11,_,h=>h
 | 12,_,h=>h
 | 13,_,h=>fun e=>(h (h15 e)).keep hb
 | 14,_,h=>h
 | 15,_,h=>h
 | _+16,_,h=>h
theorem GRi.dead8 {xb Z:Nat} {a:Option Addr} {n c k:Nat} {aH:Option Addr} {cH:Nat} {vT:Value} {r:G.GrantD} {lk lt:List G.GrantD} {L L':Array Bool} {w w':World} (e5:L'.getD 5 false=true) (e8:L'.getD 8 false=true):∀ j v,j≠8→j≠13→GRi xb Z a n c k aH cH vT r lk lt L w j v→GRi xb Z a n c k aH cH vT r lk lt L' w' j v
 | 0,_,h8,h13,h=>fun e=>by rw [e5] at e; cases e
 | 1,_,h8,h13,h=>h
 | 2,_,h8,h13,h=>h
 | 3,_,h8,h13,h=>h
 | 4,_,h8,h13,h=>h
 | 5,_,h8,h13,h=>fun e=>by rw [e8] at e; cases e
 | 6,_,h8,h13,h=>h
 | 7,_,h8,h13,h=>fun e=>by rw [e8] at e; cases e
 | 8,_,h8,h13,h=>(h8 rfl).elim
 | 9,_,h8,h13,h=>h
 | 10,_,h8,h13,h=>h
 | 11,_,h8,h13,h=>h
 | 12,_,h8,h13,h=>h
 | 13,_,h8,h13,h=>(h13 rfl).elim
 | 14,_,h8,h13,h=>h
 | 15,_,h8,h13,h=>h
 | _+16,_,h8,h13,h=>h
theorem GRi.dead13 {xb Z:Nat} {a:Option Addr} {n c k:Nat} {aH:Option Addr} {cH:Nat} {vT:Value} {r:G.GrantD} {lk lt:List G.GrantD} {L L':Array Bool} {w w':World} (e5:L'.getD 5 false=true) (e8:L'.getD 8 false=true) (e13:L'.getD 13 false=true):∀ j v,j≠13→GRi xb Z a n c k aH cH vT r lk lt L w j v→GRi xb Z a n c k aH cH vT r lk lt L' w' j v
 | 0,_,h13,h=>fun e=>by rw [e5] at e; cases e
 | 1,_,h13,h=>h
 | 2,_,h13,h=>h
 | 3,_,h13,h=>h
 | 4,_,h13,h=>h
 | 5,_,h13,h=>fun e=>by rw [e8] at e; cases e
 | 6,_,h13,h=>h
 | 7,_,h13,h=>fun e=>by rw [e8] at e; cases e
 | 8,_,h13,h=>fun e=>by rw [e13] at e; cases e
 | 9,_,h13,h=>h
 | 10,_,h13,h=>h
 | 11,_,h13,h=>h
 | 12,_,h13,h=>h
 | 13,_,h13,h=>(h13 rfl).elim
 | 14,_,h13,h=>h
 | 15,_,h13,h=>h
 | _+16,_,h13,h=>h
theorem GRi.toset {xb Z:Nat} {a:Option Addr} {n c k:Nat} {aH:Option Addr} {cH:Nat} {vT:Value} {r:G.GrantD} {lk lt:List G.GrantD} {L L':Array Bool} {w w':World} (e5:L'.getD 5 false=true) (e8:L'.getD 8 false=true) (e13:L'.getD 13 false=true) (e15:L'.getD 15 false=true):∀ j v,GRi xb Z a n c k aH cH vT r lk lt L w j v→GRi xb Z a n c k aH cH vT r lk lt L' w' j v
 | 0,_,h=>fun e=>by rw [e5] at e; cases e
 | 1,_,h=>h
 | 2,_,h=>h
 | 3,_,h=>h
 | 4,_,h=>h
 | 5,_,h=>fun e=>by rw [e8] at e; cases e
 | 6,_,h=>h
 | 7,_,h=>fun e=>by rw [e8] at e; cases e
 | 8,_,h=>fun e=>by rw [e13] at e; cases e
 | 9,_,h=>h
 | 10,_,h=>h
 | 11,_,h=>h
 | 12,_,h=>h
 | 13,_,h=>fun e=>by rw [e15] at e; cases e
 | 14,_,h=>h
 | 15,_,h=>h
 | _+16,_,h=>h
def DRi (xb Z:Nat) (Y:World) (m:List G.GrantD) (L:Array Bool) (w:World):Prop:=(L.getD 15 false=false→Below Z Y w)∧(L.getD 15 false=true→∃ (y0:World) (a9:Option Addr) (c9:Nat),w=y0.setCell ⟨xb,1,none⟩ (.slice a9 m.length c9)∧Below Z Y y0∧OG Z m y0 (.slice a9 m.length c9))
theorem DRi.keep {xb Z:Nat} {Y:World} {m:List G.GrantD} {L:Array Bool} {w':World} {i:Nat} (h:L.getD 15 false=false) (hi:15≠i) (hb:Below Z Y w'):DRi xb Z Y m (L.setIfInBounds i true) w':=⟨fun _=>hb,fun e=>by rw [setT_ne hi,h] at e; cases e⟩
set_option maxRecDepth 4000 in
set_option maxHeartbeats 4000000 in
theorem l6Asked_any (t:Int) (p:TakeP) (s:Int) (av:Option Addr) (nv cv:Nat) (gs:List G.GrantD) (ps:List P.PlaceD) (a1 a2:Option Addr) (c1 c2 B:Nat) (w:World) (hL:P.LandX w gs ps a1 a2) (hG:G.Sl w (.slice a1 gs.length c1) gs B) (hcap:gs.length≤c1) (hl:gs.length≤40) (hs:G.Srt gs) (hpl:ps.length≤1048576) (hln:∀ q∈ps,q.ws.length≤1048576) (ht:0≤t∧t≤2000000) :
  Calls Tryz.prog 28 #[.agg #[.int .i64 t,.slice a1 gs.length c1,.slice a2 ps.length c2],.agg #[.int .i64 p.k,.string p.b,.int .i64 s,.slice av nv cv,.string p.h,.string p.c,.int .i64 p.t]] w fun e w'=>(∃ (a9:Option Addr) (n9 c9:Nat) (q:Bool),e=.returned (.tuple #[.agg #[.int .i64 t,.slice a9 n9 c9,.slice a2 ps.length c2],.bool q])∧(q=true↔GiveOk t p gs ps)∧(q=true→n9=(Ord.insS G.keyV (newG t p) (leftG t p.h gs)).length∧OG w.heap.size (Ord.insS G.keyV (newG t p) (leftG t p.h gs)) w' (.slice a9 n9 c9)))∧Below w.heap.size w w':=by
 have hinfo:(Tryz.prog.info? 26).map (·.size)=some 3:=by kernel_rfl
 obtain ⟨xb,hxb⟩:∃ xb,xb=w.heap.size:=⟨_,rfl⟩
 have HXB:=hidP hxb
 obtain ⟨W1,hW1⟩:∃ W1,W1=((w.alloc (.cells #[.int .i64 t,.slice a1 gs.length c1,.slice a2 ps.length c2] 26)).alloc (.cells #[.int .i64 p.k,.string p.b,.int .i64 s,.slice av nv cv,.string p.h,.string p.c,.int .i64 p.t] 29)).alloc (.cells #[.int .i64 0,.slice none 0 0,.slice none 0 0] 26):=⟨_,rfl⟩
 have HW1:=hidP hW1
 have B1:Hid (Below w.heap.size w W1):=by rw [hW1]; exact bl_alloc (bl_alloc (bl_alloc bR _) _) _
 have Z1:Hid (W1.heap.size=xb+3):=by rw [hW1,hxb]; show _=_; simp
 have S1:Hid (Stg xb t (.slice a2 ps.length c2) gs a1 c1 W1):=by
  refine ⟨?_, ?_, ?_, ?_,by have:=Z1.out; omega,hcap,(hG.keep B1.out).low (Nat.zero_le _)⟩ <;> rw [hW1,hxb] <;> simp [go_sem,World.cell?_alloc_past,World.frozen?_alloc_past]
 have KP:Hid (∀ y,Off (fun j=>j=xb) W1 y→∀ j,y.cell? ⟨xb+1,j,none⟩=(#[.int .i64 p.k,.string p.b,.int .i64 s,.slice av nv cv,.string p.h,.string p.c,.int .i64 p.t]:Array Value)[j]?):=by
  intro y hy j
  rw [hy.cell (p:=⟨xb+1,j,none⟩) (by have:=Z1.out; show xb+1 < _; omega) (by show ¬ xb+1=xb; omega),hW1,hxb]
  simp [go_sem,World.cell?_alloc_past]
 have TH:Hid (∀ y,Off (fun j=>j=xb) W1 y→y.there (xb+2) 0 3):=by
  intro y hy
  refine there_land ((hy.block (xb+2) (by have:=Z1.out; omega) (by omega)).trans ?_)
  rw [hW1,hxb]
  have h:=heap_alloc_newL ((w.alloc (.cells #[.int .i64 t,.slice a1 gs.length c1,.slice a2 ps.length c2] 26)).alloc (.cells #[.int .i64 p.k,.string p.b,.int .i64 s,.slice av nv cv,.string p.h,.string p.c,.int .i64 p.t] 29)) (.cells #[.int .i64 0,.slice none 0 0,.slice none 0 0] 26)
  simp only [World.size_alloc] at h
  exact h
 have LW:Hid (Calls Tryz.prog 52 #[.agg #[.int .i64 t,.slice a1 gs.length c1,.slice a2 ps.length c2],.string p.b,.string p.c,.string p.h] W1 fun e w'=>e=.returned (.bool (wantedL p ps))∧Below W1.heap.size W1 w'):=l6Wants_any t p ps a1 a2 gs.length c1 c2 W1 (hL.keep B1.out).p (hL.keep B1.out).k hpl hln
 have LG:Hid (∀ y,Below W1.heap.size W1 y→Calls Tryz.prog 20 #[.agg #[.int .i64 t,.slice a1 gs.length c1,.slice a2 ps.length c2],.string p.h] y fun e w'=>(∃ n:Int,e=.returned (.int .i64 n)∧((∃ (k:Nat) (g:G.GrantD),n=(k:Int)∧gs[k]?=some g∧g.h=p.h)∨(n=-1∧∀ g∈gs,g.h≠p.h)))∧Below y.heap.size y w'):=fun y hy=>l6Grant_any t gs a1 a2 c1 ps.length c2 p.h y (hL.g.keep (bl_trans B1.out hy)) (by omega)
 have HS:=hidP hs
 have iw:IntKind.i64.wrap (t+32)=t+32:=by rw [IntKind.wrap_i64]; omega
 clear hL hG hs hW1 hln hpl hcap
 go_enter Tryz.func28,Tryz.ntmps28
 go_upto_region 1 with fail
 rw [← HW1.out,← hxb]
 clear hxb
 have t0:W1.cell? ⟨xb,0,none⟩=some (.int .i64 t):=S1.out.k0
 have t1:W1.cell? ⟨xb,1,none⟩=some (.slice a1 gs.length c1):=S1.out.k1
 have t2:W1.cell? ⟨xb,2,none⟩=some (.slice a2 ps.length c2):=S1.out.k2
 have p1:W1.cell? ⟨xb+1,1,none⟩=some (.string p.b):=KP.out W1 (Off.refl _ _) 1
 have p4:W1.cell? ⟨xb+1,4,none⟩=some (.string p.h):=KP.out W1 (Off.refl _ _) 4
 have p5:W1.cell? ⟨xb+1,5,none⟩=some (.string p.c):=KP.out W1 (Off.refl _ _) 5
 go_wp2_with fail
 clear t0 t1 t2 p1 p4 p5
 refine LW.out.mono ?_
 rintro e w1 ⟨rfl,c1'⟩
 have C1:=hidP c1'
 clear c1'
 cases qw:wantedL p ps
 ·
  have HNO:Hid (¬ GiveOk t p gs ps):=fun h=>by have h9:=h.1; rw [qw] at h9; cases h9
  clear qw
  obtain ⟨aY,nY,cY,hY1,hY2,hY3⟩:∃ aY nY cY,aY=a1∧nY=gs.length∧cY=c1:=⟨_,_,_,rfl,rfl,rfl⟩
  have KY:Hid (w1.cell? ⟨xb,1,none⟩=some (.slice aY nY cY)):=by rw [hY1,hY2,hY3]; exact (S1.out.keep C1.out).k1
  clear hY1 hY2 hY3
  have t0:w1.cell? ⟨xb,0,none⟩=some (.int .i64 t):=(S1.out.keep C1.out).k0
  have t1:w1.cell? ⟨xb,1,none⟩=some (.slice aY nY cY):=KY.out
  have t2:w1.cell? ⟨xb,2,none⟩=some (.slice a2 ps.length c2):=(S1.out.keep C1.out).k2
  have T9:Hid (w1.there (xb+2) 0 3):=TH.out _ (Off.of_below C1.out)
  go_wp2_with (refine wpList_store_mid (by rfl) 26 _ _ (by rfl) (xb+2) 0 #[.int .i64 t,.slice aY nY cY,.slice a2 ps.length c2] (by rfl) (by rfl) (by exact T9.out) hinfo (by simp [Value.oneCell']) ?_)
  have hrg:=World.rangeAt_setCells_same w1 (xb+2) 0 [.int .i64 t,.slice aY nY cY,.slice a2 ps.length c2] (by exact T9.out)
  have f0:=hrg 0 _ rfl
  have f1:=hrg 1 _ rfl
  have f2:=hrg 2 _ rfl
  simp only [Nat.zero_add] at f0 f1 f2
  have hx:Ex (xb+2) w1 (w1.setCells (xb+2) 0 [.int .i64 t,.slice aY nY cY,.slice a2 ps.length c2]):=(Ex.refl _ _).cells _ _
  have hXB:xb=w.heap.size:=HXB.out
  refine bodyPost_ret (v:=.tuple #[.agg #[.int .i64 t,.slice aY nY cY,.slice a2 ps.length c2],.bool false]) (by simp [results,Tryz.results28,go_sem,f0,f1,f2]) rfl ⟨⟨_,_,_,false,rfl,⟨fun h=>(by cases h),fun h=>(HNO.out h).elim⟩,fun h=>by cases h⟩, ?_⟩
  exact Ex.mono (B1.out.trans ((Off.of_below C1.out).below (fun j hj=>by omega) B1.out.size)) hx (by omega)
 ·
  have HQW:=hidP qw
  clear qw
  have t0:w1.cell? ⟨xb,0,none⟩=some (.int .i64 t):=(S1.out.keep C1.out).k0
  have t1:w1.cell? ⟨xb,1,none⟩=some (.slice a1 gs.length c1):=(S1.out.keep C1.out).k1
  have t2:w1.cell? ⟨xb,2,none⟩=some (.slice a2 ps.length c2):=(S1.out.keep C1.out).k2
  have p4:w1.cell? ⟨xb+1,4,none⟩=some (.string p.h):=KP.out w1 (Off.of_below C1.out) 4
  go_wp2_with fail
  clear t0 t1 t2 p4
  refine (LG.out w1 C1.out).mono ?_
  rintro e w2 ⟨⟨n,rfl,hn⟩,c2'⟩
  have C2:Hid (Below W1.heap.size W1 w2):=bl_trans C1.out c2'
  have HN:=hidP hn
  clear c2' hn
  go_upto_if 27 with fail
  go_cut [] (fun wx=>∃ (l1:List G.GrantD) (aY:Option Addr) (cY:Nat),Hid (Stg xb t (.slice a2 ps.length c2) l1 aY cY wx)∧Hid (Off (fun j=>j=xb) W1 wx)∧Hid (mayG t p gs=true∧((hasG p.h gs=true∧l1=Ord.out G.keyV p.h.data.toList gs)∨(hasG p.h gs=false∧l1=gs))))
  case first =>
   rcases HN.out with ⟨k,g,rfl,hgk,hgh⟩ | ⟨rfl,hnone⟩
   ·
    have hk0:(0:Int)≤(k:Int):=by omega
    have hklt:k < gs.length:=(List.getElem?_eq_some_iff.1 hgk).1
    have hki:(k:Int) < (gs.length:Int):=by omega
    have HGK:Hid (gs[k]?=some g∧g.h=p.h):=⟨hgk,hgh⟩
    have S2:Hid (Stg xb t (.slice a2 ps.length c2) gs a1 c1 w2):=S1.out.keep C2.out
    obtain ⟨bg,cg,hvg,-,hbg,hrow,-⟩:∃ b cap,Value.slice a1 gs.length c1=.slice (some ⟨b,0,none⟩) gs.length cap∧0≤b∧b < w2.heap.size∧G.RowsAt w2 b 0 gs∧w2.there b 0 (gs.length * 5):=by
     rcases S2.out.r with ⟨-,h⟩ | h
     · rw [h] at hklt; cases hklt
     exact h
    injection hvg with e1 e2 e3
    subst e1 e3
    obtain ⟨r0,r1,r2,r3,r4⟩:=hrow.at hgk
    simp only [Nat.zero_add] at r0 r1 r2 r3 r4
    have t1:w2.cell? ⟨xb,1,none⟩=some (.slice (some ⟨bg,0,none⟩) gs.length c1):=S2.out.k1
    clear hgk hgh hrow e2
    go_upto_region 6 with fail
    clear r0 r1 r2 r3 r4 t1
    obtain ⟨X,hX⟩:∃ X,X=w2.alloc (.cells #[.string g.h,.string g.b,.string g.c,.int .i64 g.t,.int .i64 g.u] 40):=⟨_,rfl⟩
    have HX:=hidP hX
    obtain ⟨gb,hgb⟩:∃ gb,gb=w2.heap.size:=⟨_,rfl⟩
    have CX:Hid (Below W1.heap.size W1 X):=by rw [hX]; exact bl_trans C2.out (bl_alloc bR _)
    have KG:Hid (∀ j,X.cell? ⟨gb,j,none⟩=(#[.string g.h,.string g.b,.string g.c,.int .i64 g.t,.int .i64 g.u]:Array Value)[j]?):=by intro j; rw [hX,hgb]; simp [go_sem]
    rw [← HX.out,← hgb]
    clear hX hgb
    have SX:Hid (Stg xb t (.slice a2 ps.length c2) gs (some ⟨bg,0,none⟩) c1 X):=S1.out.keep CX.out
    obtain ⟨mv,hmv⟩:∃ mv,mv=(overG t g || mineG p g):=⟨_,rfl⟩
    have HMV:=hidP hmv
    clear hmv
    go_cut [59] (fun v wx=>v=.bool (!mv)∧wx=X)
    case first =>
     have g1:X.cell? ⟨gb,1,none⟩=some (.string g.b):=KG.out 1
     have g2:X.cell? ⟨gb,2,none⟩=some (.string g.c):=KG.out 2
     have g3:X.cell? ⟨gb,3,none⟩=some (.int .i64 g.t):=KG.out 3
     have g4:X.cell? ⟨gb,4,none⟩=some (.int .i64 g.u):=KG.out 4
     have t0:X.cell? ⟨xb,0,none⟩=some (.int .i64 t):=SX.out.k0
     have p1:X.cell? ⟨xb+1,1,none⟩=some (.string p.b):=KP.out X (Off.of_below CX.out) 1
     have p5:X.cell? ⟨xb+1,5,none⟩=some (.string p.c):=KP.out X (Off.of_below CX.out) 5
     have p6:X.cell? ⟨xb+1,6,none⟩=some (.int .i64 p.t):=KP.out X (Off.of_below CX.out) 6
     by_cases hu:t < g.u
     ·
      have HOV:Hid (overG t g=false):=by show _=_; unfold overG; exact decide_eq_false (by omega)
      cases q1:(g.b.toList == p.b.toList)
      ·
       have hm:mv=false:=by rw [HMV.out,HOV.out]; unfold mineG eqT; rw [q1]; rfl
       subst hm
       go_wp2_with fail
       go_meet
       case rel=>exact ⟨by first | rfl | trivial,by first | rfl | trivial⟩
      cases q2:(g.c.toList == p.c.toList)
      ·
       have hm:mv=false:=by rw [HMV.out,HOV.out]; unfold mineG eqT; rw [q1,q2]; rfl
       subst hm
       go_wp2_with fail
       go_meet
       case rel=>exact ⟨by first | rfl | trivial,by first | rfl | trivial⟩
      by_cases q3:g.t≤p.t
      ·
       have hm:mv=true:=by rw [HMV.out,HOV.out]; unfold mineG eqT; rw [q1,q2,decide_eq_true q3]; rfl
       subst hm
       go_wp2_with fail
       go_meet
       case rel=>exact ⟨by first | rfl | trivial,by first | rfl | trivial⟩
      have hm:mv=false:=by rw [HMV.out,HOV.out]; unfold mineG eqT; rw [q1,q2,decide_eq_false q3]; rfl
      subst hm
      go_wp2_with fail
      go_meet
      case rel=>exact ⟨by first | rfl | trivial,by first | rfl | trivial⟩
     have hm:mv=true:=by rw [HMV.out,show overG t g=true from decide_eq_true (by omega)]; rfl
     subst hm
     go_wp2_with fail
     go_meet
     case rel=>exact ⟨by first | rfl | trivial,by first | rfl | trivial⟩
    obtain ⟨h59,hw59⟩:=hcut
    have hw60:=hw59.symm
    subst h59 hw60
    clear hw59
    have HMAY:Hid (mayG t p gs=mv):=by show _=_; rw [may_of HS.out (List.mem_of_getElem? HGK.out.1) HGK.out.2]; exact HMV.out.symm
    cases mv
    ·
     have HNO:Hid (¬ GiveOk t p gs ps):=fun h=>by have h9:=h.2.1; rw [HMAY.out] at h9; cases h9
     obtain ⟨aY,nY,cY,hY1,hY2,hY3⟩:∃ aY nY cY,aY=some (⟨bg,0,none⟩:Addr)∧nY=gs.length∧cY=c1:=⟨_,_,_,rfl,rfl,rfl⟩
     have KY:Hid (X.cell? ⟨xb,1,none⟩=some (.slice aY nY cY)):=by rw [hY1,hY2,hY3]; exact SX.out.k1
     clear hY1 hY2 hY3
     have t0:X.cell? ⟨xb,0,none⟩=some (.int .i64 t):=(SX.out).k0
     have t1:X.cell? ⟨xb,1,none⟩=some (.slice aY nY cY):=KY.out
     have t2:X.cell? ⟨xb,2,none⟩=some (.slice a2 ps.length c2):=(SX.out).k2
     have T9:Hid (X.there (xb+2) 0 3):=TH.out _ (Off.of_below CX.out)
     go_wp2_with (refine wpList_store_mid (by rfl) 26 _ _ (by rfl) (xb+2) 0 #[.int .i64 t,.slice aY nY cY,.slice a2 ps.length c2] (by rfl) (by rfl) (by exact T9.out) hinfo (by simp [Value.oneCell']) ?_)
     have hrg:=World.rangeAt_setCells_same X (xb+2) 0 [.int .i64 t,.slice aY nY cY,.slice a2 ps.length c2] (by exact T9.out)
     have f0:=hrg 0 _ rfl
     have f1:=hrg 1 _ rfl
     have f2:=hrg 2 _ rfl
     simp only [Nat.zero_add] at f0 f1 f2
     have hx:Ex (xb+2) X (X.setCells (xb+2) 0 [.int .i64 t,.slice aY nY cY,.slice a2 ps.length c2]):=(Ex.refl _ _).cells _ _
     have hXB:xb=w.heap.size:=HXB.out
     refine bodyPost_ret (v:=.tuple #[.agg #[.int .i64 t,.slice aY nY cY,.slice a2 ps.length c2],.bool false]) (by simp [results,Tryz.results28,go_sem,f0,f1,f2]) rfl ⟨⟨_,_,_,false,rfl,⟨fun h=>(by cases h),fun h=>(HNO.out h).elim⟩,fun h=>by cases h⟩, ?_⟩
     exact Ex.mono (B1.out.trans ((Off.of_below CX.out).below (fun j hj=>by omega) B1.out.size)) hx (by omega)
    go_wp2_with fail
    obtain ⟨Y,hY⟩:∃ Y:World,Y=X:=⟨_,rfl⟩
    subst hY
    have KXY:Hid (∀ y,Below Y.heap.size Y y→y.cell? ⟨xb,1,none⟩=some (.slice (some ⟨bg,0,none⟩) gs.length c1)):=fun y hy=>(SX.out.keep hy).k1
    have FXY:Hid (∀ y,Below Y.heap.size Y y→y.frozen? ⟨xb,1,none⟩=false):=fun y hy=>(SX.out.keep hy).f1
    obtain ⟨aH,cH,hH,hRH⟩:=rstg_to SX.out.r rfl SX.out.cap (Nat.le_of_lt hklt)
    have elk:(gs.take k).length=k:=by rw [List.length_take]; omega
    have HRH:Hid (RstG Y (.slice aH k cH) (gs.take k)):=⟨aH,cH,by rw [elk],hRH⟩
    have HTO:Hid (∀ wx,Sem.run Tryz.prog (Instr.slice 23 (.slice (some ⟨bg,0,none⟩) gs.length c1) none (some (.int .i64 (k:Int))) none) wx=.ok (.slice aH k cH) wx):=fun wx=>by
     have:=SX.out.cap
     rw [run_toG _ gs.length c1 k (by omega) wx,hH,elk]
    obtain ⟨aT,cT,hT,hRT⟩:=rstg_from SX.out.r rfl SX.out.cap (show k+1≤gs.length by omega)
    have elt:(gs.drop (k+1)).length=gs.length - (k+1):=by rw [List.length_drop]
    have HRT:Hid (RstG Y (.slice aT (gs.length - (k+1)) cT) (gs.drop (k+1))):=⟨aT,cT,by rw [elt],hRT⟩
    have HFR:Hid (∀ wx,Sem.run Tryz.prog (Instr.slice 23 (.slice (some ⟨bg,0,none⟩) gs.length c1) (some (.int .i64 ((k:Int)+1))) none none) wx=.ok (.slice aT (gs.length - (k+1)) cT) wx):=fun wx=>by
     have h:=run_fromG (some ⟨bg,0,none⟩) gs.length c1 (k+1) (by omega) wx
     rw [hT,elt] at h
     exact h
    have HOC:Hid (gs.take k++gs.drop (k+1)=Ord.out G.keyV p.h.data.toList gs):=by
     show _=_
     rw [Ord.out_cut G.keyV gs k g HS.out HGK.out.1,G.keyV,HGK.out.2]
    have iwk:IntKind.i64.wrap ((k:Int)+1)=(k:Int)+1:=by rw [IntKind.wrap_i64]; omega
    clear hH hRH hT hRT elk elt
    refine wp_region_any (by kernel_rfl) ?_
    refine reg_invG slRa 14 (GRa xb Y.heap.size (some ⟨bg,0,none⟩) gs.length c1 k aH cH (.slice aT (gs.length - (k+1)) cT) (gs.take k) (gs.drop (k+1))) (DRa xb Y.heap.size Y (gs.take k++gs.drop (k+1))) (by decide) rfl ⟨fun _=>bl_drew bR,fun e=>by cases e⟩ ?done1 ?step1
    case done1 =>
     intro L a y hL hdf hsz hout hG hD
     obtain ⟨y0,a9,c9,hy9,hb9,ho9⟩:=hD.2 (hL 13 (by omega))
     have SY:Hid (Stg xb t (.slice a2 ps.length c2) (gs.take k++gs.drop (k+1)) a9 c9 y):=by rw [hy9]; exact (SX.out.keep hb9).lay ho9 SX.out.z
     have OY:Hid (Off (fun j=>j=xb) W1 y):=by
      rw [hy9]
      exact (Off.of_below (bl_trans CX.out hb9)).trans (off_of_ex ((Ex.refl _ _).set _ _))
     clear hG hD hL hy9 hb9 ho9
     obtain ⟨l',hl',ha⟩:=frameP_of (lo:=61) (n:=13) hdf hsz (fun j hj=>by
      by_cases hj9:j < 100000
      · exact hout j (fun i hi=>slRa_far j hj9 hj i hi)
      rw [Array.getD_eq_getD_getElem?,Array.getD_eq_getD_getElem?,Array.getElem?_eq_none (Nat.le_trans (Nat.le_of_eq hsz) (Nat.le_trans (lE rfl) (Nat.le_of_not_lt hj9))),Array.getElem?_eq_none (Nat.le_trans (lE rfl) (Nat.le_of_not_lt hj9))]) (lE rfl)
     subst ha
     obtain ⟨s0,sl0,rfl,sh0⟩:=lenP_succ hl'
     obtain ⟨s1,sl1,rfl,sh1⟩:=lenP_succ sh0
     obtain ⟨s2,sl2,rfl,sh2⟩:=lenP_succ sh1
     obtain ⟨s3,sl3,rfl,sh3⟩:=lenP_succ sh2
     obtain ⟨s4,sl4,rfl,sh4⟩:=lenP_succ sh3
     obtain ⟨s5,sl5,rfl,sh5⟩:=lenP_succ sh4
     obtain ⟨s6,sl6,rfl,sh6⟩:=lenP_succ sh5
     obtain ⟨s7,sl7,rfl,sh7⟩:=lenP_succ sh6
     obtain ⟨s8,sl8,rfl,sh8⟩:=lenP_succ sh7
     obtain ⟨s9,sl9,rfl,sh9⟩:=lenP_succ sh8
     obtain ⟨s10,sl10,rfl,sh10⟩:=lenP_succ sh9
     obtain ⟨s11,sl11,rfl,sh11⟩:=lenP_succ sh10
     obtain ⟨s12,sl12,rfl,sh12⟩:=lenP_succ sh11
     obtain rfl:=lenP_zero sh12
     clear hdf hsz hout
     simp only [tkd,Nat.reduceAdd]
     go_wp2_with fail
     go_meet
     refine ⟨_,a9,c9,SY.out,OY.out,⟨HMAY.out,Or.inl ⟨has_of (List.mem_of_getElem? HGK.out.1) HGK.out.2,HOC.out⟩⟩⟩
    intro listed x y i hI hi hlt
    have ho:=ready_open hi
    have HLZ:=hidP hI.lz
    have HD:=hidP hI.d
    have HJ:=hidP hI
    have HI:=hidP hi
    have HO:=hidP ho
    obtain rfl | rfl | rfl | rfl | rfl | rfl | rfl | rfl | rfl | rfl | rfl | rfl | rfl | rfl:i=0∨i=1∨i=2∨i=3∨i=4∨i=5∨i=6∨i=7∨i=8∨i=9∨i=10∨i=11∨i=12∨i=13:=by omega
    ·
     have h13:=ntr hI.tr ho [11,5,0] 13 rfl rfl
     have hb6:Below Y.heap.size Y y:=hI.d.1 h13
     have hb:=bld0G y
     have HB6:=hidP hb6
     clear hb6
     clear hi hI ho
     refine op9 fun K hK=>?_
     go_simp
     have hbl:Below y.heap.size y (y.alloc (.cells #[] 40)):=bl_alloc bR _
     exact HJ.out.pu hK HI.out (fun _=>⟨y.heap.size,rfl,rfl,Or.inr ⟨y.heap.size,0,#[],rfl,HB6.out.size,heap_alloc_newL y _,Nat.le_refl _,Nat.zero_le _,rfl,rfl⟩⟩) (fun j u _ _ _ _ h=>GRa.keep hbl (fun e=>sbk HLZ e) (fun e=>sbk HLZ e) (fun e=>sbk HLZ e) j u h) (DRa.keep h13 (by decide) (bl_trans HB6.out hbl))
    ·
     have h13:=ntr hI.tr ho [11,5,4,2,1] 13 rfl rfl
     have hb6:Below Y.heap.size Y y:=hI.d.1 h13
     have e1:x.tmps[2]?.getD undef=.pointer (some ⟨xb,0,none⟩):=ev_tmp (hI.out 2 (fun i hi=>slRa_far 2 (by omega) (by omega) i hi))
     have HB6:=hidP hb6
     clear hb6
     clear hi hI ho
     refine op9 fun K hK=>?_
     go_simp
     exact HJ.out.pu hK HI.out (rfl) (fun j u _ _ _ _ h=>GRa.keep bR (fun e=>sbk HLZ e) (fun e=>sbk HLZ e) (fun e=>sbk HLZ e) j u h) (DRa.keep h13 (by decide) (HB6.out))
    ·
     have h13:=ntr hI.tr ho [11,5,4,2] 13 rfl rfl
     have hb6:Below Y.heap.size Y y:=hI.d.1 h13
     have gf1:GRa xb Y.heap.size (some ⟨bg,0,none⟩) gs.length c1 k aH cH (.slice aT (gs.length - (k+1)) cT) (gs.take k) (gs.drop (k+1)) listed y 1 (x.tmps.getD 62 undef):=hI.good 1 (by omega) (wO hi)
     have e1:x.tmps[62]?.getD undef=.pointer (some ⟨xb,1,none⟩):=ev_tmp gf1
     have k1:y.cell? ⟨xb,1,none⟩=some (.slice (some ⟨bg,0,none⟩) gs.length c1):=KXY.out y hb6
     have HB6:=hidP hb6
     clear hb6
     clear hi hI ho
     refine op9 fun K hK=>?_
     go_simp
     exact HJ.out.pu hK HI.out (rfl) (fun j u _ _ _ _ h=>GRa.keep bR (fun e=>sbk HLZ e) (fun e=>sbk HLZ e) (fun e=>sbk HLZ e) j u h) (DRa.keep h13 (by decide) (HB6.out))
    ·
     have h13:=ntr hI.tr ho [11,5,4,3] 13 rfl rfl
     have hb6:Below Y.heap.size Y y:=hI.d.1 h13
     have e1:x.tmps[6]?.getD undef=.int .i64 (k:Int):=ev_tmp (hI.out 6 (fun i hi=>slRa_far 6 (by omega) (by omega) i hi))
     have HB6:=hidP hb6
     clear hb6
     clear hi hI ho
     refine op9 fun K hK=>?_
     go_simp
     exact HJ.out.pu hK HI.out (rfl) (fun j u _ _ _ _ h=>GRa.keep bR (fun e=>sbk HLZ e) (fun e=>sbk HLZ e) (fun e=>sbk HLZ e) j u h) (DRa.keep h13 (by decide) (HB6.out))
    ·
     have h13:=ntr hI.tr ho [11,5,4] 13 rfl rfl
     have hb6:Below Y.heap.size Y y:=hI.d.1 h13
     have gf2:GRa xb Y.heap.size (some ⟨bg,0,none⟩) gs.length c1 k aH cH (.slice aT (gs.length - (k+1)) cT) (gs.take k) (gs.drop (k+1)) listed y 2 (x.tmps.getD 63 undef):=hI.good 2 (by omega) (wO hi)
     have e1:x.tmps[63]?.getD undef=.slice (some ⟨bg,0,none⟩) gs.length c1:=ev_tmp gf2
     have gf3:GRa xb Y.heap.size (some ⟨bg,0,none⟩) gs.length c1 k aH cH (.slice aT (gs.length - (k+1)) cT) (gs.take k) (gs.drop (k+1)) listed y 3 (x.tmps.getD 64 undef):=hI.good 3 (by omega) (wO hi)
     have e2:x.tmps[64]?.getD undef=.int .i64 (k:Int):=ev_tmp gf3
     have hto:=HTO.out
     have HB6:=hidP hb6
     clear hb6
     clear hi hI ho
     refine op9 fun K hK=>?_
     go_simp
     exact HJ.out.pu hK HI.out (rfl) (fun j u _ _ _ _ h=>GRa.keep bR (fun e=>sbk HLZ e) (fun e=>sbk HLZ e) (fun e=>sbk HLZ e) j u h) (DRa.keep h13 (by decide) (HB6.out))
    ·
     have h13:=ntr hI.tr ho [11,5] 13 rfl rfl
     have hb6:Below Y.heap.size Y y:=hI.d.1 h13
     have gf0:GRa xb Y.heap.size (some ⟨bg,0,none⟩) gs.length c1 k aH cH (.slice aT (gs.length - (k+1)) cT) (gs.take k) (gs.drop (k+1)) listed y 0 (x.tmps.getD 61 undef):=hI.good 0 (by omega) (wO hi)
     have gf4:GRa xb Y.heap.size (some ⟨bg,0,none⟩) gs.length c1 k aH cH (.slice aT (gs.length - (k+1)) cT) (gs.take k) (gs.drop (k+1)) listed y 4 (x.tmps.getD 65 undef):=hI.good 4 (by omega) (wO hi)
     have h5n:listed.getD 5 false=false:=noT (fun h=>openT ho h)
     obtain ⟨g0,e1,o1⟩:=gf0 h5n
     have e2:x.tmps.getD 65 undef=.slice aH k cH:=gf4
     rw [e1] at o1
     have HB6:=hidP hb6
     clear hb6
     clear hi hI ho
     refine op9 fun K hK=>?_
     refine copyRstG Y.heap.size (.tmp 61) (.tmp 65) rfl (gs.take k) g0 _ e1 o1 HB6.out.size e2 (HRH.out.keep HB6.out) (by rw [List.length_take]; omega) ?_
     intro s' w' o2 b2
     exact HJ.out.pu hK HI.out (fun _=>o2) (fun j u _ _ _ _ h=>GRa.keep b2 (fun e=>sbk HLZ e) (fun e=>sbk HLZ e) (fun e=>sbk HLZ e) j u h) (DRa.keep h13 (by decide) (bl_trans HB6.out b2))
    ·
     have h13:=ntr hI.tr ho [11,10,7,6] 13 rfl rfl
     have hb6:Below Y.heap.size Y y:=hI.d.1 h13
     have e1:x.tmps[2]?.getD undef=.pointer (some ⟨xb,0,none⟩):=ev_tmp (hI.out 2 (fun i hi=>slRa_far 2 (by omega) (by omega) i hi))
     have HB6:=hidP hb6
     clear hb6
     clear hi hI ho
     refine op9 fun K hK=>?_
     go_simp
     exact HJ.out.pu hK HI.out (rfl) (fun j u _ _ _ _ h=>GRa.keep bR (fun e=>sbk HLZ e) (fun e=>sbk HLZ e) (fun e=>sbk HLZ e) j u h) (DRa.keep h13 (by decide) (HB6.out))
    ·
     have h13:=ntr hI.tr ho [11,10,7] 13 rfl rfl
     have hb6:Below Y.heap.size Y y:=hI.d.1 h13
     have gf6:GRa xb Y.heap.size (some ⟨bg,0,none⟩) gs.length c1 k aH cH (.slice aT (gs.length - (k+1)) cT) (gs.take k) (gs.drop (k+1)) listed y 6 (x.tmps.getD 67 undef):=hI.good 6 (by omega) (wO hi)
     have e1:x.tmps[67]?.getD undef=.pointer (some ⟨xb,1,none⟩):=ev_tmp gf6
     have k1:y.cell? ⟨xb,1,none⟩=some (.slice (some ⟨bg,0,none⟩) gs.length c1):=KXY.out y hb6
     have HB6:=hidP hb6
     clear hb6
     clear hi hI ho
     refine op9 fun K hK=>?_
     go_simp
     exact HJ.out.pu hK HI.out (rfl) (fun j u _ _ _ _ h=>GRa.keep bR (fun e=>sbk HLZ e) (fun e=>sbk HLZ e) (fun e=>sbk HLZ e) j u h) (DRa.keep h13 (by decide) (HB6.out))
    ·
     have h13:=ntr hI.tr ho [11,10,9,8] 13 rfl rfl
     have hb6:Below Y.heap.size Y y:=hI.d.1 h13
     have e1:x.tmps[6]?.getD undef=.int .i64 (k:Int):=ev_tmp (hI.out 6 (fun i hi=>slRa_far 6 (by omega) (by omega) i hi))
     have HB6:=hidP hb6
     clear hb6
     clear hi hI ho
     refine op9 fun K hK=>?_
     go_simp
     exact HJ.out.pu hK HI.out (rfl) (fun j u _ _ _ _ h=>GRa.keep bR (fun e=>sbk HLZ e) (fun e=>sbk HLZ e) (fun e=>sbk HLZ e) j u h) (DRa.keep h13 (by decide) (HB6.out))
    ·
     have h13:=ntr hI.tr ho [11,10,9] 13 rfl rfl
     have hb6:Below Y.heap.size Y y:=hI.d.1 h13
     have gf8:GRa xb Y.heap.size (some ⟨bg,0,none⟩) gs.length c1 k aH cH (.slice aT (gs.length - (k+1)) cT) (gs.take k) (gs.drop (k+1)) listed y 8 (x.tmps.getD 69 undef):=hI.good 8 (by omega) (wO hi)
     have e1:x.tmps[69]?.getD undef=.int .i64 (k:Int):=ev_tmp gf8
     have HB6:=hidP hb6
     clear hb6
     clear hi hI ho
     refine op9 fun K hK=>?_
     go_simp
     exact HJ.out.pu hK HI.out (rfl) (fun j u _ _ _ _ h=>GRa.keep bR (fun e=>sbk HLZ e) (fun e=>sbk HLZ e) (fun e=>sbk HLZ e) j u h) (DRa.keep h13 (by decide) (HB6.out))
    ·
     have h13:=ntr hI.tr ho [11,10] 13 rfl rfl
     have hb6:Below Y.heap.size Y y:=hI.d.1 h13
     have gf7:GRa xb Y.heap.size (some ⟨bg,0,none⟩) gs.length c1 k aH cH (.slice aT (gs.length - (k+1)) cT) (gs.take k) (gs.drop (k+1)) listed y 7 (x.tmps.getD 68 undef):=hI.good 7 (by omega) (wO hi)
     have e1:x.tmps[68]?.getD undef=.slice (some ⟨bg,0,none⟩) gs.length c1:=ev_tmp gf7
     have gf9:GRa xb Y.heap.size (some ⟨bg,0,none⟩) gs.length c1 k aH cH (.slice aT (gs.length - (k+1)) cT) (gs.take k) (gs.drop (k+1)) listed y 9 (x.tmps.getD 70 undef):=hI.good 9 (by omega) (wO hi)
     have e2:x.tmps[70]?.getD undef=.int .i64 ((k:Int)+1):=ev_tmp gf9
     have hfr:=HFR.out
     have HB6:=hidP hb6
     clear hb6
     clear hi hI ho
     refine op9 fun K hK=>?_
     go_simp
     exact HJ.out.pu hK HI.out (rfl) (fun j u _ _ _ _ h=>GRa.keep bR (fun e=>sbk HLZ e) (fun e=>sbk HLZ e) (fun e=>sbk HLZ e) j u h) (DRa.keep h13 (by decide) (HB6.out))
    ·
     have h13:=ntr hI.tr ho [11] 13 rfl rfl
     have hb6:Below Y.heap.size Y y:=hI.d.1 h13
     have gf5:GRa xb Y.heap.size (some ⟨bg,0,none⟩) gs.length c1 k aH cH (.slice aT (gs.length - (k+1)) cT) (gs.take k) (gs.drop (k+1)) listed y 5 (x.tmps.getD 66 undef):=hI.good 5 (by omega) (wO hi)
     have gf10:GRa xb Y.heap.size (some ⟨bg,0,none⟩) gs.length c1 k aH cH (.slice aT (gs.length - (k+1)) cT) (gs.take k) (gs.drop (k+1)) listed y 10 (x.tmps.getD 71 undef):=hI.good 10 (by omega) (wO hi)
     have h11n:listed.getD 11 false=false:=noT (fun h=>openT ho h)
     have h5y:=waits_of hi (i:=11) (j:=5) (by rfl)
     have o1:=gf5 h11n
     have e2:x.tmps.getD 71 undef=.slice aT (gs.length - (k+1)) cT:=gf10
     have HB6:=hidP hb6
     clear hb6
     clear hi hI ho
     refine op9 fun K hK=>?_
     refine appRstG Y.heap.size (.tmp 66) (.tmp 71) rfl (gs.take k) (gs.drop (k+1)) _ _ rfl o1 HB6.out.size e2 (HRT.out.keep HB6.out) (by rw [List.length_take,List.length_drop]; omega) ?_
     intro s' w' o2 hg hat
     exact HJ.out.pu hK HI.out (fun _=>o2) (fun j u _ _ hne _ h=>GRa.dead (by rw [setT_ne (by decide)]; exact h5y) (setT_same (by rw [HLZ.out]; omega)) j u hne h) (DRa.keep h13 (by decide) (Below.grown HB6.out hg HB6.out.size (fun g hgg=>((og_sl o1).lt g hgg).1)))
    ·
     have h13:=ntr hI.tr ho [12] 13 rfl rfl
     have hb6:Below Y.heap.size Y y:=hI.d.1 h13
     have e1:x.tmps[2]?.getD undef=.pointer (some ⟨xb,0,none⟩):=ev_tmp (hI.out 2 (fun i hi=>slRa_far 2 (by omega) (by omega) i hi))
     have HB6:=hidP hb6
     clear hb6
     clear hi hI ho
     refine op9 fun K hK=>?_
     go_simp
     exact HJ.out.pu hK HI.out (rfl) (fun j u _ _ _ _ h=>GRa.keep bR (fun e=>sbk HLZ e) (fun e=>sbk HLZ e) (fun e=>sbk HLZ e) j u h) (DRa.keep h13 (by decide) (HB6.out))
    have h13:listed.getD 13 false=false:=noT (fun h=>openT ho h)
    have hb6:Below Y.heap.size Y y:=hI.d.1 h13
    have gf11:GRa xb Y.heap.size (some ⟨bg,0,none⟩) gs.length c1 k aH cH (.slice aT (gs.length - (k+1)) cT) (gs.take k) (gs.drop (k+1)) listed y 11 (x.tmps.getD 72 undef):=hI.good 11 (by omega) (wO hi)
    have gf12:GRa xb Y.heap.size (some ⟨bg,0,none⟩) gs.length c1 k aH cH (.slice aT (gs.length - (k+1)) cT) (gs.take k) (gs.drop (k+1)) listed y 12 (x.tmps.getD 73 undef):=hI.good 12 (by omega) (wO hi)
    have e2:x.tmps[73]?.getD undef=.pointer (some ⟨xb,1,none⟩):=ev_tmp gf12
    have o1:OG Y.heap.size (gs.take k++gs.drop (k+1)) y (x.tmps.getD 72 undef):=gf11 h13
    have h11y:=waits_of hi (i:=13) (j:=11) (by rfl)
    have h5y:=hI.tr 11 5 (by rfl) h11y
    obtain ⟨a9,c9,hv⟩:=o1.shape
    rw [hv] at o1
    have e1:x.tmps[72]?.getD undef=.slice a9 (gs.take k++gs.drop (k+1)).length c9:=ev_tmp hv
    have k1:y.cell? ⟨xb,1,none⟩=some (.slice (some ⟨bg,0,none⟩) gs.length c1):=KXY.out y hb6
    have f1:=FXY.out y hb6
    have O1:=hidP o1
    obtain ⟨n9,hn9⟩:∃ n9,n9=(gs.take k++gs.drop (k+1)).length:=⟨_,rfl⟩
    rw [← hn9] at e1 O1
    have HN9:=hidP hn9
    clear hv o1 gf11 hn9
    have HB6:=hidP hb6
    clear hb6
    clear hi hI ho
    refine op9 fun K hK=>?_
    go_simp
    exact hK.out _ _ (HJ.out.nil HI.out (by omega) (fun _=>trivial) (fun j u _ _ _ _ h=>GRa.toset (by rw [setT_ne (by decide)]; exact h5y) (by rw [setT_ne (by decide)]; exact h11y) (setT_same (by rw [HLZ.out]; omega)) j u h) (⟨(fun e=>by rw [setT_same (by rw [HLZ.out]; omega)] at e; cases e),fun _=>⟨y,a9,c9,by rw [HN9.out],HB6.out,by rw [← HN9.out]; exact O1.out⟩⟩) undef)
   have hk0:¬ (0:Int)≤-1:=by omega
   have HNF:Hid (hasG p.h gs=false):=has_none hnone
   have HMY:Hid (mayG t p gs=true):=may_none hnone
   clear hnone
   go_wp2_with fail
   go_meet
   case rel=>exact ⟨gs,a1,c1,S1.out.keep C2.out,Off.of_below C2.out,⟨HMY.out,Or.inr ⟨HNF.out,rfl⟩⟩⟩
  obtain ⟨l1,aY,cY,SY,OY,HP1⟩:=hcut
  obtain ⟨X2,hX2⟩:∃ X2:World,X2=wc:=⟨_,rfl⟩
  subst hX2
  have hl1:l1.length≤40:=by
   rcases HP1.out.2 with ⟨h1,rfl⟩ | ⟨-,rfl⟩
   ·
    have:=out_len h1
    omega
   exact hl
  have t1:X2.cell? ⟨xb,1,none⟩=some (.slice aY l1.length cY):=SY.out.k1
  go_upto_if 77 with fail
  clear t1
  generalize hbf:decide ((40:Int)≤(l1.length:Int))=bf
  have HBF:=hidP hbf
  clear hbf
  go_cut [] (fun wx=>∃ (l2:List G.GrantD) (aZ:Option Addr) (cZ:Nat),Hid (Stg xb t (.slice a2 ps.length c2) l2 aZ cZ wx)∧Hid (Off (fun j=>j=xb) W1 wx)∧Hid (mayG t p gs=true∧l2=baseG t p.h gs))
  case first =>
   cases bf
   rotate_left
   ·
    have hfu:(40:Int)≤(l1.length:Int):=of_decide_eq_true HBF.out
    have HFU:=hidP hfu
    clear hfu
    have HL:Hid (l1=gs∧stillG t l1=baseG t p.h gs):=by
     have hfull:=HFU.out
     rcases HP1.out.2 with ⟨h1,rfl⟩ | ⟨h1,rfl⟩
     ·
      have:=out_len h1
      omega
     refine ⟨rfl, ?_⟩
     unfold baseG leftG roomG
     rw [h1,decide_eq_false (show ¬ l1.length < 40 by omega)]
     rfl
    have hb:=bld0G X2
    have KX2:Hid (∀ y,Below X2.heap.size X2 y→Stg xb t (.slice a2 ps.length c2) l1 aY cY y):=fun y hy=>SY.out.keep hy
    have O0:Hid (OG X2.heap.size (stillG t (l1.take 0)) (X2.alloc (.cells #[] 40)) (.slice (some ⟨X2.heap.size,0,none⟩) 0 0)):=⟨rfl,Or.inr ⟨X2.heap.size,0,#[],rfl,Nat.le_refl _,heap_alloc_newL X2 _,Nat.le_refl _,Nat.zero_le _,rfl,rfl⟩⟩
    go_wp2_with fail
    clear hb
    go_loopw [8,9] (fun v i wx=>∃ (k:Nat),k≤l1.length∧i=.int .i64 (k:Int)∧Hid (OG X2.heap.size (stillG t (l1.take k)) wx v)∧Hid (Below X2.heap.size X2 wx)) (fun _ i _=>l1.length - (intOf i).toNat)
    case atStart=>exact ⟨0,Nat.zero_le _,rfl,O0.out,bl_alloc bR _⟩
    obtain ⟨k,hk,rfl,HO,HB⟩:=hrel
    obtain ⟨aO,cO,hvO⟩:=OG.shape HO.out
    obtain ⟨nO,hnO⟩:∃ nO,nO=(stillG t (l1.take k)).length:=⟨_,rfl⟩
    have HNO:=hidP hnO
    rw [← hnO] at hvO
    subst hvO
    clear hnO
    have t0:wr.cell? ⟨xb,0,none⟩=some (.int .i64 t):=(KX2.out wr HB.out).k0
    have t1:wr.cell? ⟨xb,1,none⟩=some (.slice aY l1.length cY):=(KX2.out wr HB.out).k1
    by_cases hlt:k < l1.length
    ·
     have hki:(k:Int) < (l1.length:Int):=by omega
     have hk0:(0:Int)≤(k:Int):=by omega
     obtain ⟨g,hg⟩:∃ g,l1[k]?=some g:=⟨l1[k],List.getElem?_eq_getElem hlt⟩
     obtain ⟨bg,cg,hvg,-,hbg,hrow,-⟩:∃ b cap,Value.slice aY l1.length cY=.slice (some ⟨b,0,none⟩) l1.length cap∧0≤b∧b < wr.heap.size∧G.RowsAt wr b 0 l1∧wr.there b 0 (l1.length * 5):=by
      rcases (KX2.out wr HB.out).r with ⟨-,h⟩ | h
      · rw [h] at hlt; cases hlt
      exact h
     injection hvg with e1 e2 e3
     subst e1 e3
     obtain ⟨r0,r1,r2,r3,r4⟩:=hrow.at hg
     simp only [Nat.zero_add] at r0 r1 r2 r3 r4
     have HG:=hidP hg
     clear hg hrow e2
     go_wp2_with fail
     go_quiet (fail)
     obtain ⟨Wq,hWq⟩:∃ Wq,Wq=wr.drewN nq:=⟨_,rfl⟩
     have BQ:Hid (Below wr.heap.size wr Wq):=by rw [hWq]; exact ⟨rfl,rfl,rfl,Nat.le_refl _,fun _ _=>rfl⟩
     rw [← hWq]
     clear hWq
     have HBQ:Hid (Below X2.heap.size X2 Wq):=bl_trans HB.out BQ.out
     have s1:Wq.cell? ⟨xb,1,none⟩=some (.slice (some ⟨bg,0,none⟩) l1.length cY):=(KX2.out Wq HBQ.out).k1
     have v0:Wq.cell? ⟨bg,k * 5,none⟩=some (.string g.h):=(BQ.out.cell (p:=⟨bg,k * 5,none⟩) hbg).trans r0
     have v1:Wq.cell? ⟨bg,k * 5+1,none⟩=some (.string g.b):=(BQ.out.cell (p:=⟨bg,k * 5+1,none⟩) hbg).trans r1
     have v2:Wq.cell? ⟨bg,k * 5+2,none⟩=some (.string g.c):=(BQ.out.cell (p:=⟨bg,k * 5+2,none⟩) hbg).trans r2
     have v3:Wq.cell? ⟨bg,k * 5+3,none⟩=some (.int .i64 g.t):=(BQ.out.cell (p:=⟨bg,k * 5+3,none⟩) hbg).trans r3
     have v4:Wq.cell? ⟨bg,k * 5+4,none⟩=some (.int .i64 g.u):=(BQ.out.cell (p:=⟨bg,k * 5+4,none⟩) hbg).trans r4
     have HOQ:Hid (OG X2.heap.size (stillG t (l1.take k)) Wq (.slice aO nO cO)):=HO.out.keep BQ.out
     clear r0 r1 r2 r3 r4 t0 t1 HB HO
     by_cases hu:t < g.u
     ·
      have HKS:Hid (stillG t (l1.take (k+1))=stillG t (l1.take k)++[g]):=still_take HG.out (decide_eq_false (by omega))
      have hbl:Below Wq.heap.size Wq (Wq.alloc (.cells #[.string g.h,.string g.b,.string g.c,.int .i64 g.t,.int .i64 g.u] 40)):=bl_alloc bR _
      have HBL:=hidP hbl
      have HO1:Hid (OG X2.heap.size (stillG t (l1.take k)) (Wq.alloc (.cells #[.string g.h,.string g.b,.string g.c,.int .i64 g.t,.int .i64 g.u] 40)) (.slice aO nO cO)):=HOQ.out.keep hbl
      have hlt9:(stillG t (l1.take k)).length+1≤1048576:=by
       have:=List.length_filter_le (fun g=>!overG t g) (l1.take k)
       have h2:(l1.take k).length≤l1.length:=by rw [List.length_take]; omega
       unfold stillG
       omega
      clear hbl
      go_wp2_with (first | (at_builtin; refine wpList_appG rfl _ _ rfl X2.heap.size (stillG t (l1.take k)) g _ Wq.heap.size rfl HO1.out (Nat.le_trans HBQ.out.size HBL.out.size) rfl (heap_alloc_newL Wq _) hlt9 ?_; intro s9 w9 o9 g9; obtain ⟨a9,c9,hs9⟩:=OG.shape o9; obtain ⟨n9,hn9⟩:∃ n9,n9=(stillG t (l1.take k)++[g]).length:=⟨_,rfl⟩; rw [← hn9] at hs9; subst hs9; have O9:Hid (OG X2.heap.size (stillG t (l1.take k)++[g]) w9 (.slice a9 n9 c9)):=o9; have G9:Hid (Below X2.heap.size X2 w9):=Below.grown (bl_trans HBQ.out HBL.out) g9 (bl_trans HBQ.out HBL.out).size (fun j hj=>((og_sl HOQ.out).lt j hj).1); clear o9 g9 hn9) | go_in)
      refine ⟨⟨k+1,by omega,by go_num, ?_,G9.out⟩,by simp [intOf]; omega⟩
      rw [HKS.out]
      exact O9.out
     have HKS:Hid (stillG t (l1.take (k+1))=stillG t (l1.take k)):=still_skip HG.out (decide_eq_true (by omega))
     go_wp2
     refine ⟨⟨k+1,by omega,by go_num, ?_,HBQ.out⟩,by simp [intOf]; omega⟩
     rw [HKS.out]
     exact HOQ.out
    have hki:¬ (k:Int) < (l1.length:Int):=by omega
    have HKE:Hid (k=l1.length):=by show _=_; omega
    have f1:=(KX2.out wr HB.out).f1
    go_wp2_with fail
    go_meet
    have ho:OG X2.heap.size (stillG t l1) wr (.slice aO (stillG t l1).length cO):=by
     have h:=HO.out
     rw [HNO.out,HKE.out,List.take_length] at h
     exact h
    have he:nO=(stillG t l1).length:=by rw [HNO.out,HKE.out,List.take_length]
    refine ⟨stillG t l1,aO,cO, ?_, ?_,⟨HP1.out.1,HL.out.2⟩⟩
    ·
     rw [he]
     exact (KX2.out wr HB.out).lay ho SY.out.z
    exact OY.out.trans ((Off.of_below HB.out).trans (off_of_ex ((Ex.refl _ _).set _ _)))
   have hfull:¬ (40:Int)≤(l1.length:Int):=of_decide_eq_false HBF.out
   have HNF:Hid (l1.length < 40):=by show _ < _; omega
   clear hfull
   go_wp2_with fail
   go_meet
   have hnf:=HNF.out
   refine ⟨l1,aY,cY,SY.out,OY.out,⟨HP1.out.1, ?_⟩⟩
   rcases HP1.out.2 with ⟨h1,h2⟩ | ⟨h1,h2⟩
   ·
    unfold baseG
    rw [h1,h2]; rfl
   unfold baseG leftG roomG
   rw [h1,h2,decide_eq_true (show gs.length < 40 by rw [← h2]; omega)]
   rfl
  obtain ⟨l2,aZ,cZ,SZ,OZ,HP2⟩:=hcut
  obtain ⟨X3,hX3⟩:∃ X3:World,X3=wc:=⟨_,rfl⟩
  subst hX3
  have hl2:l2.length≤40:=by
   rw [HP2.out.2]
   exact Nat.le_trans base_len hl
  have t1:X3.cell? ⟨xb,1,none⟩=some (.slice aZ l2.length cZ):=SZ.out.k1
  go_upto_if 108 with fail
  clear t1
  generalize hbf2:decide ((40:Int)≤(l2.length:Int))=bf2
  have HBF2:=hidP hbf2
  clear hbf2
  have HROOM:Hid (roomG p.h (leftG t p.h gs)=!bf2):=by
   show _=_
   rw [base_room hl,← HP2.out.2,← HBF2.out]
   by_cases h:l2.length < 40
   · rw [decide_eq_true h,decide_eq_false (by omega)]; rfl
   rw [decide_eq_false h,decide_eq_true (by omega)]; rfl
  cases bf2
  rotate_left
  ·
   have HNO:Hid (¬ GiveOk t p gs ps):=fun h=>by have h9:=h.2.2; rw [HROOM.out] at h9; cases h9
   obtain ⟨aY,nY,cY,hY1,hY2,hY3⟩:∃ aY nY cY,aY=aZ∧nY=l2.length∧cY=cZ:=⟨_,_,_,rfl,rfl,rfl⟩
   have KY:Hid (X3.cell? ⟨xb,1,none⟩=some (.slice aY nY cY)):=by rw [hY1,hY2,hY3]; exact SZ.out.k1
   clear hY1 hY2 hY3
   have t0:X3.cell? ⟨xb,0,none⟩=some (.int .i64 t):=(SZ.out).k0
   have t1:X3.cell? ⟨xb,1,none⟩=some (.slice aY nY cY):=KY.out
   have t2:X3.cell? ⟨xb,2,none⟩=some (.slice a2 ps.length c2):=(SZ.out).k2
   have T9:Hid (X3.there (xb+2) 0 3):=TH.out _ (OZ.out)
   go_wp2_with (refine wpList_store_mid (by rfl) 26 _ _ (by rfl) (xb+2) 0 #[.int .i64 t,.slice aY nY cY,.slice a2 ps.length c2] (by rfl) (by rfl) (by exact T9.out) hinfo (by simp [Value.oneCell']) ?_)
   have hrg:=World.rangeAt_setCells_same X3 (xb+2) 0 [.int .i64 t,.slice aY nY cY,.slice a2 ps.length c2] (by exact T9.out)
   have f0:=hrg 0 _ rfl
   have f1:=hrg 1 _ rfl
   have f2:=hrg 2 _ rfl
   simp only [Nat.zero_add] at f0 f1 f2
   have hx:Ex (xb+2) X3 (X3.setCells (xb+2) 0 [.int .i64 t,.slice aY nY cY,.slice a2 ps.length c2]):=(Ex.refl _ _).cells _ _
   have hXB:xb=w.heap.size:=HXB.out
   refine bodyPost_ret (v:=.tuple #[.agg #[.int .i64 t,.slice aY nY cY,.slice a2 ps.length c2],.bool false]) (by simp [results,Tryz.results28,go_sem,f0,f1,f2]) rfl ⟨⟨_,_,_,false,rfl,⟨fun h=>(by cases h),fun h=>(HNO.out h).elim⟩,fun h=>by cases h⟩, ?_⟩
   exact Ex.mono (B1.out.trans ((OZ.out).below (fun j hj=>by omega) B1.out.size)) hx (by omega)
  have HYES:Hid (GiveOk t p gs ps):=⟨HQW.out,HP2.out.1,HROOM.out⟩
  have HSL:Hid (G.Srt l2):=by show G.Srt _; rw [HP2.out.2]; exact base_srt HS.out
  have KX3:Hid (∀ y,Below X3.heap.size X3 y→Stg xb t (.slice a2 ps.length c2) l2 aZ cZ y):=fun y hy=>SZ.out.keep hy
  have KP3:Hid (∀ y,Below X3.heap.size X3 y→∀ j,y.cell? ⟨xb+1,j,none⟩=(#[.int .i64 p.k,.string p.b,.int .i64 s,.slice av nv cv,.string p.h,.string p.c,.int .i64 p.t]:Array Value)[j]?):=fun y hy=>KP.out y (OZ.out.trans (Off.of_below hy))
  go_upto_block 2 with fail
  go_cut [10] (fun v wx=>∃ k:Nat,v=.int .i64 (k:Int)∧Hid (Below X3.heap.size X3 wx)∧Hid (k≤l2.length)∧Hid (∀ (j:Nat) g,j < k→l2[j]?=some g→Op.bytesLess g.h.toList p.h.toList=true)∧Hid (∀ g,l2[k]?=some g→Op.bytesLess g.h.toList p.h.toList=false))
  case first =>
   go_wp2_with fail
   go_loopw [10] (fun i wx=>∃ (k:Nat),k≤l2.length∧i=.int .i64 (k:Int)∧Hid (∀ (j:Nat) g,j < k→l2[j]?=some g→Op.bytesLess g.h.toList p.h.toList=true)∧Hid (Below X3.heap.size X3 wx)) (fun i _=>l2.length - (intOf i).toNat)
   case atStart=>exact ⟨0,Nat.zero_le _,rfl,fun j g hj=>absurd hj (by omega),Below.refl _ _⟩
   obtain ⟨k,hk,rfl,Hl,HB⟩:=hrel
   have t1:wr.cell? ⟨xb,1,none⟩=some (.slice aZ l2.length cZ):=(KX3.out wr HB.out).k1
   have p4:wr.cell? ⟨xb+1,4,none⟩=some (.string p.h):=KP3.out wr HB.out 4
   by_cases hlt:k < l2.length
   ·
    have hki:(k:Int) < (l2.length:Int):=by omega
    have hk0:(0:Int)≤(k:Int):=by omega
    obtain ⟨g,hg⟩:∃ g,l2[k]?=some g:=⟨l2[k],List.getElem?_eq_getElem hlt⟩
    obtain ⟨bg,cg,hvg,-,hbg,hrow,-⟩:∃ b cap,Value.slice aZ l2.length cZ=.slice (some ⟨b,0,none⟩) l2.length cap∧0≤b∧b < wr.heap.size∧G.RowsAt wr b 0 l2∧wr.there b 0 (l2.length * 5):=by
     rcases (KX3.out wr HB.out).r with ⟨-,h⟩ | h
     · rw [h] at hlt; cases hlt
     exact h
    injection hvg with e1 e2 e3
    subst e1 e3
    obtain ⟨r0,r1,r2,r3,r4⟩:=hrow.at hg
    simp only [Nat.zero_add] at r0 r1 r2 r3 r4
    have HG:=hidP hg
    clear hg hrow e2 r1 r2 r3 r4
    cases hc:Op.bytesLess g.h.toList p.h.toList
    ·
     go_wp2_with fail
     go_quiet (fail)
     go_wp2_with fail
     go_meet
     case rel=>exact ⟨k,rfl,⟨HB.out.os,HB.out.tape,HB.out.output,HB.out.size,HB.out.block⟩,hk,Hl.out,fun r hr=>by rw [HG.out] at hr; cases hr; exact hc⟩
    go_wp2_with fail
    go_quiet (fail)
    go_wp2
    refine ⟨⟨k+1,by omega,by go_num,fun j r hj hr=>?_,⟨HB.out.os,HB.out.tape,HB.out.output,HB.out.size,HB.out.block⟩⟩,by simp [intOf]; omega⟩
    by_cases e:j=k
    ·
     subst e
     rw [HG.out] at hr
     cases hr
     exact hc
    exact Hl.out j r (by omega) hr
   have hki:¬ (k:Int) < (l2.length:Int):=by omega
   go_wp2_with fail
   go_quiet (fail)
   go_wp2_with fail
   go_meet
   case rel=>exact ⟨k,rfl,⟨HB.out.os,HB.out.tape,HB.out.output,HB.out.size,HB.out.block⟩,hk,Hl.out,fun r hr=>by rw [List.getElem?_eq_none (by omega)] at hr; cases hr⟩
  obtain ⟨k,rfl,HBk,Hk,Hl,Hg⟩:=hcut
  obtain ⟨X4,hX4⟩:∃ X4:World,X4=wc:=⟨_,rfl⟩
  subst hX4
  have t0:X4.cell? ⟨xb,0,none⟩=some (.int .i64 t):=(KX3.out X4 HBk.out).k0
  have p1:X4.cell? ⟨xb+1,1,none⟩=some (.string p.b):=KP3.out X4 HBk.out 1
  have p4:X4.cell? ⟨xb+1,4,none⟩=some (.string p.h):=KP3.out X4 HBk.out 4
  have p5:X4.cell? ⟨xb+1,5,none⟩=some (.string p.c):=KP3.out X4 HBk.out 5
  have p6:X4.cell? ⟨xb+1,6,none⟩=some (.int .i64 p.t):=KP3.out X4 HBk.out 6
  go_upto_region 23 with fail
  clear t0 p1 p4 p5 p6
  obtain ⟨Y,hY⟩:∃ Y,Y=X4.alloc (.cells #[.string p.h,.string p.b,.string p.c,.int .i64 p.t,.int .i64 (t+32)] 40):=⟨_,rfl⟩
  have HY:=hidP hY
  obtain ⟨gb,hgb⟩:∃ gb,gb=X4.heap.size:=⟨_,rfl⟩
  have CY:Hid (Below X3.heap.size X3 Y):=by rw [hY]; exact bl_trans HBk.out (bl_alloc bR _)
  have KG0:Hid (∀ j,Y.cell? ⟨gb,j,none⟩=(#[.string p.h,.string p.b,.string p.c,.int .i64 p.t,.int .i64 (t+32)]:Array Value)[j]?):=by intro j; rw [hY,hgb]; simp [go_sem]
  have ZG:Hid (gb < Y.heap.size):=by rw [hY,hgb]; show _ < _; simp
  rw [← HY.out,← hgb]
  clear hY hgb
  have SY0:Hid (Stg xb t (.slice a2 ps.length c2) l2 aZ cZ Y):=KX3.out Y CY.out
  have KGB:Hid (∀ y,Below Y.heap.size Y y→∀ j,y.cell? ⟨gb,j,none⟩=(#[.string p.h,.string p.b,.string p.c,.int .i64 p.t,.int .i64 (t+32)]:Array Value)[j]?):=fun y hy j=>(hy.cell (p:=⟨gb,j,none⟩) ZG.out).trans (KG0.out j)
  have KXY:Hid (∀ y,Below Y.heap.size Y y→y.cell? ⟨xb,1,none⟩=some (.slice aZ l2.length cZ)):=fun y hy=>(SY0.out.keep hy).k1
  have FXY:Hid (∀ y,Below Y.heap.size Y y→y.frozen? ⟨xb,1,none⟩=false):=fun y hy=>(SY0.out.keep hy).f1
  obtain ⟨aH,cH,hH,hRH⟩:=rstg_to SY0.out.r rfl SY0.out.cap Hk.out
  have elk:(l2.take k).length=k:=by have:=Hk.out; rw [List.length_take]; omega
  have HRH:Hid (RstG Y (.slice aH k cH) (l2.take k)):=⟨aH,cH,by rw [elk],hRH⟩
  have HTO:Hid (∀ wx,Sem.run Tryz.prog (Instr.slice 23 (.slice aZ l2.length cZ) none (some (.int .i64 (k:Int))) none) wx=.ok (.slice aH k cH) wx):=fun wx=>by
   have:=SY0.out.cap
   have:=Hk.out
   rw [run_toG _ l2.length cZ k (by omega) wx,hH,elk]
  obtain ⟨aT,cT,hT,hRT⟩:=rstg_from SY0.out.r rfl SY0.out.cap Hk.out
  have elt:(l2.drop k).length=l2.length - k:=by rw [List.length_drop]
  have HRT:Hid (RstG Y (.slice aT (l2.length - k) cT) (l2.drop k)):=⟨aT,cT,by rw [elt],hRT⟩
  have HFR:Hid (∀ wx,Sem.run Tryz.prog (Instr.slice 23 (.slice aZ l2.length cZ) (some (.int .i64 (k:Int))) none none) wx=.ok (.slice aT (l2.length - k) cT) wx):=fun wx=>by
   have h:=run_fromG aZ l2.length cZ k Hk.out wx
   rw [hT,elt] at h
   exact h
  obtain ⟨m,hm⟩:∃ m,m=l2.take k++[newG t p]++l2.drop k:=⟨_,rfl⟩
  have HM:Hid (m=Ord.insS G.keyV (newG t p) (leftG t p.h gs)):=by
   show _=_
   rw [hm,← base_ins HS.out,← HP2.out.2]
   refine (base_cut (by rw [HP2.out.2]; exact base_none) Hk.out Hl.out Hg.out).symm
  have HM0:=hidP hm
  clear hH hRH hT hRT elk elt hm
  refine wp_region_any (by kernel_rfl) ?_
  refine reg_invG slRi 16 (GRi xb Y.heap.size aZ l2.length cZ k aH cH (.slice aT (l2.length - k) cT) (newG t p) (l2.take k) (l2.drop k)) (DRi xb Y.heap.size Y (l2.take k++[newG t p]++l2.drop k)) (by decide) rfl ⟨fun _=>bl_drew bR,fun e=>by cases e⟩ ?done2 ?step2
  case done2 =>
   intro L a y hL hdf hsz hout hG hD
   obtain ⟨y0,a9,c9,hy9,hb9,ho9⟩:=hD.2 (hL 15 (by omega))
   have SY:Hid (Stg xb t (.slice a2 ps.length c2) m a9 c9 y):=by rw [hy9,HM0.out]; exact (SY0.out.keep hb9).lay ho9 SY0.out.z
   have OX:Hid (Off (fun j=>j=xb) X3 y):=by
    rw [hy9]
    exact (Off.of_below (bl_trans CY.out hb9)).trans (off_of_ex ((Ex.refl _ _).set _ _))
   have OW:Hid (OG Y.heap.size m y (.slice a9 m.length c9)):=by
    rw [hy9,HM0.out]
    have hx:Ex xb y0 (y0.setCell ⟨xb,1,none⟩ (.slice a9 (l2.take k++[newG t p]++l2.drop k).length c9)):=(Ex.refl _ _).set _ _
    refine ho9.grown (row:=some xb) ⟨hx.os,hx.tape,hx.output,hx.size,fun j hj hne=>hx.block j hj (fun e=>hne (by rw [e]))⟩ ?_
    cases hv:(Value.slice a9 (l2.take k++[newG t p]++l2.drop k).length c9).ownBlock with
    | none=>exact Or.inl rfl
    | some g =>
     right
     intro e
     have h1:=((og_sl ho9).lt g hv).1
     have h2:=SY0.out.z
     have e':g=xb:=Option.some.inj e
     omega
   clear hG hD hL hy9 hb9 ho9
   obtain ⟨l',hl',ha⟩:=frameP_of (lo:=140) (n:=15) hdf hsz (fun j hj=>by
    by_cases hj9:j < 100000
    · exact hout j (fun i hi=>slRi_far j hj9 hj i hi)
    rw [Array.getD_eq_getD_getElem?,Array.getD_eq_getD_getElem?,Array.getElem?_eq_none (Nat.le_trans (Nat.le_of_eq hsz) (Nat.le_trans (lE rfl) (Nat.le_of_not_lt hj9))),Array.getElem?_eq_none (Nat.le_trans (lE rfl) (Nat.le_of_not_lt hj9))]) (lE rfl)
   subst ha
   obtain ⟨s0,sl0,rfl,sh0⟩:=lenP_succ hl'
   obtain ⟨s1,sl1,rfl,sh1⟩:=lenP_succ sh0
   obtain ⟨s2,sl2,rfl,sh2⟩:=lenP_succ sh1
   obtain ⟨s3,sl3,rfl,sh3⟩:=lenP_succ sh2
   obtain ⟨s4,sl4,rfl,sh4⟩:=lenP_succ sh3
   obtain ⟨s5,sl5,rfl,sh5⟩:=lenP_succ sh4
   obtain ⟨s6,sl6,rfl,sh6⟩:=lenP_succ sh5
   obtain ⟨s7,sl7,rfl,sh7⟩:=lenP_succ sh6
   obtain ⟨s8,sl8,rfl,sh8⟩:=lenP_succ sh7
   obtain ⟨s9,sl9,rfl,sh9⟩:=lenP_succ sh8
   obtain ⟨s10,sl10,rfl,sh10⟩:=lenP_succ sh9
   obtain ⟨s11,sl11,rfl,sh11⟩:=lenP_succ sh10
   obtain ⟨s12,sl12,rfl,sh12⟩:=lenP_succ sh11
   obtain ⟨s13,sl13,rfl,sh13⟩:=lenP_succ sh12
   obtain ⟨s14,sl14,rfl,sh14⟩:=lenP_succ sh13
   obtain rfl:=lenP_zero sh14
   clear hdf hsz hout
   simp only [tkd,Nat.reduceAdd]
   obtain ⟨aY,nY,cY,hY1,hY2,hY3⟩:∃ aY nY cY,aY=a9∧nY=m.length∧cY=c9:=⟨_,_,_,rfl,rfl,rfl⟩
   have KY:Hid (y.cell? ⟨xb,1,none⟩=some (.slice aY nY cY)):=by rw [hY1,hY2,hY3]; exact SY.out.k1
   have OWY:Hid (nY=m.length∧OG Y.heap.size m y (.slice aY nY cY)):=⟨hY2,by rw [hY1,hY2,hY3]; exact OW.out⟩
   clear hY1 hY2 hY3
   have HZY:Hid (W1.heap.size≤Y.heap.size):=Nat.le_trans OZ.out.size CY.out.size
   have t0:y.cell? ⟨xb,0,none⟩=some (.int .i64 t):=(SY.out).k0
   have t1:y.cell? ⟨xb,1,none⟩=some (.slice aY nY cY):=KY.out
   have t2:y.cell? ⟨xb,2,none⟩=some (.slice a2 ps.length c2):=(SY.out).k2
   have T9:Hid (y.there (xb+2) 0 3):=TH.out _ (OZ.out.trans OX.out)
   go_wp2_with (refine wpList_store_mid (by rfl) 26 _ _ (by rfl) (xb+2) 0 #[.int .i64 t,.slice aY nY cY,.slice a2 ps.length c2] (by rfl) (by rfl) (by exact T9.out) hinfo (by simp [Value.oneCell']) ?_)
   have hrg:=World.rangeAt_setCells_same y (xb+2) 0 [.int .i64 t,.slice aY nY cY,.slice a2 ps.length c2] (by exact T9.out)
   have f0:=hrg 0 _ rfl
   have f1:=hrg 1 _ rfl
   have f2:=hrg 2 _ rfl
   simp only [Nat.zero_add] at f0 f1 f2
   have hx:Ex (xb+2) y (y.setCells (xb+2) 0 [.int .i64 t,.slice aY nY cY,.slice a2 ps.length c2]):=(Ex.refl _ _).cells _ _
   have hXB:xb=w.heap.size:=HXB.out
   refine bodyPost_ret (v:=.tuple #[.agg #[.int .i64 t,.slice aY nY cY,.slice a2 ps.length c2],.bool true]) (by simp [results,Tryz.results28,go_sem,f0,f1,f2]) rfl ⟨⟨_,_,_,true,rfl,⟨fun _=>HYES.out,fun _=>rfl⟩,fun _=>asked_own HM.out OWY.out.1 OWY.out.2 hx (by have:=HZY.out; have:=Z1.out; omega) (by have:=HZY.out; have:=Z1.out; omega)⟩, ?_⟩
   exact Ex.mono (B1.out.trans ((OZ.out.trans OX.out).below (fun j hj=>by omega) B1.out.size)) hx (by omega)
  intro listed x y i hI hi hlt
  have ho:=ready_open hi
  have HLZ:=hidP hI.lz
  have HD:=hidP hI.d
  have HJ:=hidP hI
  have HI:=hidP hi
  have HO:=hidP ho
  obtain rfl | rfl | rfl | rfl | rfl | rfl | rfl | rfl | rfl | rfl | rfl | rfl | rfl | rfl | rfl | rfl:i=0∨i=1∨i=2∨i=3∨i=4∨i=5∨i=6∨i=7∨i=8∨i=9∨i=10∨i=11∨i=12∨i=13∨i=14∨i=15:=by omega
  ·
   have h15:=ntr hI.tr ho [13,8,5,0] 15 rfl rfl
   have hb6:Below Y.heap.size Y y:=hI.d.1 h15
   have hb:=bld0G y
   have HB6:=hidP hb6
   clear hb6
   clear hi hI ho
   refine op9 fun K hK=>?_
   go_simp
   have hbl:Below y.heap.size y (y.alloc (.cells #[] 40)):=bl_alloc bR _
   exact HJ.out.pu hK HI.out (fun _=>⟨y.heap.size,rfl,rfl,Or.inr ⟨y.heap.size,0,#[],rfl,HB6.out.size,heap_alloc_newL y _,Nat.le_refl _,Nat.zero_le _,rfl,rfl⟩⟩) (fun j u _ _ _ _ h=>GRi.keep hbl (fun e=>sbk HLZ e) (fun e=>sbk HLZ e) (fun e=>sbk HLZ e) (fun e=>sbk HLZ e) j u h) (DRi.keep h15 (by decide) (bl_trans HB6.out hbl))
  ·
   have h15:=ntr hI.tr ho [13,8,5,4,2,1] 15 rfl rfl
   have hb6:Below Y.heap.size Y y:=hI.d.1 h15
   have e1:x.tmps[2]?.getD undef=.pointer (some ⟨xb,0,none⟩):=ev_tmp (hI.out 2 (fun i hi=>slRi_far 2 (by omega) (by omega) i hi))
   have HB6:=hidP hb6
   clear hb6
   clear hi hI ho
   refine op9 fun K hK=>?_
   go_simp
   exact HJ.out.pu hK HI.out (rfl) (fun j u _ _ _ _ h=>GRi.keep bR (fun e=>sbk HLZ e) (fun e=>sbk HLZ e) (fun e=>sbk HLZ e) (fun e=>sbk HLZ e) j u h) (DRi.keep h15 (by decide) (HB6.out))
  ·
   have h15:=ntr hI.tr ho [13,8,5,4,2] 15 rfl rfl
   have hb6:Below Y.heap.size Y y:=hI.d.1 h15
   have gf1:GRi xb Y.heap.size aZ l2.length cZ k aH cH (.slice aT (l2.length - k) cT) (newG t p) (l2.take k) (l2.drop k) listed y 1 (x.tmps.getD 141 undef):=hI.good 1 (by omega) (wO hi)
   have e1:x.tmps[141]?.getD undef=.pointer (some ⟨xb,1,none⟩):=ev_tmp gf1
   have k1:y.cell? ⟨xb,1,none⟩=some (.slice aZ l2.length cZ):=KXY.out y hb6
   have HB6:=hidP hb6
   clear hb6
   clear hi hI ho
   refine op9 fun K hK=>?_
   go_simp
   exact HJ.out.pu hK HI.out (rfl) (fun j u _ _ _ _ h=>GRi.keep bR (fun e=>sbk HLZ e) (fun e=>sbk HLZ e) (fun e=>sbk HLZ e) (fun e=>sbk HLZ e) j u h) (DRi.keep h15 (by decide) (HB6.out))
  ·
   have h15:=ntr hI.tr ho [13,8,5,4,3] 15 rfl rfl
   have hb6:Below Y.heap.size Y y:=hI.d.1 h15
   have e1:x.tmps[10]?.getD undef=.int .i64 (k:Int):=ev_tmp (hI.out 10 (fun i hi=>slRi_far 10 (by omega) (by omega) i hi))
   have HB6:=hidP hb6
   clear hb6
   clear hi hI ho
   refine op9 fun K hK=>?_
   go_simp
   exact HJ.out.pu hK HI.out (rfl) (fun j u _ _ _ _ h=>GRi.keep bR (fun e=>sbk HLZ e) (fun e=>sbk HLZ e) (fun e=>sbk HLZ e) (fun e=>sbk HLZ e) j u h) (DRi.keep h15 (by decide) (HB6.out))
  ·
   have h15:=ntr hI.tr ho [13,8,5,4] 15 rfl rfl
   have hb6:Below Y.heap.size Y y:=hI.d.1 h15
   have gf2:GRi xb Y.heap.size aZ l2.length cZ k aH cH (.slice aT (l2.length - k) cT) (newG t p) (l2.take k) (l2.drop k) listed y 2 (x.tmps.getD 142 undef):=hI.good 2 (by omega) (wO hi)
   have e1:x.tmps[142]?.getD undef=.slice aZ l2.length cZ:=ev_tmp gf2
   have gf3:GRi xb Y.heap.size aZ l2.length cZ k aH cH (.slice aT (l2.length - k) cT) (newG t p) (l2.take k) (l2.drop k) listed y 3 (x.tmps.getD 143 undef):=hI.good 3 (by omega) (wO hi)
   have e2:x.tmps[143]?.getD undef=.int .i64 (k:Int):=ev_tmp gf3
   have hto:=HTO.out
   have HB6:=hidP hb6
   clear hb6
   clear hi hI ho
   refine op9 fun K hK=>?_
   go_simp
   exact HJ.out.pu hK HI.out (rfl) (fun j u _ _ _ _ h=>GRi.keep bR (fun e=>sbk HLZ e) (fun e=>sbk HLZ e) (fun e=>sbk HLZ e) (fun e=>sbk HLZ e) j u h) (DRi.keep h15 (by decide) (HB6.out))
  ·
   have h15:=ntr hI.tr ho [13,8,5] 15 rfl rfl
   have hb6:Below Y.heap.size Y y:=hI.d.1 h15
   have gf0:GRi xb Y.heap.size aZ l2.length cZ k aH cH (.slice aT (l2.length - k) cT) (newG t p) (l2.take k) (l2.drop k) listed y 0 (x.tmps.getD 140 undef):=hI.good 0 (by omega) (wO hi)
   have gf4:GRi xb Y.heap.size aZ l2.length cZ k aH cH (.slice aT (l2.length - k) cT) (newG t p) (l2.take k) (l2.drop k) listed y 4 (x.tmps.getD 144 undef):=hI.good 4 (by omega) (wO hi)
   have h5n:listed.getD 5 false=false:=noT (fun h=>openT ho h)
   obtain ⟨g0,e1,o1⟩:=gf0 h5n
   have e2:x.tmps.getD 144 undef=.slice aH k cH:=gf4
   rw [e1] at o1
   have HB6:=hidP hb6
   clear hb6
   clear hi hI ho
   refine op9 fun K hK=>?_
   refine copyRstG Y.heap.size (.tmp 140) (.tmp 144) rfl (l2.take k) g0 _ e1 o1 HB6.out.size e2 (HRH.out.keep HB6.out) (by rw [List.length_take]; omega) ?_
   intro s' w' o2 b2
   exact HJ.out.pu hK HI.out (fun _=>o2) (fun j u _ _ _ _ h=>GRi.keep b2 (fun e=>sbk HLZ e) (fun e=>sbk HLZ e) (fun e=>sbk HLZ e) (fun e=>sbk HLZ e) j u h) (DRi.keep h15 (by decide) (bl_trans HB6.out b2))
  ·
   have h15:=ntr hI.tr ho [13,8,7,6] 15 rfl rfl
   have hb6:Below Y.heap.size Y y:=hI.d.1 h15
   have e1:x.tmps[11]?.getD undef=.pointer (some ⟨gb,0,none⟩):=ev_tmp (hI.out 11 (fun i hi=>slRi_far 11 (by omega) (by omega) i hi))
   have k0:y.cell? ⟨gb,0,none⟩=some (.string p.h):=KGB.out y hb6 0
   have k1:y.cell? ⟨gb,1,none⟩=some (.string p.b):=KGB.out y hb6 1
   have k2:y.cell? ⟨gb,2,none⟩=some (.string p.c):=KGB.out y hb6 2
   have k3:y.cell? ⟨gb,3,none⟩=some (.int .i64 p.t):=KGB.out y hb6 3
   have k4:y.cell? ⟨gb,4,none⟩=some (.int .i64 (t+32)):=KGB.out y hb6 4
   have HB6:=hidP hb6
   clear hb6
   clear hi hI ho
   refine op9 fun K hK=>?_
   go_simp
   exact HJ.out.pu hK HI.out (rfl) (fun j u _ _ _ _ h=>GRi.keep bR (fun e=>sbk HLZ e) (fun e=>sbk HLZ e) (fun e=>sbk HLZ e) (fun e=>sbk HLZ e) j u h) (DRi.keep h15 (by decide) (HB6.out))
  ·
   have h15:=ntr hI.tr ho [13,8,7] 15 rfl rfl
   have hb6:Below Y.heap.size Y y:=hI.d.1 h15
   have gf6:GRi xb Y.heap.size aZ l2.length cZ k aH cH (.slice aT (l2.length - k) cT) (newG t p) (l2.take k) (l2.drop k) listed y 6 (x.tmps.getD 146 undef):=hI.good 6 (by omega) (wO hi)
   have e1:x.tmps[146]?.getD undef=.agg #[.string p.h,.string p.b,.string p.c,.int .i64 p.t,.int .i64 (t+32)]:=ev_tmp gf6
   have hb:∀ w,Sem.run Tryz.prog (Instr.buildSlice 23 1 #[(0,.agg #[.string p.h,.string p.b,.string p.c,.int .i64 p.t,.int .i64 (t+32)])]) w=.ok (.slice (some ⟨w.heap.size,0,none⟩) 1 1) (w.alloc (.cells (arrG (newG t p)) 40)):=bld1G (newG t p)
   have HB6:=hidP hb6
   clear hb6
   clear hi hI ho
   refine op9 fun K hK=>?_
   go_simp
   have hbl:Below y.heap.size y (y.alloc (.cells (arrG (newG t p)) 40)):=bl_alloc bR _
   exact HJ.out.pu hK HI.out (fun _=>⟨y.heap.size,rfl,by simp,heap_alloc_newL y _⟩) (fun j u _ _ _ _ h=>GRi.keep hbl (fun e=>sbk HLZ e) (fun e=>sbk HLZ e) (fun e=>sbk HLZ e) (fun e=>sbk HLZ e) j u h) (DRi.keep h15 (by decide) (bl_trans HB6.out hbl))
  ·
   have h15:=ntr hI.tr ho [13,8] 15 rfl rfl
   have hb6:Below Y.heap.size Y y:=hI.d.1 h15
   have gf5:GRi xb Y.heap.size aZ l2.length cZ k aH cH (.slice aT (l2.length - k) cT) (newG t p) (l2.take k) (l2.drop k) listed y 5 (x.tmps.getD 145 undef):=hI.good 5 (by omega) (wO hi)
   have gf7:GRi xb Y.heap.size aZ l2.length cZ k aH cH (.slice aT (l2.length - k) cT) (newG t p) (l2.take k) (l2.drop k) listed y 7 (x.tmps.getD 147 undef):=hI.good 7 (by omega) (wO hi)
   have h8n:listed.getD 8 false=false:=noT (fun h=>openT ho h)
   have HO9:=hidP ho
   have h5y:=waits_of hi (i:=8) (j:=5) (by rfl)
   have o1:=gf5 h8n
   obtain ⟨g9,e2,-,c9⟩:=gf7 h8n
   have HB6:=hidP hb6
   clear hb6
   clear hi hI ho
   refine op9 fun K hK=>?_
   refine appRstG Y.heap.size (.tmp 145) (.tmp 147) rfl (l2.take k) [newG t p] _ _ rfl o1 HB6.out.size e2 (rstg_one c9) (by rw [List.length_take]; simp only [List.length_cons,List.length_nil]; omega) ?_
   intro s' w' o2 hg hat
   exact HJ.out.pu hK HI.out (fun _=>o2) (fun j u _ _ hne hl h=>GRi.dead8 (by rw [setT_ne (by decide)]; exact h5y) (setT_same (by rw [HLZ.out]; omega)) j u hne (fun e=>by subst e; exact openT HO9.out (HJ.out.tr 13 8 (by rfl) hl)) h) (DRi.keep h15 (by decide) (Below.grown HB6.out hg HB6.out.size (fun g hgg=>((og_sl o1).lt g hgg).1)))
  ·
   have h15:=ntr hI.tr ho [13,12,10,9] 15 rfl rfl
   have hb6:Below Y.heap.size Y y:=hI.d.1 h15
   have e1:x.tmps[2]?.getD undef=.pointer (some ⟨xb,0,none⟩):=ev_tmp (hI.out 2 (fun i hi=>slRi_far 2 (by omega) (by omega) i hi))
   have HB6:=hidP hb6
   clear hb6
   clear hi hI ho
   refine op9 fun K hK=>?_
   go_simp
   exact HJ.out.pu hK HI.out (rfl) (fun j u _ _ _ _ h=>GRi.keep bR (fun e=>sbk HLZ e) (fun e=>sbk HLZ e) (fun e=>sbk HLZ e) (fun e=>sbk HLZ e) j u h) (DRi.keep h15 (by decide) (HB6.out))
  ·
   have h15:=ntr hI.tr ho [13,12,10] 15 rfl rfl
   have hb6:Below Y.heap.size Y y:=hI.d.1 h15
   have gf9:GRi xb Y.heap.size aZ l2.length cZ k aH cH (.slice aT (l2.length - k) cT) (newG t p) (l2.take k) (l2.drop k) listed y 9 (x.tmps.getD 149 undef):=hI.good 9 (by omega) (wO hi)
   have e1:x.tmps[149]?.getD undef=.pointer (some ⟨xb,1,none⟩):=ev_tmp gf9
   have k1:y.cell? ⟨xb,1,none⟩=some (.slice aZ l2.length cZ):=KXY.out y hb6
   have HB6:=hidP hb6
   clear hb6
   clear hi hI ho
   refine op9 fun K hK=>?_
   go_simp
   exact HJ.out.pu hK HI.out (rfl) (fun j u _ _ _ _ h=>GRi.keep bR (fun e=>sbk HLZ e) (fun e=>sbk HLZ e) (fun e=>sbk HLZ e) (fun e=>sbk HLZ e) j u h) (DRi.keep h15 (by decide) (HB6.out))
  ·
   have h15:=ntr hI.tr ho [13,12,11] 15 rfl rfl
   have hb6:Below Y.heap.size Y y:=hI.d.1 h15
   have e1:x.tmps[10]?.getD undef=.int .i64 (k:Int):=ev_tmp (hI.out 10 (fun i hi=>slRi_far 10 (by omega) (by omega) i hi))
   have HB6:=hidP hb6
   clear hb6
   clear hi hI ho
   refine op9 fun K hK=>?_
   go_simp
   exact HJ.out.pu hK HI.out (rfl) (fun j u _ _ _ _ h=>GRi.keep bR (fun e=>sbk HLZ e) (fun e=>sbk HLZ e) (fun e=>sbk HLZ e) (fun e=>sbk HLZ e) j u h) (DRi.keep h15 (by decide) (HB6.out))
  ·
   have h15:=ntr hI.tr ho [13,12] 15 rfl rfl
   have hb6:Below Y.heap.size Y y:=hI.d.1 h15
   have gf10:GRi xb Y.heap.size aZ l2.length cZ k aH cH (.slice aT (l2.length - k) cT) (newG t p) (l2.take k) (l2.drop k) listed y 10 (x.tmps.getD 150 undef):=hI.good 10 (by omega) (wO hi)
   have e1:x.tmps[150]?.getD undef=.slice aZ l2.length cZ:=ev_tmp gf10
   have gf11:GRi xb Y.heap.size aZ l2.length cZ k aH cH (.slice aT (l2.length - k) cT) (newG t p) (l2.take k) (l2.drop k) listed y 11 (x.tmps.getD 151 undef):=hI.good 11 (by omega) (wO hi)
   have e2:x.tmps[151]?.getD undef=.int .i64 (k:Int):=ev_tmp gf11
   have hfr:=HFR.out
   have HB6:=hidP hb6
   clear hb6
   clear hi hI ho
   refine op9 fun K hK=>?_
   go_simp
   exact HJ.out.pu hK HI.out (rfl) (fun j u _ _ _ _ h=>GRi.keep bR (fun e=>sbk HLZ e) (fun e=>sbk HLZ e) (fun e=>sbk HLZ e) (fun e=>sbk HLZ e) j u h) (DRi.keep h15 (by decide) (HB6.out))
  ·
   have h15:=ntr hI.tr ho [13] 15 rfl rfl
   have hb6:Below Y.heap.size Y y:=hI.d.1 h15
   have gf8:GRi xb Y.heap.size aZ l2.length cZ k aH cH (.slice aT (l2.length - k) cT) (newG t p) (l2.take k) (l2.drop k) listed y 8 (x.tmps.getD 148 undef):=hI.good 8 (by omega) (wO hi)
   have gf12:GRi xb Y.heap.size aZ l2.length cZ k aH cH (.slice aT (l2.length - k) cT) (newG t p) (l2.take k) (l2.drop k) listed y 12 (x.tmps.getD 152 undef):=hI.good 12 (by omega) (wO hi)
   have h13n:listed.getD 13 false=false:=noT (fun h=>openT ho h)
   have h8y:=waits_of hi (i:=13) (j:=8) (by rfl)
   have h5y:=hI.tr 8 5 (by rfl) h8y
   have o1:=gf8 h13n
   have e2:x.tmps.getD 152 undef=.slice aT (l2.length - k) cT:=gf12
   have HB6:=hidP hb6
   clear hb6
   clear hi hI ho
   refine op9 fun K hK=>?_
   refine appRstG Y.heap.size (.tmp 148) (.tmp 152) rfl (l2.take k++[newG t p]) (l2.drop k) _ _ rfl o1 HB6.out.size e2 (HRT.out.keep HB6.out) (by rw [List.length_append,List.length_take,List.length_drop]; simp only [List.length_cons,List.length_nil]; omega) ?_
   intro s' w' o2 hg hat
   exact HJ.out.pu hK HI.out (fun _=>o2) (fun j u _ _ hne _ h=>GRi.dead13 (by rw [setT_ne (by decide)]; exact h5y) (by rw [setT_ne (by decide)]; exact h8y) (setT_same (by rw [HLZ.out]; omega)) j u hne h) (DRi.keep h15 (by decide) (Below.grown HB6.out hg HB6.out.size (fun g hgg=>((og_sl o1).lt g hgg).1)))
  ·
   have h15:=ntr hI.tr ho [14] 15 rfl rfl
   have hb6:Below Y.heap.size Y y:=hI.d.1 h15
   have e1:x.tmps[2]?.getD undef=.pointer (some ⟨xb,0,none⟩):=ev_tmp (hI.out 2 (fun i hi=>slRi_far 2 (by omega) (by omega) i hi))
   have HB6:=hidP hb6
   clear hb6
   clear hi hI ho
   refine op9 fun K hK=>?_
   go_simp
   exact HJ.out.pu hK HI.out (rfl) (fun j u _ _ _ _ h=>GRi.keep bR (fun e=>sbk HLZ e) (fun e=>sbk HLZ e) (fun e=>sbk HLZ e) (fun e=>sbk HLZ e) j u h) (DRi.keep h15 (by decide) (HB6.out))
  have h15:listed.getD 15 false=false:=noT (fun h=>openT ho h)
  have hb6:Below Y.heap.size Y y:=hI.d.1 h15
  have gf13:GRi xb Y.heap.size aZ l2.length cZ k aH cH (.slice aT (l2.length - k) cT) (newG t p) (l2.take k) (l2.drop k) listed y 13 (x.tmps.getD 153 undef):=hI.good 13 (by omega) (wO hi)
  have gf14:GRi xb Y.heap.size aZ l2.length cZ k aH cH (.slice aT (l2.length - k) cT) (newG t p) (l2.take k) (l2.drop k) listed y 14 (x.tmps.getD 154 undef):=hI.good 14 (by omega) (wO hi)
  have e2:x.tmps[154]?.getD undef=.pointer (some ⟨xb,1,none⟩):=ev_tmp gf14
  have o1:OG Y.heap.size (l2.take k++[newG t p]++l2.drop k) y (x.tmps.getD 153 undef):=gf13 h15
  have h13y:=waits_of hi (i:=15) (j:=13) (by rfl)
  have h8y:=hI.tr 13 8 (by rfl) h13y
  have h5y:=hI.tr 8 5 (by rfl) h8y
  obtain ⟨a9,c9,hv⟩:=o1.shape
  rw [hv] at o1
  have e1:x.tmps[153]?.getD undef=.slice a9 (l2.take k++[newG t p]++l2.drop k).length c9:=ev_tmp hv
  have k1:y.cell? ⟨xb,1,none⟩=some (.slice aZ l2.length cZ):=KXY.out y hb6
  have f1:=FXY.out y hb6
  have O1:=hidP o1
  obtain ⟨n9,hn9⟩:∃ n9,n9=(l2.take k++[newG t p]++l2.drop k).length:=⟨_,rfl⟩
  rw [← hn9] at e1 O1
  have HN9:=hidP hn9
  clear hv o1 gf13 hn9
  have HB6:=hidP hb6
  clear hb6
  clear hi hI ho
  refine op9 fun K hK=>?_
  go_simp
  exact hK.out _ _ (HJ.out.nil HI.out (by omega) (fun _=>trivial) (fun j u _ _ _ _ h=>GRi.toset (by rw [setT_ne (by decide)]; exact h5y) (by rw [setT_ne (by decide)]; exact h8y) (by rw [setT_ne (by decide)]; exact h13y) (setT_same (by rw [HLZ.out]; omega)) j u h) (⟨(fun e=>by rw [setT_same (by rw [HLZ.out]; omega)] at e; cases e),fun _=>⟨y,a9,c9,by rw [HN9.out],HB6.out,by rw [← HN9.out]; exact O1.out⟩⟩) undef)
end Go.Proofs.YtcjhlhijdacinaaGreatDoor
