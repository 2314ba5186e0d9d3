import Derived.Test.YtcjhlhijdacinaaGreatDoorJ43
import Derived.Test.YtcjhlhijdacinaaGreatDoorJ40
import Derived.Test.YtcjhlhijdacinaaGreatDoorJ38
namespace Go.Proofs.YtcjhlhijdacinaaGreatDoor
open Go.RowKit Go.Maps Go.WideMaps
set_option linter.unusedVariables false
theorem gvg_sl {w:World} {a:Option Addr} {n c B:Nat} {gs:List G.GrantD} (h:G.Sl w (.slice a n c) gs B):G.GvG w a gs:=by
 rcases h with ⟨h1,h2⟩ | ⟨g,cap,h1,h2,h3,h4,h5⟩
 · exact Or.inl h2
 injection h1 with e1 e2 e3
 exact Or.inr ⟨g,e1,h3,h4⟩
theorem tko_zero {y z:World} {B B' rb ob:Nat} {gs:List G.GrantD} {qs:List P.PlaceD} {s1 s2:Value} (h:LdO y B gs qs s1 s2) (ho:Off (fun j=>j=rb) y z) (h1:ob+1≤B) (h2:rb < ob) (h3:B'≤ob) (h4:ob < z.heap.size):TkO z B' gs qs [] s1 s2 (.slice (some ⟨ob,0,none⟩) 0 0):=by
 refine ⟨(h.off ho (fun g hg e=>?_)).low (by omega),pco_empty h3 h4, ?_⟩
 ·
  have:=(h.lt g hg).1
  omega
 rintro g hg (e | ⟨j,q,hq,-⟩)
 ·
  have h9:=(h.lt g hg).1
  have e':ob=g:=Option.some.inj e
  omega
 simp at hq
theorem own_ex {w z:World} {B b n size:Nat} {e:TypeId} {v:Value} {xs:List Value} (h:w.ownsRow B e size v n xs) (hx:Ex b w z) (hb:b < B):z.ownsRow B e size v n xs:=by
 obtain ⟨h1,h2 | ⟨g,cap,cur,hv,hg,hc,h3,h4,h5⟩⟩:=h
 · exact ⟨h1,Or.inl h2⟩
 exact ⟨h1,Or.inr ⟨g,cap,cur,hv,hg,(hx.block g (Array.getElem?_eq_some_iff.1 hc).1 (by omega)).trans hc,h3,h4,h5⟩⟩
def slRb:Nat→Nat
 | 0=>97
 | 1=>98
 | 2=>99
 | 3=>100
 | 4=>101
 | 5=>102
 | 6=>103
 | 7=>104
 | 8=>105
 | 9=>106
 | 10=>107
 | 11=>108
 | 12=>109
 | 13=>100013
 | _=>0
theorem slRb_inj (i:Nat) (hi:i < 14):∀ j,j < 14→slRb j=slRb i→j=i:=by
 have h:∀ a:_root_.Fin 14,∀ b:_root_.Fin 14,slRb b.1=slRb a.1→b.1=a.1:=by decide +kernel
 intro j hj e
 exact h ⟨i,hi⟩ ⟨j,hj⟩ e
theorem slRb_far:∀ j,j < 100000→(j < 97∨97+13≤j)→∀ i,i < 14→slRb i≠j:=by
 intro j h1 h2 i hi
 have h:∀ a:_root_.Fin 14,97≤slRb a.1∧(slRb a.1 < 97+13∨100000≤slRb a.1):=by decide +kernel
 have:=h ⟨i,hi⟩
 dsimp only at this
 omega
def GRb (xb Z:Nat) (a:Option Addr) (n c k:Nat) (aH:Option Addr) (cH:Nat) (vT:Value) (lk lt:List G.GrantD) (L:Array Bool) (w:World):Nat→Value→Prop
 | 0,v=>L.getD 5 false=false→∃ g0,v=.slice (some ⟨g0,0,none⟩) 0 0∧OG Z [] w v
 | 1,v=>v=.pointer (some ⟨xb,1,none⟩)
 | 2,v=>v=.slice a n c
 | 3,v=>v=.int .i64 (k:Int)
 | 4,v=>v=.slice aH k cH
 | 5,v=>L.getD 11 false=false→OG Z lk w v
 | 6,v=>v=.pointer (some ⟨xb,1,none⟩)
 | 7,v=>v=.slice a n c
 | 8,v=>v=.int .i64 (k:Int)
 | 9,v=>v=.int .i64 ((k:Int)+1)
 | 10,v=>v=vT
 | 11,v=>L.getD 13 false=false→OG Z (lk++lt) w v
 | 12,v=>v=.pointer (some ⟨xb,1,none⟩)
 | 13,v=>True
 | _,_=>True
theorem GRb.keep {xb Z:Nat} {a:Option Addr} {n c k:Nat} {aH:Option Addr} {cH:Nat} {vT:Value} {lk lt:List G.GrantD} {L L':Array Bool} {w w':World} (hb:Below w.heap.size w w') (h5:L'.getD 5 false=false→L.getD 5 false=false) (h11:L'.getD 11 false=false→L.getD 11 false=false) (h13:L'.getD 13 false=false→L.getD 13 false=false):∀ j v,GRb xb Z a n c k aH cH vT lk lt L w j v→GRb xb Z a n c k aH cH vT lk lt L' w' j v
 | 0,_,h=>fun e=>by
  obtain ⟨g0,h1,h2⟩:=h (h5 e)
  exact ⟨g0,h1,h2.keep hb⟩
 | 1,_,h=>h
 | 2,_,h=>h
 | 3,_,h=>h
 | 4,_,h=>h
 | 5,_,h=>fun e=>(h (h11 e)).keep hb
 | 6,_,h=>h
 | 7,_,h=>h
 | 8,_,h=>h
 | 9,_,h=>h
 | 10,_,h=>h
 | 11,_,h=>fun e=>(h (h13 e)).keep hb
 | 12,_,h=>h
 | 13,_,h=>h
 | _+14,_,h=>h
theorem GRb.dead {xb Z:Nat} {a:Option Addr} {n c k:Nat} {aH:Option Addr} {cH:Nat} {vT:Value} {lk lt:List G.GrantD} {L L':Array Bool} {w w':World} (e5:L'.getD 5 false=true) (e11:L'.getD 11 false=true):∀ j v,j≠11→GRb xb Z a n c k aH cH vT lk lt L w j v→GRb xb Z a n c k aH cH vT lk lt L' w' j v
 | 0,_,h11,h=>fun e=>by rw [e5] at e; cases e
 | 1,_,h11,h=>h
 | 2,_,h11,h=>h
 | 3,_,h11,h=>h
 | 4,_,h11,h=>h
 | 5,_,h11,h=>fun e=>by rw [e11] at e; cases e
 | 6,_,h11,h=>h
 | 7,_,h11,h=>h
 | 8,_,h11,h=>h
 | 9,_,h11,h=>h
 | 10,_,h11,h=>h
 | 11,_,h11,h=>(h11 rfl).elim
 | 12,_,h11,h=>h
 | 13,_,h11,h=>h
 | _+14,_,h11,h=>h
theorem GRb.toset {xb Z:Nat} {a:Option Addr} {n c k:Nat} {aH:Option Addr} {cH:Nat} {vT:Value} {lk lt:List G.GrantD} {L L':Array Bool} {w w':World} (e5:L'.getD 5 false=true) (e11:L'.getD 11 false=true) (e13:L'.getD 13 false=true):∀ j v,GRb xb Z a n c k aH cH vT lk lt L w j v→GRb xb Z a n c k aH cH vT lk lt L' w' j v
 | 0,_,h=>fun e=>by rw [e5] at e; cases e
 | 1,_,h=>h
 | 2,_,h=>h
 | 3,_,h=>h
 | 4,_,h=>h
 | 5,_,h=>fun e=>by rw [e11] at e; cases e
 | 6,_,h=>h
 | 7,_,h=>h
 | 8,_,h=>h
 | 9,_,h=>h
 | 10,_,h=>h
 | 11,_,h=>fun e=>by rw [e13] at e; cases e
 | 12,_,h=>h
 | 13,_,h=>h
 | _+14,_,h=>h
def DRb (xb Z:Nat) (Y:World) (m:List G.GrantD) (L:Array Bool) (w:World):Prop:=(L.getD 13 false=false→Below Z Y w)∧(L.getD 13 false=true→∃ (y0:World) (a9:Option Addr) (c9:Nat),w=y0.setCell ⟨xb,1,none⟩ (.slice a9 m.length c9)∧Below Z Y y0∧OG Z m y0 (.slice a9 m.length c9))
theorem DRb.keep {xb Z:Nat} {Y:World} {m:List G.GrantD} {L:Array Bool} {w':World} {i:Nat} (h:L.getD 13 false=false) (hi:13≠i) (hb:Below Z Y w'):DRb xb Z Y m (L.setIfInBounds i true) w':=⟨fun _=>hb,fun e=>by rw [setT_ne hi,h] at e; cases e⟩
def slGv:Nat→Nat
 | 0=>54
 | 1=>55
 | 2=>56
 | 3=>57
 | 4=>58
 | 5=>59
 | 6=>60
 | 7=>61
 | 8=>62
 | 9=>63
 | 10=>64
 | 11=>65
 | 12=>66
 | 13=>100013
 | 14=>5
 | _=>0
theorem slGv_inj (i:Nat) (hi:i < 15):∀ j,j < 15→slGv j=slGv i→j=i:=by
 have h:∀ a:_root_.Fin 15,∀ b:_root_.Fin 15,slGv b.1=slGv a.1→b.1=a.1:=by decide +kernel
 intro j hj e
 exact h ⟨i,hi⟩ ⟨j,hj⟩ e
theorem slGv_far:∀ j,j < 100000→j≠5→(j < 54∨54+13≤j)→∀ i,i < 15→slGv i≠j:=by
 intro j h1 h3 h2 i hi
 match i,hi with
 | 0,_=>show 54≠j; omega
 | 1,_=>show 55≠j; omega
 | 2,_=>show 56≠j; omega
 | 3,_=>show 57≠j; omega
 | 4,_=>show 58≠j; omega
 | 5,_=>show 59≠j; omega
 | 6,_=>show 60≠j; omega
 | 7,_=>show 61≠j; omega
 | 8,_=>show 62≠j; omega
 | 9,_=>show 63≠j; omega
 | 10,_=>show 64≠j; omega
 | 11,_=>show 65≠j; omega
 | 12,_=>show 66≠j; omega
 | 13,_=>show 100013≠j; omega
 | 14,_=>show 5≠j; omega
 | m+15,h=>exact absurd h (by omega)
def GGv (bx zb Z:Nat) (t:Int) (a9:Option Addr) (n9 c9:Nat) (a2:Option Addr) (n2 p2:Nat) (p:TakeP) (L:Array Bool) (w:World):Nat→Value→Prop
 | 0,v=>v=.agg #[.int .i64 t,.slice a9 n9 c9,.slice a2 n2 p2]
 | 1,v=>v=.slice (some ⟨bx+3,0,none⟩) 0 0
 | 2,v=>v=.pointer (some ⟨bx+1,1,none⟩)
 | 3,v=>v=.string p.b
 | 4,v=>v=.pointer (some ⟨bx+1,4,none⟩)
 | 5,v=>v=.string p.h
 | 6,v=>v=.pointer (some ⟨bx+1,5,none⟩)
 | 7,v=>v=.string p.c
 | 8,v=>v=.pointer (some ⟨bx+1,6,none⟩)
 | 9,v=>v=.int .i64 p.t
 | 10,v=>v=.agg #[.int .i64 3,.string p.b,.int .i64 0,.slice none 0 0,.string p.h,.string p.c,.int .i64 p.t]
 | 11,v=>L.getD 12 false=false→∃ g,v=.slice (some ⟨g,0,none⟩) 1 1∧g < w.heap.size∧w.heap[g]?=some (.cells (arrS (3,p.b,0,[],p.h,p.c,p.t)) 29 (0,0))
 | 12,v=>w.ownsRow (bx+3) 29 7 v 1 (arrS (3,p.b,0,[],p.h,p.c,p.t)).toList∧(v.ownBlock=some (bx+3)∨∃ g,v.ownBlock=some g∧Z≤g)
 | 13,v=>True
 | 14,v=>w.ownsRow (bx+3) 29 7 v 1 (arrS (3,p.b,0,[],p.h,p.c,p.t)).toList∧(v.ownBlock=some (bx+3)∨∃ g,v.ownBlock=some g∧Z≤g)
 | _,_=>True
theorem GGv.keep {bx zb Z:Nat} {t:Int} {a9:Option Addr} {n9 c9:Nat} {a2:Option Addr} {n2 p2:Nat} {p:TakeP} {L L':Array Bool} {w w':World} (hb:Below w.heap.size w w') (h12:L'.getD 12 false=false→L.getD 12 false=false):∀ j v,GGv bx zb Z t a9 n9 c9 a2 n2 p2 p L w j v→GGv bx zb Z t a9 n9 c9 a2 n2 p2 p L' w' j v
 | 0,_,h=>h
 | 1,_,h=>h
 | 2,_,h=>h
 | 3,_,h=>h
 | 4,_,h=>h
 | 5,_,h=>h
 | 6,_,h=>h
 | 7,_,h=>h
 | 8,_,h=>h
 | 9,_,h=>h
 | 10,_,h=>h
 | 11,_,h=>fun e=>by
  obtain ⟨g,h1,h2,h3⟩:=h (h12 e)
  exact ⟨g,h1,Nat.lt_of_lt_of_le h2 hb.size,(hb.block g h2).trans h3⟩
 | 12,_,h=>⟨G.owns_below h.1 hb,h.2⟩
 | 13,_,h=>h
 | 14,_,h=>⟨G.owns_below h.1 hb,h.2⟩
 | _+15,_,h=>h
theorem GGv.dead {bx zb Z:Nat} {t:Int} {a9:Option Addr} {n9 c9:Nat} {a2:Option Addr} {n2 p2:Nat} {p:TakeP} {L L':Array Bool} {w w':World} (e12:L'.getD 12 false=true):∀ j v,j≠12→j≠14→GGv bx zb Z t a9 n9 c9 a2 n2 p2 p L w j v→GGv bx zb Z t a9 n9 c9 a2 n2 p2 p L' w' j v
 | 0,_,h12,h14,h=>h
 | 1,_,h12,h14,h=>h
 | 2,_,h12,h14,h=>h
 | 3,_,h12,h14,h=>h
 | 4,_,h12,h14,h=>h
 | 5,_,h12,h14,h=>h
 | 6,_,h12,h14,h=>h
 | 7,_,h12,h14,h=>h
 | 8,_,h12,h14,h=>h
 | 9,_,h12,h14,h=>h
 | 10,_,h12,h14,h=>h
 | 11,_,h12,h14,h=>fun e=>by rw [e12] at e; cases e
 | 12,_,h12,h14,h=>(h12 rfl).elim
 | 13,_,h12,h14,h=>h
 | 14,_,h12,h14,h=>(h14 rfl).elim
 | _+15,_,h12,h14,h=>h
theorem GGv.stored {bx zb Z:Nat} {t:Int} {a9:Option Addr} {n9 c9:Nat} {a2:Option Addr} {n2 p2:Nat} {p:TakeP} {L L':Array Bool} {w w':World} (hx:Ex (bx+2) w w') (hz:bx+3≤Z) (e12:L'.getD 12 false=true):∀ j v,j≠14→GGv bx zb Z t a9 n9 c9 a2 n2 p2 p L w j v→GGv bx zb Z t a9 n9 c9 a2 n2 p2 p L' w' j v
 | 0,_,h14,h=>h
 | 1,_,h14,h=>h
 | 2,_,h14,h=>h
 | 3,_,h14,h=>h
 | 4,_,h14,h=>h
 | 5,_,h14,h=>h
 | 6,_,h14,h=>h
 | 7,_,h14,h=>h
 | 8,_,h14,h=>h
 | 9,_,h14,h=>h
 | 10,_,h14,h=>h
 | 11,_,h14,h=>fun e=>by rw [e12] at e; cases e
 | 12,_,h14,h=>⟨own_ex h.1 hx (by omega),h.2⟩
 | 13,_,h14,h=>h
 | 14,_,h14,h=>(h14 rfl).elim
 | _+15,_,h14,h=>h
def DGv (bx:Nat) (Y:World) (t:Int) (a9:Option Addr) (n9 c9:Nat) (a2:Option Addr) (n2 p2:Nat) (L:Array Bool) (w:World):Prop:=(L.getD 12 false=false→Below Y.heap.size Y w)∧(L.getD 13 false=false→Off (fun j=>j=bx+3) Y w)∧(L.getD 13 false=true→Off (fun j=>j=bx+3∨j=bx+2) Y w∧w.rangeAt (bx+2) 0 [.int .i64 t,.slice a9 n9 c9,.slice a2 n2 p2])
theorem DGv.keep {bx:Nat} {Y:World} {t:Int} {a9:Option Addr} {n9 c9:Nat} {a2:Option Addr} {n2 p2:Nat} {L:Array Bool} {w:World} {i:Nat} (h:DGv bx Y t a9 n9 c9 a2 n2 p2 L w) (h1:12≠i) (h2:13≠i):DGv bx Y t a9 n9 c9 a2 n2 p2 (L.setIfInBounds i true) w:=by
 unfold DGv
 rw [setT_ne h1,setT_ne h2]
 exact h
theorem DGv.grow {bx:Nat} {Y:World} {t:Int} {a9:Option Addr} {n9 c9:Nat} {a2:Option Addr} {n2 p2:Nat} {L:Array Bool} {w w':World} {i:Nat} (h:DGv bx Y t a9 n9 c9 a2 n2 p2 L w) (h1:12≠i) (h2:13≠i) (h13:L.getD 13 false=false) (h12:L.getD 12 false=false) (hb:Below w.heap.size w w'):DGv bx Y t a9 n9 c9 a2 n2 p2 (L.setIfInBounds i true) w':=by
 unfold DGv
 rw [setT_ne h1,setT_ne h2]
 exact ⟨fun e=>bl_trans (h.1 e) hb,fun e=>(h.2.1 e).trans (Off.of_below hb),fun e=>by rw [h13] at e; cases e⟩
theorem Off.both {a b:Nat} {x y z:World} (h:Off (fun j=>j=a) x y) (hx:Ex b y z):Off (fun j=>j=a∨j=b) x z :=
 ⟨hx.os.trans h.os,hx.tape.trans h.tape,hx.output.trans h.output,Nat.le_trans h.size hx.size,fun i hi hn=>(hx.block i (Nat.lt_of_lt_of_le hi h.size) (fun e=>hn (Or.inr e))).trans (h.block i hi (fun e=>hn (Or.inl e)))⟩
theorem ldo_landy {w:World} {B:Nat} {gs:List G.GrantD} {qs:List P.PlaceD} {a1 a2:Option Addr} {c1 c2 n1 n2:Nat} (hL:LdO w B gs qs (.slice a1 n1 c1) (.slice a2 n2 c2)):P.LandX w gs qs a1 a2:=by
 refine ⟨gvg_sl hL.g, ?_,fun r hr=>?_⟩
 ·
  rcases hL.p.o with ⟨h1,h2⟩ | ⟨g,cap,h1,h2,h3,h4,h5⟩
  · exact Or.inl (List.map_eq_nil_iff.1 h2)
  injection h1 with e1 e2 e3
  refine Or.inr ⟨g,e1,h3,fun k r hr=>?_⟩
  exact h4 k (Pr.raw r) (by rw [List.getElem?_map,hr]; rfl)
 obtain ⟨j,hj⟩:=List.getElem?_of_mem hr
 exact (hL.p.k j r hj).src
theorem lns_like2 {qs ps:List P.PlaceD} (h:P.Like qs ps) (hl:P.Lns ps):∀ q∈qs,q.ws.length≤1048576:=by
 intro q hq
 obtain ⟨k,hk⟩:=List.getElem?_of_mem hq
 obtain ⟨r,hr,-,-,e⟩:=h.get hk
 rw [e]
 exact hl r (List.mem_of_getElem? hr)
theorem pco_own {w:World} {B:Nat} {v:Value} {x:SaysC} (h:w.ownsRow B 29 7 v 1 (arrS x).toList):PcO w B [pcOf x] v:=by
 refine ⟨Pc.Sl.of_owns (l:=[Pc.raw (pcOf x)]) ?_,fun j q hq=>?_,fun j q g hq hg=>?_,fun i j q r g hij hq hr=>?_⟩
 ·
  have e:Pc.flatR [Pc.raw (pcOf x)]=(arrS x).toList:=by simp [Pc.flatR,Pc.raw,pcOf,arrS,Pc.PcRaw.cells]
  rw [e]
  exact h
 ·
  cases j with
  | zero=>cases hq; exact Or.inl ⟨rfl,rfl⟩
  | succ j=>simp at hq
 ·
  cases j with
  | zero=>cases hq; cases hg
  | succ j=>simp at hq
 cases j with
 | zero=>omega
 | succ j=>simp at hr
theorem tko_parcel2 {y z:World} {B B' ob rb:Nat} {l:List G.GrantD} {qs:List P.PlaceD} {s1 s2 v:Value} {x:SaysC} (h:LdO y B l qs s1 s2) (hoff:Off (fun j=>j=ob∨j=rb) y z) (ho:z.ownsRow ob 29 7 v 1 (arrS x).toList) (hat:v.ownBlock=some ob∨∃ g,v.ownBlock=some g∧y.heap.size≤g) (hx0:x.2.2.2.1=[]) (h1:ob < B∧rb < B) (h3:B'≤ob):TkO z B' l qs [pcOf x] s1 s2 v:=by
 refine ⟨(h.off hoff (fun g hg e=>?_)).low (by omega),(pco_own ho).low h3, ?_⟩
 ·
  have:=(h.lt g hg).1
  rcases e with e | e <;> omega
 rintro g hg (e | ⟨j,q,hq,e⟩)
 ·
  have h9:=h.lt g hg
  rcases hat with h8 | ⟨g',h8,h7⟩
  ·
   rw [h8] at e
   have:=Option.some.inj e
   omega
  rw [h8] at e
  have:=Option.some.inj e
  omega
 cases j with
 | zero=>cases hq; cases e
 | succ j=>simp at hq
theorem tko_parcel {y y1 y2 z:World} {B B' ob rb:Nat} {l:List G.GrantD} {qs:List P.PlaceD} {s1 s2 v:Value} {x:SaysC} (h:LdO y B l qs s1 s2) (hb:Below y.heap.size y y1) (hg:y1.grownBy y2 (some ob)) (hx:Ex rb y2 z) (ho:y2.ownsRow ob 29 7 v 1 (arrS x).toList) (hat:v.ownBlock=some ob∨v.ownBlock=some y1.heap.size) (hx0:x.2.2.2.1=[]) (h1:ob < B) (h2:rb < ob) (h3:B'≤ob):TkO z B' l qs [pcOf x] s1 s2 v :=
 tko_parcel2 (h.keep hb) (Off.both (Off.of_grown hg (fun j hj=>(Option.some.inj hj).symm)) hx) (own_ex ho hx h2) (hat.imp id (fun h8=>⟨_,h8,Nat.le_refl _⟩)) hx0 ⟨h1,by omega⟩ h3
theorem ldo_regrant {x y:World} {B Z:Nat} {gs m:List G.GrantD} {qs:List P.PlaceD} {s1 s2 s9:Value} (h:LdO x B gs qs s1 s2) (hb:Below x.heap.size x y) (ho:OG Z m y s9) (hZ:x.heap.size≤Z) (hB:B≤Z):LdO y B m qs s9 s2:=by
 refine ⟨(og_sl ho).low hB,h.p.keep hb,fun g hg hp=>?_⟩
 have h1:=((og_sl ho).lt g hg).1
 have h2:=(h.p.lt g hp).2
 omega
theorem own_shape1 {w:World} {B:Nat} {v:Value} {xs:List Value} (h:w.ownsRow B 29 7 v 1 xs):∃ a c,v=.slice a 1 c:=by
 obtain ⟨-,⟨rfl,h⟩ | ⟨g,cap,cur,rfl,-⟩⟩:=h
 · cases h
 exact ⟨_,_,rfl⟩
theorem appPc {o:Oper} {a:Act} {Y:World} {K:Act→World→Prop} {Q:Exit→Act→World→Prop} (s x:Operand)
  (ho:o.op=.call { callee:=.builtin .append,args:=#[s,x],argTypes:=#[32,32] }) (B ob:Nat) (c:SaysC) (g:Nat)
  (hs:a.eval s=.slice (some ⟨ob,0,none⟩) 0 0) (hown:Y.ownsRow B 29 7 (.slice (some ⟨ob,0,none⟩) 0 0) 0 []) (hB:B≤Y.heap.size) (hx:a.eval x=.slice (some ⟨g,0,none⟩) 1 1) (hc:Y.heap[g]?=some (.cells (arrS c) 29 (0,0)))
  (h:∀ (s':Value) (w':World),w'.ownsRow B 29 7 s' 1 (arrS c).toList→Y.grownBy w' (some ob)→(s'.ownBlock=some ob∨s'.ownBlock=some Y.heap.size)→K (a.put o.dst s') w'):o.wp Tryz.prog a Y K Q:=by
 obtain ⟨i0,hi,hz0,hz1,hz2⟩:=info_parts Pc.infoR
 refine wp_append_own_atP s x 32 ho B 29 i0 _ 7 96 Tryz.underlying32 hi hz0 hz1 hz2 rfl (by decide) _ 0 [] hs hown ⟨g,0,none⟩ 1 1 (arrS c).toList hx rfl (fun j u hj=>blk_cells hc j u hj) (Pc.cellsR_one ⟨c.1,c.2.1,c.2.2.1,none,0,0,c.2.2.2.2.1,c.2.2.2.2.2.1,c.2.2.2.2.2.2⟩) (by unfold maxLen; omega) (by omega) hB ?_
 intro s' w' ho' hg' hat
 exact h s' w' ho' hg' hat
theorem wpList_appPc {ops:Array Oper} {rest:List Oper} {o:Oper} {a:Act} {Y:World} {Q:Exit→Act→World→Prop} (hgd:o.guard=none) (s x:Operand)
  (ho:o.op=.call { callee:=.builtin .append,args:=#[s,x],argTypes:=#[32,32] }) (B ob:Nat) (c:SaysC) (g:Nat)
  (hs:a.eval s=.slice (some ⟨ob,0,none⟩) 0 0) (hown:Y.ownsRow B 29 7 (.slice (some ⟨ob,0,none⟩) 0 0) 0 []) (hB:B≤Y.heap.size) (hx:a.eval x=.slice (some ⟨g,0,none⟩) 1 1) (hc:Y.heap[g]?=some (.cells (arrS c) 29 (0,0)))
  (h:∀ (s':Value) (w':World),w'.ownsRow B 29 7 s' 1 (arrS c).toList→Y.grownBy w' (some ob)→(s'.ownBlock=some ob∨s'.ownBlock=some Y.heap.size)→wpList Tryz.prog ops Q rest (a.put o.dst s') w'):wpList Tryz.prog ops Q (o :: rest) a Y :=
 wpList_plain hgd fun K hK=>appPc s x ho B ob c g hs hown hB hx hc (fun s' w' o2 hg hat=>hK _ _ (h s' w' o2 hg hat))
end Go.Proofs.YtcjhlhijdacinaaGreatDoor
