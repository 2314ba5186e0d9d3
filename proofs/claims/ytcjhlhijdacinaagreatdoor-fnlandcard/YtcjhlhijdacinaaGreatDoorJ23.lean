import Derived.Test.YtcjhlhijdacinaaGreatDoorJ22
import Derived.Laws.AppendOwnNone
import Derived.Test.YtcjhlhijdacinaaGreatDoorJ10
import Derived.Test.YtcjhlhijdacinaaGreatDoorJ17
import Derived.StillTactics
namespace Go.Proofs.YtcjhlhijdacinaaGreatDoor
open Go.RowKit
set_option linter.unusedVariables false
theorem infoPl:(Tryz.prog.info? 54).map (fun i=>(i.zero,i.size,i.bytes))=some (some (.agg #[.string ⟨#[]⟩,.int .i64 0,.slice none 0 0]),3,48):=Pr.infoR
theorem appRst {o:Oper} {a:Act} {Y:World} {K:Act→World→Prop} {Q:Exit→Act→World→Prop} (B:Nat) (s x:Operand)
  (ho:o.op=.call { callee:=.builtin .append,args:=#[s,x],argTypes:=#[24,24] }) (l m:List Pr.PlRaw) (v vx:Value)
  (hs:a.eval s=v) (hown:OQ B l Y v) (hB:B≤Y.heap.size) (hx:a.eval x=vx) (hr:Rst Y vx m) (hl:l.length+m.length≤1048576)
  (h:∀ (s':Value) (w':World),OQ B (l++m) w' s'→Y.grownBy w' v.ownBlock→(s'.ownBlock=v.ownBlock∨s'.ownBlock=some Y.heap.size)→K (a.put o.dst s') w'):o.wp Tryz.prog a Y K Q:=by
 obtain ⟨i0,hi,hz0,hz1,hz2⟩:=info_parts infoPl
 obtain ⟨ax,c,rfl,hr⟩:=hr
 rcases hr with ⟨rfl,rfl,rfl⟩ | ⟨g,off,rfl,hg,hc⟩
 ·
  have hrun:=run_append_owned_none (P:=Tryz.prog) (w:=Y) B 24 o.type 54 i0 3 Tryz.underlying24 hi v l.length _ hown
  have hx':a.eval x=.slice none 0 0:=hx
  unfold Oper.wp
  simp [execOp,ho,resolve,invoke,builtin,hs,hx',hrun,Result.andThen]
  exact h v Y (by simpa using hown) ⟨rfl,rfl,rfl,Nat.le_refl _,fun _ _ _=>rfl⟩ (Or.inl rfl)
 ·
  refine wp_append_own_atP s x 24 ho B 54 i0 _ 3 48 Tryz.underlying24 hi hz0 hz1 hz2 rfl (by decide) v l.length _ hs hown ⟨g,off,none⟩ m.length c (Pr.flatR m) hx (Pr.flatR_len _) (fun j u hj=>by rw [addr_add]; exact hc j u hj) (Pr.flatR_one _) (by unfold maxLen; omega) (by omega) hB ?_
  intro s' w' ho' hg' hat
  refine h s' w' ?_ hg' hat
  unfold OQ
  rw [List.length_append,flat_app]
  exact ho'
theorem copyRst {o:Oper} {a:Act} {Y:World} {K:Act→World→Prop} {Q:Exit→Act→World→Prop} (B:Nat) (s x:Operand)
  (ho:o.op=.call { callee:=.builtin .append,args:=#[s,x],argTypes:=#[24,24] }) (m:List Pr.PlRaw) (g0:Nat) (vx:Value)
  (hs:a.eval s=.slice (some ⟨g0,0,none⟩) 0 0) (hown:OQ B [] Y (.slice (some ⟨g0,0,none⟩) 0 0)) (hB:B≤Y.heap.size) (hx:a.eval x=vx) (hr:Rst Y vx m) (hl:m.length≤1048576)
  (h:∀ (s':Value) (w':World),OQ B m w' s'→Below Y.heap.size Y w'→K (a.put o.dst s') w'):o.wp Tryz.prog a Y K Q:=by
 obtain ⟨i0,hi,hz0,hz1,hz2⟩:=info_parts infoPl
 obtain ⟨ax,c,rfl,hr⟩:=hr
 rcases hr with ⟨rfl,rfl,rfl⟩ | ⟨g,off,rfl,hg,hc⟩
 ·
  have hrun:=run_append_owned_none (P:=Tryz.prog) (w:=Y) B 24 o.type 54 i0 3 Tryz.underlying24 hi _ 0 _ hown
  have hx':a.eval x=.slice none 0 0:=hx
  unfold Oper.wp
  simp [execOp,ho,resolve,invoke,builtin,hs,hx',hrun,Result.andThen]
  exact h _ Y hown bR
 ·
  by_cases hm:m.length=0
  ·
   have hn:m=[]:=List.eq_nil_of_length_eq_zero hm
   subst hn
   have hrr:=run_append_room_cells (P:=Tryz.prog) Y 24 o.type 54 i0 Tryz.underlying24 hi g0 0 0 0 ⟨g,off,none⟩ 0 c [] (by simp) (fun j u hj=>by simp at hj) (fun u hu=>by cases hu) (Nat.le_refl _) (fun j hj=>by simp at hj) (fun j hj=>by simp at hj)
   have hx':a.eval x=.slice (some ⟨g,off,none⟩) 0 c:=hx
   unfold Oper.wp execOp
   simp only [ho,resolve,invoke,builtin,Sem.run_bind,Sem.run_pure,Result.andThen_ok,List.map_toArray,List.map_cons,List.map_nil,hs,hx',hrr]
   exact h _ _ hown bR
  obtain ⟨v',w',hrr,h2,h3⟩:=run_append_arg_grows (P:=Tryz.prog) Y 24 o.type 54 i0 _ 3 48 Tryz.underlying24 hi hz0 hz1 hz2 rfl (by decide) ⟨g0,0,none⟩ 0 0 [] (by simp) (fun j u hj=>by simp at hj) ⟨g,off,none⟩ m.length c (Pr.flatR m) (Pr.flatR_len _) (fun j u hj=>by rw [addr_add]; exact hc j u hj) (by omega) (by unfold maxLen; omega) (by omega)
  unfold Oper.wp execOp
  simp only [ho,resolve,invoke,builtin,Sem.run_bind,Sem.run_pure,Result.andThen_ok,List.map_toArray,List.map_cons,List.map_nil,hs,hx,hrr]
  exact h v' w' (owns_low (by simpa [OQ] using h2) hB) (Below.grown bR h3 (Nat.le_refl _) (fun j hj=>by cases hj))
theorem bld0P (w:World):Sem.run Tryz.prog (Instr.buildSlice 24 0 #[]) w=.ok (.slice (some ⟨w.heap.size,0,none⟩) 0 0) (w.alloc (.cells #[] 54)):=by kernel_rfl
def sl14:Nat→Nat
 | 0=>73
 | 1=>74
 | 2=>75
 | 3=>76
 | 4=>77
 | 5=>78
 | 6=>79
 | 7=>80
 | 8=>81
 | 9=>82
 | 10=>83
 | 11=>84
 | _=>0
theorem sl14_inj (i:Nat) (hi:i < 12):∀ j,j < 12→sl14 j=sl14 i→j=i:=by
 have h:∀ a:_root_.Fin 12,∀ b:_root_.Fin 12,sl14 b.1=sl14 a.1→b.1=a.1:=by decide
 intro j hj e
 exact h ⟨i,hi⟩ ⟨j,hj⟩ e
theorem sl14_far:∀ j,(j < 73∨73+12≤j)→∀ i,i < 12→sl14 i≠j:=by
 intro j h2 i hi
 match i,hi with
 | 0,_=>show 73≠j; omega
 | 1,_=>show 74≠j; omega
 | 2,_=>show 75≠j; omega
 | 3,_=>show 76≠j; omega
 | 4,_=>show 77≠j; omega
 | 5,_=>show 78≠j; omega
 | 6,_=>show 79≠j; omega
 | 7,_=>show 80≠j; omega
 | 8,_=>show 81≠j; omega
 | 9,_=>show 82≠j; omega
 | 10,_=>show 83≠j; omega
 | 11,_=>show 84≠j; omega
def arrPl (np:P.PlaceD):Array Value:=#[.string np.b,.int .i64 np.s,.slice np.a np.ws.length np.c]
theorem rst_one {w:World} {g:Nat} {np:P.PlaceD} (h:w.heap[g]?=some (.cells (arrPl np) 54 (0,0))):Rst w (.slice (some ⟨g,0,none⟩) 1 1) [Pr.raw np]:=by
 refine ⟨_,1,rfl,Or.inr ⟨g,0,rfl,(Array.getElem?_eq_some_iff.1 h).1,fun j u hj=>?_⟩⟩
 have:=blk_cells h j u (by simpa [Pr.flatR,Pr.raw,arrPl,Pr.PlRaw.cells] using hj)
 rw [addr_add] at this
 exact this
theorem bld1Pl (np:P.PlaceD) (w:World):Sem.run Tryz.prog (Instr.buildSlice 24 1 #[(0,.agg #[.string np.b,.int .i64 np.s,.slice np.a np.ws.length np.c])]) w=.ok (.slice (some ⟨w.heap.size,0,none⟩) 1 1) (w.alloc (.cells (arrPl np) 54)):=by kernel_rfl
def G14 (xb Z:Nat) (a2:Option Addr) (n p k:Nat) (aH:Option Addr) (cH:Nat) (vF:Value) (np:P.PlaceD) (lk lf:List Pr.PlRaw) (L:Array Bool) (w:World):Nat→Value→Prop
 | 0,v=>L.getD 5 false=false→∃ g0,v=.slice (some ⟨g0,0,none⟩) 0 0∧OQ Z [] w v
 | 1,v=>v=.pointer (some ⟨xb,2,none⟩)
 | 2,v=>v=.slice a2 n p
 | 3,v=>v=.int .i64 (k:Int)
 | 4,v=>v=.slice aH k cH
 | 5,v=>L.getD 8 false=false→OQ Z lk w v
 | 6,v=>v=.agg #[.string np.b,.int .i64 np.s,.slice np.a np.ws.length np.c]
 | 7,v=>L.getD 8 false=false→∃ g,v=.slice (some ⟨g,0,none⟩) 1 1∧g < w.heap.size∧w.heap[g]?=some (.cells (arrPl np) 54 (0,0))
 | 8,v=>L.getD 10 false=false→OQ Z (lk++[Pr.raw np]) w v
 | 9,v=>v=vF
 | 10,v=>OQ Z (lk++[Pr.raw np]++lf) w v
 | 11,v=>v=.pointer (some ⟨xb,2,none⟩)
 | _,_=>True
section
variable {xb Z:Nat} {a2:Option Addr} {n p k:Nat} {aH:Option Addr} {cH:Nat} {vF:Value} {np:P.PlaceD} {lk lf:List Pr.PlRaw} {L:Array Bool} {w w':World} {i:Nat}
theorem G14.keep (hb:Below w.heap.size w w') (hi:i < L.size):∀ j v,G14 xb Z a2 n p k aH cH vF np lk lf L w j v→G14 xb Z a2 n p k aH cH vF np lk lf (L.setIfInBounds i true) w' j v
 | 0,_,h=>fun e=>by
  obtain ⟨g0,h1,h2⟩:=h (setT_back e hi)
  exact ⟨g0,h1,h2.keep hb⟩
 | 1,_,h=>h
 | 2,_,h=>h
 | 3,_,h=>h
 | 4,_,h=>h
 | 5,_,h=>fun e=>(h (setT_back e hi)).keep hb
 | 6,_,h=>h
 | 7,_,h=>fun e=>by
  obtain ⟨g,h1,h2,h3⟩:=h (setT_back e hi)
  exact ⟨g,h1,Nat.lt_of_lt_of_le h2 hb.size,(hb.block g h2).trans h3⟩
 | 8,_,h=>fun e=>(h (setT_back e hi)).keep hb
 | 9,_,h=>h
 | 10,_,h=>OQ.keep h hb
 | 11,_,h=>h
 | _+12,_,h=>h
theorem G14.at8 (h5:L.getD 5 false=true) (hz:L.size=13):∀ j v,j≠8→j≠10→G14 xb Z a2 n p k aH cH vF np lk lf L w j v→G14 xb Z a2 n p k aH cH vF np lk lf (L.setIfInBounds 8 true) w' j v
 | 0,_,_,_,h=>fun e=>by rw [setT_ne (by decide),h5] at e; cases e
 | 1,_,_,_,h=>h
 | 2,_,_,_,h=>h
 | 3,_,_,_,h=>h
 | 4,_,_,_,h=>h
 | 5,_,_,_,h=>fun e=>by rw [setT_same (by omega)] at e; cases e
 | 6,_,_,_,h=>h
 | 7,_,_,_,h=>fun e=>by rw [setT_same (by omega)] at e; cases e
 | 8,_,h8,_,h=>(h8 rfl).elim
 | 9,_,_,_,h=>h
 | 10,_,_,h10,h=>(h10 rfl).elim
 | 11,_,_,_,h=>h
 | _+12,_,_,_,h=>h
theorem G14.at10 (h5:L.getD 5 false=true) (h8:L.getD 8 false=true) (hz:L.size=13):∀ j v,j≠10→G14 xb Z a2 n p k aH cH vF np lk lf L w j v→G14 xb Z a2 n p k aH cH vF np lk lf (L.setIfInBounds 10 true) w' j v
 | 0,_,_,h=>fun e=>by rw [setT_ne (by decide),h5] at e; cases e
 | 1,_,_,h=>h
 | 2,_,_,h=>h
 | 3,_,_,h=>h
 | 4,_,_,h=>h
 | 5,_,_,h=>fun e=>by rw [setT_ne (by decide),h8] at e; cases e
 | 6,_,_,h=>h
 | 7,_,_,h=>fun e=>by rw [setT_ne (by decide),h8] at e; cases e
 | 8,_,_,h=>fun e=>by rw [setT_same (by omega)] at e; cases e
 | 9,_,_,h=>h
 | 10,_,h10,h=>(h10 rfl).elim
 | 11,_,_,h=>h
 | _+12,_,_,h=>h
end
end Go.Proofs.YtcjhlhijdacinaaGreatDoor
namespace Go.Proofs.YtcjhlhijdacinaaGreatDoor
open Go.RowKit Go.Maps Go.WideMaps
set_option linter.unusedVariables false
def slPu:Nat→Nat
 | 0=>16
 | 1=>17
 | 2=>18
 | 3=>19
 | 4=>20
 | 5=>21
 | 6=>22
 | 7=>23
 | 8=>24
 | 9=>25
 | 10=>26
 | 11=>27
 | 12=>28
 | 13=>29
 | 14=>30
 | 15=>31
 | _=>0
theorem slPu_inj (i:Nat) (hi:i < 16):∀ j,j < 16→slPu j=slPu i→j=i:=by
 have h:∀ a:_root_.Fin 16,∀ b:_root_.Fin 16,slPu b.1=slPu a.1→b.1=a.1:=by decide
 intro j hj e
 exact h ⟨i,hi⟩ ⟨j,hj⟩ e
theorem slPu_far:∀ j,(j < 16∨16+16≤j)→∀ i,i < 16→slPu i≠j:=by
 intro j h2 i hi
 match i,hi with
 | 0,_=>show 16≠j; omega
 | 1,_=>show 17≠j; omega
 | 2,_=>show 18≠j; omega
 | 3,_=>show 19≠j; omega
 | 4,_=>show 20≠j; omega
 | 5,_=>show 21≠j; omega
 | 6,_=>show 22≠j; omega
 | 7,_=>show 23≠j; omega
 | 8,_=>show 24≠j; omega
 | 9,_=>show 25≠j; omega
 | 10,_=>show 26≠j; omega
 | 11,_=>show 27≠j; omega
 | 12,_=>show 28≠j; omega
 | 13,_=>show 29≠j; omega
 | 14,_=>show 30≠j; omega
 | 15,_=>show 31≠j; omega
 | m+16,h=>exact absurd h (by omega)
def GPu (d m2:Nat) (b:ByteArray) (aw:Option Addr) (nw cw:Nat) (s:Int) (w:World):Nat→Value→Prop
 | 0,v=>v=.pointer (some ⟨d,0,none⟩)
 | 1,v=>v=.pointer (some ⟨d,0,none⟩)
 | 2,v=>v=.pointer (some ⟨d,2,none⟩)
 | 3,v=>v=.map (some m2)
 | 4,v=>v=.string b
 | 5,v=>v=.string b
 | 6,v=>v=.pointer (some ⟨d,0,none⟩)
 | 7,v=>v=.pointer (some ⟨d,0,none⟩)
 | 8,v=>v=.pointer (some ⟨d,2,none⟩)
 | 9,v=>v=.map (some m2)
 | 10,v=>v=.string b
 | 11,v=>∃ rb a n c,v=.agg #[.string rb,.int .i64 s,.slice a n c]
 | 12,v=>v=.int .i64 s
 | 13,v=>v=.int .i64 (s+1)
 | 14,v=>v=.slice aw nw cw
 | 15,v=>v=.agg #[.string b,.int .i64 (s+1),.slice aw nw cw]
 | _,_=>True
theorem pt_landx {w:World} {B Z lb:Nat} {t:Int} {gs:List G.GrantD} {qs0 qs:List P.PlaceD} {a1 a2:Option Addr} {c1 c2:Nat} (h:Pt w B Z lb t gs qs0 qs qs0.length (.slice a1 gs.length c1) a2 c2):P.LandX w gs qs a1 a2∧∀ r∈qs,r.ws.length≤r.c:=by
 have hL:=pt_ldo h
 have hlen:=h.like.len
 have hjl:∀ (j:Nat) q,qs[j]?=some q→j < qs0.length:=fun j q hq=>by rw [← hlen]; exact (List.getElem?_eq_some_iff.1 hq).1
 refine ⟨⟨?_, ?_,fun r hr=>?_⟩,fun r hr=>?_⟩
 ·
  rcases hL.g with ⟨h1,h2⟩ | ⟨g,cap,h1,h2,h3,h4,h5⟩
  · exact Or.inl h2
  injection h1 with e1 e2 e3
  exact Or.inr ⟨g,e1,h3,h4⟩
 ·
  rcases hL.p.o with ⟨h1,h2⟩ | ⟨g,cap,h1,h2,h3,h4,h5⟩
  · exact Or.inl (List.map_eq_nil_iff.1 h2)
  injection h1 with e1 e2 e3
  refine Or.inr ⟨g,e1,h3,fun k r hr=>?_⟩
  exact h4 k (Pr.raw r) (by rw [List.getElem?_map,hr]; rfl)
 ·
  obtain ⟨j,hj⟩:=List.getElem?_of_mem hr
  exact (hL.p.k j r hj).src
 obtain ⟨j,hj⟩:=List.getElem?_of_mem hr
 exact h.cap j r (hjl j r hj) hj
theorem fit_put {gs:List G.GrantD} {ps:List P.PlaceD} {b:ByteArray} {aw:Option Addr} {cw:Nat} {ws:List W.WantD} (h:P.Fit gs ps) (hb:b.size≤maxLen) (hw:∀ r∈ws,r.fits) (hl:ws.length≤1048576) (hp:ps.length≤4):P.Fit gs (putP b aw cw ws ps):=by
 have hm:∀ q∈putP b aw cw ws ps,q=⟨b,seenOf b ps+1,aw,cw,ws⟩∨q∈ps:=fun q hq=>Ord.insS_mem keyP _ ps q hq
 refine ⟨h.g,fun p hp=>?_,h.gl, ?_,fun p hp=>?_⟩
 ·
  rcases hm p hp with rfl | hq
  · exact ⟨hb,hw⟩
  exact h.p p hq
 ·
  have:=Ord.insS_len keyP (⟨b,seenOf b ps+1,aw,cw,ws⟩:P.PlaceD) ps
  show (Ord.insS keyP _ ps).length≤_
  omega
 rcases hm p hp with rfl | hq
 · exact hl
 exact h.ln p hq
theorem seen_bound {b:ByteArray}:∀ {ps:List P.PlaceD},(∀ p∈ps,p.fine)→0≤seenOf b ps∧seenOf b ps≤1000000
 | [],_=>by simp [seenOf]
 | p :: ps,h=>by
  have h1:=(h p (List.mem_cons_self ..)).2.1
  have h2:=seen_bound (b:=b) (fun q hq=>h q (List.mem_cons_of_mem _ hq))
  simp [inB] at h1
  rw [seenOf]
  split
  · omega
  exact h2
theorem look_seen {w:World} {m2 n:Nat} {b:ByteArray} {ps:List P.PlaceD} (ho:w.ownsMap Tryz.prog 9 Pr.RV m2 n (Pr.dec (ps.map Pr.raw))) (hs:Ord.Srt keyP ps) (hb:b.size≤maxLen) :
  ∃ rb a n c,Sem.run Tryz.prog (Instr.lookup 91 (.map (some m2)) (.string b) false) w=.ok (.agg #[.string rb,.int .i64 (seenOf b ps),.slice a n c]) w:=by
 rcases Pr.look1V m2 n (ps.map Pr.raw) ho (srtP_raw hs) b hb with ⟨r,hr,e,hrun⟩ | ⟨hno,hrun⟩
 ·
  obtain ⟨p,hp,rfl⟩:=List.mem_map.1 hr
  have e2:seenOf b ps=(Pr.raw p).s:=seen_of_mem hs hp e
  exact ⟨_,_,_,_,by rw [hrun,e2]⟩
 ·
  have e2:seenOf b ps=0:=seen_none (fun p hp e=>hno (Pr.raw p) (List.mem_map_of_mem hp) e)
  exact ⟨_,_,_,_,by rw [hrun,e2]⟩
theorem off_below {b:Nat} {w y z:World} (h:Off (fun j=>j=b) w y) (hb:Below y.heap.size y z):Off (fun j=>j=b) w z:=h.trans (Off.of_below hb)
theorem book_put {w y y':World} {d m1 m2 n:Nat} {t:Int} {gs:List G.GrantD} {rs rs':List Pr.PlRaw} (h:Book y d t m1 m2 gs rs) (hd:d≠m2) (hg:y.grownBy y' (some m2)) (ho:y'.ownsMap Tryz.prog 9 Pr.RV m2 n (Pr.dec rs')):Book y' d t m1 m2 gs rs':=by
 obtain ⟨n1,o1⟩:=h.o1
 have hdn:some d≠some m2:=fun e=>hd (Option.some.inj e)
 exact ⟨fun k=>(World.cell?_of_block (w:=y) (a:=⟨d,k,none⟩) (hg.block d h.l hdn)).trans (h.c k),fun k=>(World.frozen?_of_block (w:=y) (a:=⟨d,k,none⟩) (hg.block d h.l hdn)).trans (h.f k),Nat.lt_of_lt_of_le h.l hg.size,⟨n1,o1.kept (row:=some m2) hg (fun e=>h.ne (Option.some.inj e))⟩,⟨n,ho⟩,h.ne⟩
set_option maxRecDepth 4000 in
set_option maxHeartbeats 2000000 in
theorem put_no (d:Nat) (b:ByteArray) (aw:Option Addr) (cw:Nat) (ws:List W.WantD) (w:World) (hb:b.size≤maxLen) (hW:W.Gv w aw ws) (hcw:ws.length≤cw) (hwf:∀ r∈ws,r.fits) (hwl:ws.length≤1048576) (hno:¬ (nameB b=true∧(ws.length≤10∧W.AllW ws ws.length))) (te:TypeId) (pe:Value) (hev:w.cell? ⟨4,0,none⟩=some (.iface te pe)) (hev0:4 < w.heap.size) :
  Calls Tryz.prog 42 #[.pointer (some ⟨d,0,none⟩),.string b,.slice aw ws.length cw] w fun e w'=>e=.returned (.iface te pe)∧Below w.heap.size w w':=by
 cases q1:nameB b
 ·
  go_enter Tryz.func42,Tryz.ntmps42
  go_wp2_with (go_at_call 68; refine (implName_any _ _ hb).mono ?_; rintro e w' ⟨rfl,hw⟩; have hw2:=hw.symm; subst hw2; clear hw)
  go_ret
  exact ⟨rfl,Below.refl _ _⟩
 ·
  have OK:Hid (Calls Tryz.prog 69 #[.slice aw ws.length cw] w fun e w'=>e=.returned (.bool false)∧Below w.heap.size w w'):=by
   refine (W.implWantsOk_gv aw cw ws w hW hcw hwf hwl).mono ?_
   rintro e w' ⟨⟨q,rfl,hq⟩,hb⟩
   refine ⟨?_,hb⟩
   cases q with
   | false=>rfl
   | true=>exact (hno ⟨q1,hq.1 rfl⟩).elim
  have HEV:Hid (∀ y,Below w.heap.size w y→y.cell? ⟨4,0,none⟩=some (.iface te pe)):=fun y hy=>(hy.cell (p:=⟨4,0,none⟩) hev0).trans hev
  clear hW hwf hno hev
  go_enter Tryz.func42,Tryz.ntmps42
  go_wp2_with (go_at_call 68; refine (implName_any _ _ hb).mono ?_; rintro e w' ⟨rfl,hw⟩; have hw2:=hw.symm; subst hw2; clear hw)
  refine OK.out.mono ?_
  rintro e w1 ⟨rfl,c⟩
  have C:=hidP c
  have he:=HEV.out w1 c
  clear c
  go_wp2
  go_ret
  exact ⟨rfl,C.out⟩
set_option maxRecDepth 4000 in
set_option maxHeartbeats 4000000 in
theorem put_yes (hK1:G.KeysSay) (hS1:G.SortedSay) (hK2:Pr.KeysSay) (hS2:Pr.SortedSay) (d m1 m2:Nat) (t:Int) (gs:List G.GrantD) (ps:List P.PlaceD) (b:ByteArray) (aw:Option Addr) (cw:Nat) (ws:List W.WantD) (w:World) (hB:Book w d t m1 m2 gs (ps.map Pr.raw)) (hd2:d≠m2) (hnb:∃ n,n≤1048576∧w.ownsMap Tryz.prog 9 Pr.RV m2 n (Pr.dec (ps.map Pr.raw))) (hok:P.LandSay t gs ps) (hF:P.Fit gs ps)
  (hsrc:∀ y,Off (fun j=>j=m2) w y→∀ q∈ps,W.Src y q.a q.c q.ws) (hW:∀ y,Off (fun j=>j=m2) w y→W.Src y aw cw ws) (hb:b.size≤maxLen) (hcw:ws.length≤cw) (hwf:∀ r∈ws,r.fits) (hyes:nameB b=true∧(ws.length≤10∧W.AllW ws ws.length)) (te:TypeId) (pe:Value) (hev:∀ y,Off (fun j=>j=m2) w y→y.cell? ⟨5,0,none⟩=some (.iface te pe)) :
  Calls Tryz.prog 42 #[.pointer (some ⟨d,0,none⟩),.string b,.slice aw ws.length cw] w fun e w'=>(∃ er,e=.returned er∧((P.LandSay t gs (putP b none 0 ws ps)∧er=.nilIface)∨(¬ P.LandSay t gs (putP b none 0 ws ps)∧er=.iface te pe)))∧Book w' d t m1 m2 gs ((putP b aw cw ws ps).map Pr.raw)∧Off (fun j=>j=m2) w w':=by
 obtain ⟨s,hs⟩:∃ s,s=seenOf b ps:=⟨_,rfl⟩
 obtain ⟨qs0,hqs⟩:∃ qs0,qs0=putP b aw cw ws ps:=⟨_,rfl⟩
 have hsb:=seen_bound (b:=b) hok.2.2.1.2.2
 rw [← hs] at hsb
 obtain ⟨hs0,hs1⟩:=hsb
 have hwl:ws.length≤1048576:=by have:=hyes.2.1; omega
 have hsrt:=srtP hok.2.2.1.2.1
 have hsrt':Ord.Srt keyP qs0:=by rw [hqs]; exact Ord.insS_srt keyP _ ps hsrt
 have hfit':P.Fit gs qs0:=by rw [hqs]; exact fit_put hF hb hwf hwl hok.2.2.1.1
 have hins:Ord.ins Pr.keyV (Pr.raw ⟨b,s+1,aw,cw,ws⟩) (ps.map Pr.raw)=qs0.map Pr.raw:=by rw [ins_raw hsrt,hqs,hs]; rfl
 have hmem:∀ q∈qs0,q=⟨b,s+1,aw,cw,ws⟩∨q∈ps:=fun q hq=>by rw [hqs] at hq; rw [hs]; exact Ord.insS_mem keyP _ ps q hq
 have OK:Hid (Calls Tryz.prog 69 #[.slice aw ws.length cw] w fun e w'=>e=.returned (.bool true)∧Below w.heap.size w w'):=by
  refine (W.implWantsOk_gv aw cw ws w (hW w (Off.refl _ _)).gv hcw hwf hwl).mono ?_
  rintro e w' ⟨⟨q,rfl,hq⟩,hb⟩
  exact ⟨by rw [hq.2 hyes.2],hb⟩
 have HBK:Hid (∀ y,Below w.heap.size w y→Book y d t m1 m2 gs (ps.map Pr.raw)):=fun y hy=>hB.keep hy
 have K0:Hid (∀ y,Below w.heap.size w y→y.cell? ⟨d,2,none⟩=some (.map (some m2))):=fun y hy=>(hB.keep hy).c 2
 have LK0:Hid (∀ y,Below w.heap.size w y→∃ rb a n c,Sem.run Tryz.prog (Instr.lookup 91 (.map (some m2)) (.string b) false) y=.ok (.agg #[.string rb,.int .i64 s,.slice a n c]) y):=by
  intro y hy
  obtain ⟨n,ho⟩:=(hB.keep hy).o2
  rw [hs]
  exact look_seen ho hsrt hb
 have UP0:Hid (∀ y,Below w.heap.size w y→∃ w2 n,Sem.run Tryz.prog (Instr.mapUpdate 91 (.map (some m2)) (.string b) (.agg #[.string b,.int .i64 (s+1),.slice aw ws.length cw])) y=.ok () w2∧w2.ownsMap Tryz.prog 9 Pr.RV m2 n (Pr.dec (qs0.map Pr.raw))∧y.grownBy w2 (some m2)):=by
  intro y hy
  obtain ⟨n,hn,ho0⟩:=hnb
  have ho:=Pr.mapv_below ho0 hy
  obtain ⟨w2,h1,h2,h3⟩:=Pr.mapv_step m2 n (ps.map Pr.raw) (Pr.raw ⟨b,s+1,aw,cw,ws⟩) ho (by unfold maxLen; omega) hb
  rw [hins] at h2
  exact ⟨w2,n+1,h1,h2,h3⟩
 have TO:Hid (∀ y,Off (fun j=>j=m2) w y→Book y d t m1 m2 gs (qs0.map Pr.raw)→Calls Tryz.prog 48 #[.pointer (some ⟨d,0,none⟩)] y fun e w'=>(∃ B Z lb qs s1 a2 c2,e=.returned (.agg #[.int .i64 t,s1,.slice a2 qs0.length c2])∧y.heap.size < B∧Pt w' B Z lb t gs qs0 qs qs0.length s1 a2 c2)∧Below y.heap.size y w'):=by
  intro y hy hBy
  exact told_any hK1 hS1 hK2 hS2 d m1 m2 t gs qs0 (qs0.map Pr.raw) rfl y hBy (G.srt_asc hok.2.1.2.1) (srtP_raw hsrt') (fun r hr=>(hfit'.g r hr).1) (fun r hr=>by obtain ⟨p,hp,rfl⟩:=List.mem_map.1 hr; exact (hfit'.p p hp).1) hfit'.gl (by rw [List.length_map]; exact hfit'.pl) (fun q hq=>by
   rcases hmem q hq with rfl | h
   · exact ⟨hW y hy,hwl⟩
   exact ⟨hsrc y hy q h,hF.ln q h⟩)
 have HFI:=hidP hfit'
 have HEV:=hidP hev
 have HQS:=hidP hqs
 have q1:nameB b=true:=hyes.1
 have iw:IntKind.i64.wrap (s+1)=s+1:=by rw [IntKind.wrap_i64]; omega
 have HD2:=hidP hd2
 clear hK1 hS1 hK2 hS2 hB hnb hok hF hsrc hW hwf hyes hev hs hqs hsrt hsrt' hfit' hins hmem hd2
 go_enter Tryz.func42,Tryz.ntmps42
 go_wp2_with (go_at_call 68; refine (implName_any _ _ hb).mono ?_; rintro e w' ⟨rfl,hw⟩; have hw2:=hw.symm; subst hw2; clear hw)
 refine OK.out.mono ?_
 rintro e W0 ⟨rfl,c0⟩
 have C0:=hidP c0
 have LK:Hid (∀ y,Below W0.heap.size W0 y→∃ rb a n c,Sem.run Tryz.prog (Instr.lookup 91 (.map (some m2)) (.string b) false) y=.ok (.agg #[.string rb,.int .i64 s,.slice a n c]) y):=fun y hy=>LK0.out y (bl_trans C0.out hy)
 have UP:Hid (∀ y,Below W0.heap.size W0 y→∃ w2 n,Sem.run Tryz.prog (Instr.mapUpdate 91 (.map (some m2)) (.string b) (.agg #[.string b,.int .i64 (s+1),.slice aw ws.length cw])) y=.ok () w2∧w2.ownsMap Tryz.prog 9 Pr.RV m2 n (Pr.dec (qs0.map Pr.raw))∧y.grownBy w2 (some m2)):=fun y hy=>UP0.out y (bl_trans C0.out hy)
 have K00:=hidP K0.out
 clear K0 c0
 have K0:Hid (∀ y,Below W0.heap.size W0 y→y.cell? ⟨d,2,none⟩=some (.map (some m2))):=fun y hy=>K00.out y (bl_trans C0.out hy)
 go_wp2_with fail
 refine wp_region_any (by kernel_rfl) ?_
 refine reg_invT slPu 16 0 (GPu d m2 b aw ws.length cw s) (fun y=>Below W0.heap.size W0 y) (fun _ y=>∃ y0,Below W0.heap.size W0 y0∧y0.grownBy y (some m2)∧∃ n,y.ownsMap Tryz.prog 9 Pr.RV m2 n (Pr.dec (qs0.map Pr.raw))) (by decide) rfl bD ?done ?step
 case done =>
  intro a y hdf hsz hout hE
  obtain ⟨y0,hb0,hg0,n0,ho0⟩:=hE
  obtain ⟨l',hl',ha⟩:=frameP_of (lo:=16) (n:=16) hdf hsz (fun j hj=>hout j (fun i hi=>slPu_far j hj i hi)) (lE rfl)
  have OF:Hid (Off (fun j=>j=m2) w y):=(Off.of_below (bl_trans C0.out hb0)).trans (Off.of_grown hg0 (fun j e=>(Option.some.inj e).symm))
  have BY:Hid (Book y d t m1 m2 gs (qs0.map Pr.raw)):=book_put (w:=w) (HBK.out y0 (bl_trans C0.out hb0)) HD2.out hg0 ho0
  clear hb0 hg0 ho0 hdf hsz hout
  subst ha
  obtain ⟨x0,n0,rfl,hm0⟩:=lenP_succ hl'
  obtain ⟨x1,n1,rfl,hm1⟩:=lenP_succ hm0
  obtain ⟨x2,n2,rfl,hm2⟩:=lenP_succ hm1
  obtain ⟨x3,n3,rfl,hm3⟩:=lenP_succ hm2
  obtain ⟨x4,n4,rfl,hm4⟩:=lenP_succ hm3
  obtain ⟨x5,n5,rfl,hm5⟩:=lenP_succ hm4
  obtain ⟨x6,n6,rfl,hm6⟩:=lenP_succ hm5
  obtain ⟨x7,n7,rfl,hm7⟩:=lenP_succ hm6
  obtain ⟨x8,n8,rfl,hm8⟩:=lenP_succ hm7
  obtain ⟨x9,n9,rfl,hm9⟩:=lenP_succ hm8
  obtain ⟨x10,n10,rfl,hm10⟩:=lenP_succ hm9
  obtain ⟨x11,n11,rfl,hm11⟩:=lenP_succ hm10
  obtain ⟨x12,n12,rfl,hm12⟩:=lenP_succ hm11
  obtain ⟨x13,n13,rfl,hm13⟩:=lenP_succ hm12
  obtain ⟨x14,n14,rfl,hm14⟩:=lenP_succ hm13
  obtain ⟨x15,n15,rfl,hm15⟩:=lenP_succ hm14
  obtain rfl:=lenP_zero hm15
  simp only [tkd,Nat.reduceAdd]
  go_wp2_with fail
  refine (TO.out y OF.out BY.out).mono ?_
  rintro e w5 ⟨⟨B,Z,lb,qs,s1,a2,c2,rfl,-,hP⟩,c5⟩
  obtain ⟨a1,c1,rfl⟩:=OG.shape hP.g
  obtain ⟨hX,hcp⟩:=pt_landx hP
  have hlen:qs0.length=qs.length:=hP.like.len.symm
  have HLK:=hidP hP.like
  have LO:=P.implLandOk_x t gs qs a1 a2 c1 c2 w5 hX hcp (HFI.out.like hP.like)
  rw [← hlen] at LO
  have LO2:=hidP LO
  have OF5:Hid (Off (fun j=>j=m2) w w5):=off_below OF.out c5
  have BY5:Hid (Book w5 d t m1 m2 gs (qs0.map Pr.raw)):=BY.out.keep c5
  clear hP c5 hX hcp LO hlen
  go_wp2_with fail
  refine LO2.out.mono ?_
  rintro e w6 ⟨⟨q,rfl,hq⟩,c6⟩
  have OF6:Hid (Off (fun j=>j=m2) w w6):=off_below OF5.out c6
  have BY6:Hid (Book w6 d t m1 m2 gs ((putP b aw cw ws ps).map Pr.raw)):=by show Book _ _ _ _ _ _ _; rw [← HQS.out]; exact BY5.out.keep c6
  have HQ:Hid (q=true↔P.LandSay t gs (putP b none 0 ws ps)):=hq.trans ((P.like_says HLK.out).trans (by rw [HQS.out]; exact P.like_says (putP_like rfl)))
  have he:=HEV.out w6 OF6.out
  clear c6 hq
  cases q
  ·
   have HN:Hid (¬ P.LandSay t gs (putP b none 0 ws ps)):=fun h=>by have:=HQ.out.2 h; cases this
   clear HQ
   go_wp2
   go_ret
   exact ⟨⟨_,rfl,Or.inr ⟨HN.out,rfl⟩⟩,BY6.out,OF6.out⟩
  have HY:Hid (P.LandSay t gs (putP b none 0 ws ps)):=HQ.out.1 rfl
  clear he HQ
  go_wp2
  go_ret
  exact ⟨⟨_,rfl,Or.inl ⟨HY.out,rfl⟩⟩,BY6.out,OF6.out⟩
 case step =>
  intro listed x y i hI hi hlt8
  have ho:=ready_open hi
  have HJ:=hidP hI
  have HI:=hidP hi
  obtain rfl | rfl | rfl | rfl | rfl | rfl | rfl | rfl | rfl | rfl | rfl | rfl | rfl | rfl | rfl | rfl | rfl:i=0∨i=1∨i=2∨i=3∨i=4∨i=5∨i=6∨i=7∨i=8∨i=9∨i=10∨i=11∨i=12∨i=13∨i=14∨i=15∨i=16:=by omega
  ·
   have hn:=ntr hI.tr ho [3,2,1,0] 16 rfl rfl
   have e1:x.tmps[0]?.getD undef=.pointer (some ⟨d,0,none⟩):=ev_tmp (hI.out 0 (fun i hi=>slPu_far 0 (by omega) i hi))
   have HD:Hid (Below W0.heap.size W0 y):=hI.d hn
   clear hi hI
   refine op9 fun K hK=>?_
   go_simp
   exact hK.out _ _ (HJ.out.same HI.out (by omega) hn (lE rfl) (slPu_inj _ (by omega)) (rfl))
  ·
   have hn:=ntr hI.tr ho [3,2,1] 16 rfl rfl
   have gf0:GPu d m2 b aw ws.length cw s y 0 (x.tmps.getD 16 undef):=hI.good 0 (by omega) (wO hi) hn
   have e1:x.tmps[16]?.getD undef=.pointer (some ⟨d,0,none⟩):=ev_tmp gf0
   have HD:Hid (Below W0.heap.size W0 y):=hI.d hn
   clear hi hI
   refine op9 fun K hK=>?_
   go_simp
   exact hK.out _ _ (HJ.out.same HI.out (by omega) hn (lE rfl) (slPu_inj _ (by omega)) (rfl))
  ·
   have hn:=ntr hI.tr ho [3,2] 16 rfl rfl
   have gf1:GPu d m2 b aw ws.length cw s y 1 (x.tmps.getD 17 undef):=hI.good 1 (by omega) (wO hi) hn
   have e1:x.tmps[17]?.getD undef=.pointer (some ⟨d,0,none⟩):=ev_tmp gf1
   have HD:Hid (Below W0.heap.size W0 y):=hI.d hn
   clear hi hI
   refine op9 fun K hK=>?_
   go_simp
   exact hK.out _ _ (HJ.out.same HI.out (by omega) hn (lE rfl) (slPu_inj _ (by omega)) (rfl))
  ·
   have hn:=ntr hI.tr ho [3] 16 rfl rfl
   have gf2:GPu d m2 b aw ws.length cw s y 2 (x.tmps.getD 18 undef):=hI.good 2 (by omega) (wO hi) hn
   have e1:x.tmps[18]?.getD undef=.pointer (some ⟨d,2,none⟩):=ev_tmp gf2
   have k1:y.cell? ⟨d,2,none⟩=some (.map (some m2)):=K0.out y (hI.d hn)
   have HD:Hid (Below W0.heap.size W0 y):=hI.d hn
   clear hi hI
   refine op9 fun K hK=>?_
   go_simp
   exact hK.out _ _ (HJ.out.same HI.out (by omega) hn (lE rfl) (slPu_inj _ (by omega)) (rfl))
  ·
   have hn:=ntr hI.tr ho [4] 16 rfl rfl
   have e1:x.tmps[1]?.getD undef=.string b:=ev_tmp (hI.out 1 (fun i hi=>slPu_far 1 (by omega) i hi))
   have HD:Hid (Below W0.heap.size W0 y):=hI.d hn
   clear hi hI
   refine op9 fun K hK=>?_
   go_simp
   exact hK.out _ _ (HJ.out.same HI.out (by omega) hn (lE rfl) (slPu_inj _ (by omega)) (rfl))
  ·
   have hn:=ntr hI.tr ho [15,5] 16 rfl rfl
   have e1:x.tmps[1]?.getD undef=.string b:=ev_tmp (hI.out 1 (fun i hi=>slPu_far 1 (by omega) i hi))
   have HD:Hid (Below W0.heap.size W0 y):=hI.d hn
   clear hi hI
   refine op9 fun K hK=>?_
   go_simp
   exact hK.out _ _ (HJ.out.same HI.out (by omega) hn (lE rfl) (slPu_inj _ (by omega)) (rfl))
  ·
   have hn:=ntr hI.tr ho [15,13,12,11,9,8,7,6] 16 rfl rfl
   have e1:x.tmps[0]?.getD undef=.pointer (some ⟨d,0,none⟩):=ev_tmp (hI.out 0 (fun i hi=>slPu_far 0 (by omega) i hi))
   have HD:Hid (Below W0.heap.size W0 y):=hI.d hn
   clear hi hI
   refine op9 fun K hK=>?_
   go_simp
   exact hK.out _ _ (HJ.out.same HI.out (by omega) hn (lE rfl) (slPu_inj _ (by omega)) (rfl))
  ·
   have hn:=ntr hI.tr ho [15,13,12,11,9,8,7] 16 rfl rfl
   have gf6:GPu d m2 b aw ws.length cw s y 6 (x.tmps.getD 22 undef):=hI.good 6 (by omega) (wO hi) hn
   have e1:x.tmps[22]?.getD undef=.pointer (some ⟨d,0,none⟩):=ev_tmp gf6
   have HD:Hid (Below W0.heap.size W0 y):=hI.d hn
   clear hi hI
   refine op9 fun K hK=>?_
   go_simp
   exact hK.out _ _ (HJ.out.same HI.out (by omega) hn (lE rfl) (slPu_inj _ (by omega)) (rfl))
  ·
   have hn:=ntr hI.tr ho [15,13,12,11,9,8] 16 rfl rfl
   have gf7:GPu d m2 b aw ws.length cw s y 7 (x.tmps.getD 23 undef):=hI.good 7 (by omega) (wO hi) hn
   have e1:x.tmps[23]?.getD undef=.pointer (some ⟨d,0,none⟩):=ev_tmp gf7
   have HD:Hid (Below W0.heap.size W0 y):=hI.d hn
   clear hi hI
   refine op9 fun K hK=>?_
   go_simp
   exact hK.out _ _ (HJ.out.same HI.out (by omega) hn (lE rfl) (slPu_inj _ (by omega)) (rfl))
  ·
   have hn:=ntr hI.tr ho [15,13,12,11,9] 16 rfl rfl
   have gf8:GPu d m2 b aw ws.length cw s y 8 (x.tmps.getD 24 undef):=hI.good 8 (by omega) (wO hi) hn
   have e1:x.tmps[24]?.getD undef=.pointer (some ⟨d,2,none⟩):=ev_tmp gf8
   have k1:y.cell? ⟨d,2,none⟩=some (.map (some m2)):=K0.out y (hI.d hn)
   have HD:Hid (Below W0.heap.size W0 y):=hI.d hn
   clear hi hI
   refine op9 fun K hK=>?_
   go_simp
   exact hK.out _ _ (HJ.out.same HI.out (by omega) hn (lE rfl) (slPu_inj _ (by omega)) (rfl))
  ·
   have hn:=ntr hI.tr ho [15,13,12,11,10] 16 rfl rfl
   have e1:x.tmps[1]?.getD undef=.string b:=ev_tmp (hI.out 1 (fun i hi=>slPu_far 1 (by omega) i hi))
   have HD:Hid (Below W0.heap.size W0 y):=hI.d hn
   clear hi hI
   refine op9 fun K hK=>?_
   go_simp
   exact hK.out _ _ (HJ.out.same HI.out (by omega) hn (lE rfl) (slPu_inj _ (by omega)) (rfl))
  ·
   have hn:=ntr hI.tr ho [15,13,12,11] 16 rfl rfl
   have gf9:GPu d m2 b aw ws.length cw s y 9 (x.tmps.getD 25 undef):=hI.good 9 (by omega) (wO hi) hn
   have gf10:GPu d m2 b aw ws.length cw s y 10 (x.tmps.getD 26 undef):=hI.good 10 (by omega) (wO hi) hn
   have e1:x.tmps[25]?.getD undef=.map (some m2):=ev_tmp gf9
   have e2:x.tmps[26]?.getD undef=.string b:=ev_tmp gf10
   obtain ⟨rb,ra,rn,rc,hl⟩:=LK.out y (hI.d hn)
   have HD:Hid (Below W0.heap.size W0 y):=hI.d hn
   clear hi hI
   refine op9 fun K hK=>?_
   go_simp
   exact hK.out _ _ (HJ.out.same HI.out (by omega) hn (lE rfl) (slPu_inj _ (by omega)) (⟨rb,ra,rn,rc,rfl⟩))
  ·
   have hn:=ntr hI.tr ho [15,13,12] 16 rfl rfl
   have gf11:GPu d m2 b aw ws.length cw s y 11 (x.tmps.getD 27 undef):=hI.good 11 (by omega) (wO hi) hn
   obtain ⟨rb,ra,rn,rc,hv⟩:=gf11
   have e1:x.tmps[27]?.getD undef=_:=ev_tmp hv
   clear hv
   have HD:Hid (Below W0.heap.size W0 y):=hI.d hn
   clear hi hI
   refine op9 fun K hK=>?_
   go_simp
   exact hK.out _ _ (HJ.out.same HI.out (by omega) hn (lE rfl) (slPu_inj _ (by omega)) (rfl))
  ·
   have hn:=ntr hI.tr ho [15,13] 16 rfl rfl
   have gf12:GPu d m2 b aw ws.length cw s y 12 (x.tmps.getD 28 undef):=hI.good 12 (by omega) (wO hi) hn
   have e1:x.tmps[28]?.getD undef=.int .i64 s:=ev_tmp gf12
   have HD:Hid (Below W0.heap.size W0 y):=hI.d hn
   clear hi hI
   refine op9 fun K hK=>?_
   go_simp
   exact hK.out _ _ (HJ.out.same HI.out (by omega) hn (lE rfl) (slPu_inj _ (by omega)) (rfl))
  ·
   have hn:=ntr hI.tr ho [15,14] 16 rfl rfl
   have e1:x.tmps[2]?.getD undef=.slice aw ws.length cw:=ev_tmp (hI.out 2 (fun i hi=>slPu_far 2 (by omega) i hi))
   have HD:Hid (Below W0.heap.size W0 y):=hI.d hn
   clear hi hI
   refine op9 fun K hK=>?_
   go_simp
   exact hK.out _ _ (HJ.out.same HI.out (by omega) hn (lE rfl) (slPu_inj _ (by omega)) (rfl))
  ·
   have hn:=ntr hI.tr ho [15] 16 rfl rfl
   have gf5:GPu d m2 b aw ws.length cw s y 5 (x.tmps.getD 21 undef):=hI.good 5 (by omega) (wO hi) hn
   have gf13:GPu d m2 b aw ws.length cw s y 13 (x.tmps.getD 29 undef):=hI.good 13 (by omega) (wO hi) hn
   have gf14:GPu d m2 b aw ws.length cw s y 14 (x.tmps.getD 30 undef):=hI.good 14 (by omega) (wO hi) hn
   have e1:x.tmps[21]?.getD undef=.string b:=ev_tmp gf5
   have e2:x.tmps[29]?.getD undef=.int .i64 (s+1):=ev_tmp gf13
   have e3:x.tmps[30]?.getD undef=.slice aw ws.length cw:=ev_tmp gf14
   have HD:Hid (Below W0.heap.size W0 y):=hI.d hn
   clear hi hI
   refine op9 fun K hK=>?_
   go_simp
   exact hK.out _ _ (HJ.out.same HI.out (by omega) hn (lE rfl) (slPu_inj _ (by omega)) (rfl))
  have hn:listed.getD 16 false=false:=noT (fun h=>openT ho h)
  have gf3:GPu d m2 b aw ws.length cw s y 3 (x.tmps.getD 19 undef):=hI.good 3 (by omega) (wO hi) hn
  have gf4:GPu d m2 b aw ws.length cw s y 4 (x.tmps.getD 20 undef):=hI.good 4 (by omega) (wO hi) hn
  have gf15:GPu d m2 b aw ws.length cw s y 15 (x.tmps.getD 31 undef):=hI.good 15 (by omega) (wO hi) hn
  have e1:x.tmps[19]?.getD undef=.map (some m2):=ev_tmp gf3
  have e2:x.tmps[20]?.getD undef=.string b:=ev_tmp gf4
  have e3:x.tmps[31]?.getD undef=.agg #[.string b,.int .i64 (s+1),.slice aw ws.length cw]:=ev_tmp gf15
  obtain ⟨w2,n2,hrun,ho2,hg2⟩:=UP.out y (hI.d hn)
  have HO2:=hidP ho2
  have HG2:=hidP hg2
  clear ho2 hg2
  have HD:Hid (Below W0.heap.size W0 y):=hI.d hn
  clear hi hI
  refine op9 fun K hK=>?_
  go_simp
  exact hK.out _ _ (HJ.out.last (u:=undef) HI.out ⟨y,HD.out,HG2.out,n2,HO2.out⟩)
end Go.Proofs.YtcjhlhijdacinaaGreatDoor
namespace Go.Proofs.YtcjhlhijdacinaaGreatDoor
open Go.RowKit Go.Maps Go.WideMaps
set_option linter.unusedVariables false
theorem work_put (d bb wb:Nat) (b:ByteArray) (v:Value) (w:World) (R:Value→World→Prop) (h1:w.cell? ⟨bb,0,none⟩=some (.string b)) (h2:w.cell? ⟨wb,0,none⟩=some v) (hv:∃ a n c,v=.slice a n c) (h:Calls Tryz.prog 42 #[.pointer (some ⟨d,0,none⟩),.string b,v] w fun e w'=>∃ er,e=.returned er∧R er w') :
  Calls Tryz.prog 41 #[.pointer (some ⟨d,0,none⟩),.pointer (some ⟨bb,0,none⟩),.pointer (some ⟨wb,0,none⟩)] w fun e w'=>∃ er,e=.returned (.tuple #[.slice none 0 0,er])∧R er w':=by
 obtain ⟨a,n,c,rfl⟩:=hv
 have H:=hidP h
 clear h
 go_enter Tryz.func41,Tryz.ntmps41
 go_wp2_with fail
 refine H.out.mono ?_
 rintro e w1 ⟨er,rfl,hR⟩
 have HR:=hidP hR
 clear hR H h1 h2
 go_wp2_with fail
 exact bodyPost_ret (v:=.tuple #[.slice none 0 0,er]) (by simp [results,Tryz.results41,go_sem]) rfl ⟨er,rfl,HR.out⟩
end Go.Proofs.YtcjhlhijdacinaaGreatDoor
