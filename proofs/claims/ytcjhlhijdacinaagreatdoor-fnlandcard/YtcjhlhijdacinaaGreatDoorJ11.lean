import Derived.Test.YtcjhlhijdacinaaGreatDoorJ09
import Derived.Test.YtcjhlhijdacinaaGreatDoorJ10
import Derived.Maps.AppendAt
import Derived.Deep.DeepCutAuto
import Derived.StillTactics
import Derived.BigQuiet
import Derived.Test.YtcjhlhijdacinaaGreatDoorJ08
import Derived.Laws.EntriesVeiled
namespace Go.Proofs.YtcjhlhijdacinaaGreatDoor
open Go.RowKit Go.Maps Go.WideMaps
set_option linter.unusedVariables false
def toldP (q:P.PlaceD) (a:Option Addr) (c:Nat):Pc.PcRaw:=⟨1,q.b,q.s,a,q.ws.length,c,{ data:=#[] },{ data:=#[] },0⟩
structure Sn (w:World) (B:Nat) (qs:List P.PlaceD) (cs:List Pc.PcRaw) (v:Value):Prop where
 o:w.ownsRow B 29 7 v cs.length (Pc.flatR cs)
 el:∀ (j:Nat) c,cs[j]?=some c→∃ q,qs[j]?=some q∧c=toldP q c.a c.c∧W.Sl w (.slice c.a q.ws.length c.c) q.ws B
 nr:∀ (j:Nat) c g,cs[j]?=some c→(Value.slice c.a c.n c.c).ownBlock=some g→v.ownBlock≠some g
 dif:∀ (i j:Nat) c c' g,i < j→cs[i]?=some c→cs[j]?=some c'→(Value.slice c.a c.n c.c).ownBlock=some g→(Value.slice c'.a c'.n c'.c).ownBlock≠some g
theorem Sn.keep {w w':World} {B:Nat} {qs:List P.PlaceD} {cs:List Pc.PcRaw} {v:Value} (h:Sn w B qs cs v) (hb:Below w.heap.size w w'):Sn w' B qs cs v :=
 ⟨Pc.owns_below h.o hb,fun j c hc=>by obtain ⟨q,h1,h2,h3⟩:=h.el j c hc; exact ⟨q,h1,h2,h3.keep hb⟩,h.nr,h.dif⟩
theorem Sn.nil (w:World) (B:Nat) (qs:List P.PlaceD):Sn w B qs [] (.slice none 0 0) :=
 ⟨World.ownsRow_nil _ _ _ _,fun j c hc=>by simp at hc,fun j c g hc=>by simp at hc,fun i j c c' g _ hc=>by simp at hc⟩
theorem Sn.own {w:World} {B:Nat} {qs:List P.PlaceD} {cs:List Pc.PcRaw} {v:Value} (h:Sn w B qs cs v) {j:Nat} {c:Pc.PcRaw} (hc:cs[j]?=some c) {g:Nat} (hg:(Value.slice c.a c.n c.c).ownBlock=some g):B≤g∧g < w.heap.size:=by
 obtain ⟨q,h1,h2,h3⟩:=h.el j c hc
 have e:c.n=q.ws.length:=by rw [h2]; rfl
 rw [e] at hg
 exact h3.lt g hg
theorem Sn.app {w y y':World} {B:Nat} {qs:List P.PlaceD} {cs:List Pc.PcRaw} {v v':Value} {q:P.PlaceD} {av:Option Addr} {cv:Nat} (h:Sn w B qs cs v) (hB:B≤w.heap.size) (hb:Below w.heap.size w y) (hq:qs[cs.length]?=some q) (hv:W.Sl y (.slice av q.ws.length cv) q.ws w.heap.size)
  (hg:y.grownBy y' v.ownBlock) (ho:y'.ownsRow B 29 7 v' (cs++[toldP q av cv]).length (Pc.flatR (cs++[toldP q av cv]))) (hat:v'.ownBlock=v.ownBlock∨v'.ownBlock=some y.heap.size):Sn y' B qs (cs++[toldP q av cv]) v':=by
 have hvw:∀ g,v.ownBlock=some g→B≤g∧g < w.heap.size:=(Pc.Sl.of_owns h.o).lt
 have hnew:=hv.lt
 have hold:∀ {j:Nat} {c:Pc.PcRaw} {g:Nat},cs[j]?=some c→(Value.slice c.a c.n c.c).ownBlock=some g→B≤g∧g < w.heap.size:=fun hc hg=>h.own hc hg
 have cases_:∀ {j:Nat} {c:Pc.PcRaw},(cs++[toldP q av cv])[j]?=some c→cs[j]?=some c∨(j=cs.length∧c=toldP q av cv):=by
  intro j c hc
  rcases Nat.lt_trichotomy j cs.length with hj | hj | hj
  · rw [List.getElem?_append_left hj] at hc; exact Or.inl hc
  ·
   subst hj
   rw [List.getElem?_append_right (Nat.le_refl _),Nat.sub_self] at hc
   simp at hc
   exact Or.inr ⟨rfl,hc.symm⟩
  rw [List.getElem?_append_right (by omega)] at hc
  rw [List.getElem?_eq_none (by simp; omega)] at hc
  cases hc
 refine ⟨ho, ?_, ?_, ?_⟩
 ·
  intro j c hc
  rcases cases_ hc with hc | ⟨rfl,rfl⟩
  ·
   obtain ⟨q',h1,h2,h3⟩:=h.el j c hc
   refine ⟨q',h1,h2,(h3.keep hb).grown hg ?_⟩
   have e:c.n=q'.ws.length:=by rw [h2]; rfl
   cases hx:(Value.slice c.a q'.ws.length c.c).ownBlock with
   | none=>exact Or.inl rfl
   | some g=>exact Or.inr (fun e2=>h.nr j c g hc (by rw [e]; exact hx) e2.symm)
  refine ⟨q,hq,rfl, ?_⟩
  have h1:W.Sl y (.slice av q.ws.length cv) q.ws B:=sl_lowW hv hB
  refine h1.grown hg ?_
  cases hx:(Value.slice av q.ws.length cv).ownBlock with
  | none=>exact Or.inl rfl
  | some g=>exact Or.inr (fun e2=>by have:=hnew g hx; have:=hvw g e2.symm; omega)
 ·
  intro j c g hc hx e
  rcases cases_ hc with hc | ⟨rfl,rfl⟩
  ·
   rcases hat with hat | hat
   · exact h.nr j c g hc hx (by rw [← hat]; exact e)
   rw [hat] at e
   have e2:=Option.some.inj e
   have:=hold hc hx
   have:=hb.size
   omega
  have h1:=hnew g hx
  rcases hat with hat | hat
  ·
   rw [hat] at e
   have:=hvw g e
   omega
  rw [hat] at e
  have e2:=Option.some.inj e
  omega
 ·
  intro i j c c' g hij hc hc' hx
  rcases cases_ hc' with hc' | ⟨rfl,rfl⟩
  ·
   rcases cases_ hc with hc | ⟨rfl,rfl⟩
   · exact h.dif i j c c' g hij hc hc' hx
   have:=(List.getElem?_eq_some_iff.1 hc').1
   omega
  rcases cases_ hc with hc | ⟨rfl,rfl⟩
  ·
   intro e
   have h1:=hold hc hx
   have h2:=hnew g e
   omega
  omega
end Go.Proofs.YtcjhlhijdacinaaGreatDoor
namespace Go.Proofs.YtcjhlhijdacinaaGreatDoor
open Go.RowKit Go.Maps Go.WideMaps
set_option linter.unusedVariables false
def arrP (q:P.PlaceD) (av:Option Addr) (cv:Nat):Array Value:=#[.int .i64 1,.string q.b,.int .i64 q.s,.slice av q.ws.length cv,.string ⟨#[]⟩,.string ⟨#[]⟩,.int .i64 0]
theorem bld1p (q:P.PlaceD) (av:Option Addr) (cv:Nat) (w:World):Sem.run Tryz.prog (Instr.buildSlice 32 1 #[(0,.agg #[.int .i64 1,.string q.b,.int .i64 q.s,.slice av q.ws.length cv,.string ⟨#[]⟩,.string ⟨#[]⟩,.int .i64 0])]) w=.ok (.slice (some ⟨w.heap.size,0,none⟩) 1 1) (w.alloc (.cells (arrP q av cv) 29)):=by kernel_rfl
theorem SNge {w:World} {B:Nat} {qs:List P.PlaceD} {cs:List Pc.PcRaw} {v:Value} (h:Sn w B qs cs v):∀ k,v.ownBlock=some k→B≤k:=fun k hk=>((Pc.Sl.of_owns h.o).lt k hk).1
theorem pcApp {o:Oper} {a:Act} {Y:World} {K:Act→World→Prop} {Q:Exit→Act→World→Prop} (B:Nat) (s x:Operand)
  (ho:o.op=.call { callee:=.builtin .append,args:=#[s,x],argTypes:=#[32,32] }) (l:List Pc.PcRaw) (v:Value) {q:P.PlaceD} {av:Option Addr} {cv g:Nat}
  (hs:a.eval s=v) (hown:Y.ownsRow B 29 7 v l.length (Pc.flatR l)) (hB:B≤Y.heap.size) (hx:a.eval x=.slice (some ⟨g,0,none⟩) 1 1) (hc:Y.heap[g]?=some (.cells (arrP q av cv) 29 (0,0))) (hl:l.length≤1048576)
  (h:∀ (s':Value) (w':World),w'.ownsRow B 29 7 s' (l++[toldP q av cv]).length (Pc.flatR (l++[toldP q av cv]))→Y.grownBy w' v.ownBlock→(s'.ownBlock=v.ownBlock∨s'.ownBlock=some Y.heap.size)→K (a.put o.dst s') w'):o.wp Tryz.prog a Y K Q:=by
 obtain ⟨i0,hi,hz0,hz1,hz2⟩:=info_parts Pc.infoR
 refine wp_append_own_atP s x 32 ho B 29 i0 _ 7 96 Tryz.underlying32 hi hz0 hz1 hz2 rfl (by decide) v l.length _ hs hown ⟨g,0,none⟩ 1 1 (toldP q av cv).cells hx rfl (fun j u hj=>blk_cells hc j u hj) (Pc.cellsR_one _) (by unfold maxLen; omega) (by omega) hB ?_
 intro s' w' ho' hg' hat
 refine h s' w' ?_ hg' hat
 rw [List.length_append]
 simpa [Pc.flatR] using ho'
def sl8:Nat→Nat
 | 0=>30
 | 1=>31
 | 2=>32
 | 3=>33
 | 4=>34
 | 5=>35
 | 6=>36
 | 7=>37
 | 8=>38
 | 9=>39
 | _=>0
theorem sl8_inj (i:Nat) (hi:i < 10):∀ j,j < 10→sl8 j=sl8 i→j=i:=by
 have h:∀ a:_root_.Fin 10,∀ b:_root_.Fin 10,sl8 b.1=sl8 a.1→b.1=a.1:=by decide
 intro j hj e
 exact h ⟨i,hi⟩ ⟨j,hj⟩ e
theorem sl8_far:∀ j,(j < 30∨30+10≤j)→∀ i,i < 10→sl8 i≠j:=by
 intro j h2 i hi
 match i,hi with
 | 0,_=>show 30≠j; omega
 | 1,_=>show 31≠j; omega
 | 2,_=>show 32≠j; omega
 | 3,_=>show 33≠j; omega
 | 4,_=>show 34≠j; omega
 | 5,_=>show 35≠j; omega
 | 6,_=>show 36≠j; omega
 | 7,_=>show 37≠j; omega
 | 8,_=>show 38≠j; omega
 | 9,_=>show 39≠j; omega
def G8 (sv:Value) (pb Z:Nat) (q:P.PlaceD) (w:World):Nat→Value→Prop
 | 0,v=>v=sv
 | 1,v=>v=.pointer (some ⟨pb,0,none⟩)
 | 2,v=>v=.string q.b
 | 3,v=>v=.pointer (some ⟨pb,1,none⟩)
 | 4,v=>v=.int .i64 q.s
 | 5,v=>v=.pointer (some ⟨pb,2,none⟩)
 | 6,v=>v=.slice q.a q.ws.length q.c
 | 7,v=>FrV Z q.ws w v
 | 8,v=>∃ av cv,v=.agg #[.int .i64 1,.string q.b,.int .i64 q.s,.slice av q.ws.length cv,.string ⟨#[]⟩,.string ⟨#[]⟩,.int .i64 0]∧W.Sl w (.slice av q.ws.length cv) q.ws Z
 | 9,v=>∃ av cv g,v=.slice (some ⟨g,0,none⟩) 1 1∧Z≤g∧g < w.heap.size∧w.heap[g]?=some (.cells (arrP q av cv) 29 (0,0))∧W.Sl w (.slice av q.ws.length cv) q.ws Z
 | _,_=>True
theorem G8.keep {sv:Value} {pb Z:Nat} {q:P.PlaceD} {w w':World} (hb:Below w.heap.size w w'):∀ j v,G8 sv pb Z q w j v→G8 sv pb Z q w' j v
 | 0,_,h=>h
 | 1,_,h=>h
 | 2,_,h=>h
 | 3,_,h=>h
 | 4,_,h=>h
 | 5,_,h=>h
 | 6,_,h=>h
 | 7,_,h=>W.Sl.keep h hb
 | 8,_,⟨av,cv,h1,h2⟩=>⟨av,cv,h1,h2.keep hb⟩
 | 9,_,⟨av,cv,g,h1,h2,h3,h4,h5⟩=>⟨av,cv,g,h1,h2,Nat.lt_of_lt_of_le h3 hb.size,(hb.block g h3).trans h4,h5.keep hb⟩
 | _+10,_,h=>h
theorem Sn.low {w:World} {B B':Nat} {qs:List P.PlaceD} {cs:List Pc.PcRaw} {v:Value} (h:Sn w B qs cs v) (hB:B'≤B):Sn w B' qs cs v:=by
 refine ⟨?_,fun j c hc=>?_,h.nr,h.dif⟩
 ·
  obtain ⟨h1,h2 | ⟨g,cap,cur,h3,h4,h5⟩⟩:=h.o
  · exact ⟨h1,Or.inl h2⟩
  exact ⟨h1,Or.inr ⟨g,cap,cur,h3,Nat.le_trans hB h4,h5⟩⟩
 obtain ⟨q,h1,h2,h3⟩:=h.el j c hc
 exact ⟨q,h1,h2,sl_lowW h3 hB⟩
theorem row_blk {B:Nat} {ps:List Pr.PlRaw} {qs:List P.PlaceD} {w:World} {a:Option Addr} {c:Nat} (h:OQ B ps w (.slice a ps.length c)) (hp:ps=qs.map Pr.raw) (hl:0 < ps.length):∃ g,a=some ⟨g,0,none⟩∧g < w.heap.size∧Pr.RowsAt w g 0 (qs.map Pr.raw):=by
 rcases Pr.Sl.of_owns h with ⟨h1,h2⟩ | ⟨g,cap,h1,h2,h3,h4,h5⟩
 · rw [h2] at hl; exact absurd hl (by simp)
 injection h1 with e1 e2 e3
 exact ⟨g,e1,h3,by rw [← hp]; exact h4⟩
theorem Ex.then_below2 {kr:Nat} {w x y:World} (h:Ex kr w x) (hb:Below x.heap.size x y):Ex kr w y:=h.trans (Ex.of_below hb)
theorem book_time {w:World} {d m1 m2:Nat} {t:Int} {gs:List G.GrantD} {ps:List Pr.PlRaw} (h:Book w d t m1 m2 gs ps) (h1:d≠m1) (h2:d≠m2) (u:Int):Book (w.setCell ⟨d,0,none⟩ (.int .i64 u)) d u m1 m2 gs ps:=by
 have he:Ex d w (w.setCell ⟨d,0,none⟩ (.int .i64 u)):=(Ex.refl _ _).set _ _
 obtain ⟨n1,es1,cl1,a1,a2⟩:=h.o1
 obtain ⟨n2,es2,cl2,b1,b2⟩:=h.o2
 refine ⟨fun k=>?_,fun k=>by rw [World.frozen?_setCell]; exact h.f k,Nat.lt_of_lt_of_le h.l he.size,⟨n1,es1,cl1,(he.block m1 (Array.getElem?_eq_some_iff.1 a1).1 (fun e=>h1 e.symm)).trans a1,a2⟩,⟨n2,es2,cl2,(he.block m2 (Array.getElem?_eq_some_iff.1 b1).1 (fun e=>h2 e.symm)).trans b1,b2⟩,h.ne⟩
 by_cases e:k=0
 ·
  subst e
  have h3:=h.c 0
  rw [World.cell?_setCell_same _ _ _ h3]
  rfl
 rw [World.cell?_setCell_other _ _ _ _ (fun h'=>e (by have:=congrArg Addr.off h'; exact this.symm)),h.c k]
 match k,e with
 | 1,_=>rfl
 | 2,_=>rfl
 | _+3,_=>rfl
set_option maxRecDepth 4000 in
set_option maxHeartbeats 8000000 in
theorem tick_any (hK2:Pr.KeysSay) (hS2:Pr.SortedSay) (d m1 m2:Nat) (t:Int) (gs:List G.GrantD) (qs0:List P.PlaceD) (ps:List Pr.PlRaw) (hps:ps=qs0.map Pr.raw) (w:World) (hB:Book w d t m1 m2 gs ps) (hd1:d≠m1) (hd2:d≠m2) (s2:Pr.Srt ps) (f2:∀ r∈ps,r.b.size≤maxLen) (k2:ps.length≤1048576) (ht0:0≤t) (ht:t < 2000000)
  (hsrc:∀ y,Ex d w y→∀ q∈qs0,W.Src y q.a q.c q.ws∧q.ws.length≤1048576) :
  Calls Tryz.prog 32 #[.pointer (some ⟨d,0,none⟩)] w fun e w'=>∃ v cs,e=.returned (.tuple #[v,.nilIface])∧cs.length=qs0.length∧Sn w' w.heap.size qs0 cs v∧Book w' d (t+2) m1 m2 gs ps∧Ex d w w':=by
 have hc0:w.cell? ⟨d,0,none⟩=some (.int .i64 t):=hB.c 0
 have hf0:w.frozen? ⟨d,0,none⟩=false:=hB.f 0
 obtain ⟨Y1,hY1⟩:∃ Y1,Y1=w.setCell ⟨d,0,none⟩ (.int .i64 (t+2)):=⟨_,rfl⟩
 have HY1:=hidP hY1
 have E1:Hid (Ex d w Y1):=by rw [hY1]; exact (Ex.refl _ _).set _ _
 have HB1:Hid (Book Y1 d (t+2) m1 m2 gs ps):=by rw [hY1]; exact book_time hB hd1 hd2 _
 have IQ:Hid (Calls Tryz.prog 53 #[.map (some m2)] Y1 fun e w'=>(∃ v,e=.returned v∧w'.ownsRow Y1.heap.size 54 3 v ps.length (Pr.flatR ps))∧Below Y1.heap.size Y1 w'):=by
  obtain ⟨n,o⟩:=HB1.out.o2
  exact Pr.inOrderO hK2 hS2 m2 n ps Y1 o s2 f2 k2
 have HSR:=hidP hsrc
 have HPS:=hidP hps
 have hk1:(w.setCell ⟨d,0,none⟩ (.int .i64 (t+2))).cell? ⟨d,2,none⟩=some (.map (some m2)):=by rw [← HY1.out]; exact HB1.out.c 2
 have hlen:ps.length=qs0.length:=by rw [hps]; exact List.length_map ..
 have HZW:=hidP E1.out.size
 clear hK2 hS2 hB s2 f2 hsrc hps hY1
 go_enter Tryz.func32,Tryz.ntmps32
 go_wp2_with fail
 rw [← HY1.out]
 refine IQ.out.mono ?_
 rintro e Y2 ⟨⟨vL,rfl,oL⟩,bL⟩
 obtain ⟨aL,cL,rfl⟩:=(Pr.Sl.of_owns oL).shape
 have OL:=hidP oL
 have BL:=hidP bL
 have E2:=hidP (E1.out.then_below2 bL)
 obtain ⟨Z,hZ⟩:∃ Z,Z=Y2.heap.size:=⟨_,rfl⟩
 have HZe:=hidP hZ
 clear oL bL hZ hc0 hf0 hk1 IQ
 rw [hlen]
 go_wp2_with fail
 go_loopw [4,26] (fun sv i wx=>∃ (k:Nat) (cs:List Pc.PcRaw),k≤qs0.length∧i=.int .i64 (k:Int)∧Hid (cs.length=k)∧Hid (Sn wx Z qs0 cs sv)∧Hid (Below Y2.heap.size Y2 wx)) (fun _ i _=>qs0.length - (intOf i).toNat)
 case atStart=>exact ⟨0,[],Nat.zero_le _,rfl,rfl,Sn.nil _ _ _,Below.refl _ _⟩
 case round =>
  obtain ⟨k,cs,hk,rfl,HCk,HSN,HBY⟩:=hrel
  by_cases hlt:k < qs0.length
  ·
   have hki:(k:Int) < (qs0.length:Int):=by omega
   obtain ⟨q,hq⟩:∃ q,qs0[k]?=some q:=⟨qs0[k],List.getElem?_eq_getElem hlt⟩
   obtain ⟨gL,rfl,hgL,hRL⟩:=row_blk OL.out HPS.out (by rw [hlen]; omega)
   obtain ⟨r0,r1,r2⟩:=pt_row (hRL.keep hgL HBY.out) hq
   have HQ:Hid (qs0[cs.length]?=some q):=by show _=_; rw [HCk.out]; exact hq
   have HQ0:=hidP (List.mem_of_getElem? hq)
   have HZ:Hid (Z≤wr.heap.size):=by show _≤_; rw [HZe.out]; exact HBY.out.size
   have HCL:Hid (cs.length≤1048576):=by show _≤_; rw [HCk.out]; omega
   clear hq hRL
   go_wp2_with fail
   obtain ⟨Wk,hWk⟩:∃ Wk,Wk=wr.alloc (.cells #[.string q.b,.int .i64 q.s,.slice q.a q.ws.length q.c] 54):=⟨_,rfl⟩
   have HWk:=hidP hWk
   have BWk:Hid (Below wr.heap.size wr Wk):=by rw [hWk]; exact bl_alloc bR _
   have L3:Hid (∀ y,Below Wk.heap.size Wk y→∀ j,y.cell? ⟨wr.heap.size,j,none⟩=(#[.string q.b,.int .i64 q.s,.slice q.a q.ws.length q.c]:Array Value)[j]?):=by
    intro y hb j
    rw [hWk] at hb
    rw [box_keep hb j]
    simp [go_sem]
   have FR:Hid (∀ y,Below Wk.heap.size Wk y→Calls Tryz.prog 54 #[.slice q.a q.ws.length q.c] y fun e w'=>(∃ v,e=.returned v∧W.Sl w' v q.ws y.heap.size)∧Below y.heap.size y w'):=fun y hb=>by
    obtain ⟨h1,h2⟩:=HSR.out y (E2.out.then_below2 (bl_trans HBY.out (bl_trans BWk.out hb))) q HQ0.out
    exact W.fresh_src q.a q.c q.ws y h1 h2
   clear hWk r0 r1 r2
   rw [← HWk.out]
   obtain ⟨sv,hsv⟩:∃ sv,sv=u4:=⟨_,rfl⟩
   subst hsv
   refine wp_region_any (by kernel_rfl) ?_
   refine reg_invU sl8 10 40 4 (G8 sv wr.heap.size Wk.heap.size q) (fun y=>Below Wk.heap.size Wk y) (fun u y=>∃ av cv,Sn y Z qs0 (cs++[toldP q av cv]) u∧Below Y2.heap.size Y2 y) (fun u y=>∃ av cv,Sn y Z qs0 (cs++[toldP q av cv]) u∧Below Y2.heap.size Y2 y) (by decide) rfl bD ?done8 ?step8
   case done8 =>
    intro a y hdf hsz hout hE
    obtain ⟨av,cv,hS,hb⟩:=hE
    obtain ⟨sa,sn,hv⟩:=(Pc.Sl.of_owns hS.o).shape
    obtain ⟨l',hl',ha⟩:=frameP_two (lo:=30) (n:=11) (se:=4) hdf hsz (lE rfl) (lE rfl) (fun j hj1 hj2=>hout j (fun i hi=>sl8_far j (by omega) i hi) (by omega) hj1)
    rw [hv] at ha hS
    have HS:=hidP hS
    have HB9:=hidP hb
    generalize hsl:Value.slice sa (cs++[toldP q av cv]).length sn=sv' at ha HS
    obtain ⟨sa',sn',nn',rfl⟩:∃ a n m,sv'=.slice a n m:=⟨_,_,_,hsl.symm⟩
    clear hb hdf hsz hout hv hS hsl
    subst ha
    obtain ⟨x0,m0,rfl,hm0⟩:=lenP_succ hl'
    obtain ⟨x1,m1,rfl,hm1⟩:=lenP_succ hm0
    obtain ⟨x2,m2,rfl,hm2⟩:=lenP_succ hm1
    obtain ⟨x3,m3,rfl,hm3⟩:=lenP_succ hm2
    obtain ⟨x4,m4,rfl,hm4⟩:=lenP_succ hm3
    obtain ⟨x5,m5,rfl,hm5⟩:=lenP_succ hm4
    obtain ⟨x6,m6,rfl,hm6⟩:=lenP_succ hm5
    obtain ⟨x7,m7,rfl,hm7⟩:=lenP_succ hm6
    obtain ⟨x8,m8,rfl,hm8⟩:=lenP_succ hm7
    obtain ⟨x9,m9,rfl,hm9⟩:=lenP_succ hm8
    obtain ⟨x10,m10,rfl,hm10⟩:=lenP_succ hm9
    obtain rfl:=lenP_zero hm10
    simp only [List.setIfInBounds_toArray,List.set_cons_succ,List.set_cons_zero,List.take_succ_cons,List.take_zero,List.drop_succ_cons,List.drop_zero,List.cons_append,List.nil_append,Nat.reduceAdd]
    go_wp2
    exact ⟨⟨k+1,cs++[toldP q av cv],by omega,by go_num,(by show (cs++[_]).length=_; rw [List.length_append,HCk.out]; rfl),HS.out,HB9.out⟩,by simp [intOf]; omega⟩
   intro listed x y i hI hi hlt8
   have ho:=ready_open hi
   have HJ:=hidP hI
   have HI:=hidP hi
   obtain rfl | rfl | rfl | rfl | rfl | rfl | rfl | rfl | rfl | rfl | rfl | rfl:i=0∨i=1∨i=2∨i=3∨i=4∨i=5∨i=6∨i=7∨i=8∨i=9∨i=10∨i=11:=by omega
   ·
    have hn:=ntr hI.tr ho [0] 10 rfl rfl
    have e1:x.tmps[4]?.getD undef=sv:=ev_tmp (hI.out 4 (fun i hi=>sl8_far 4 (by omega) i hi) (by omega) (fun _=>noT (fun h=>by rw [hI.tr 11 10 (by rfl) h] at hn; cases hn)))
    have HD:=hidP (hI.d hn)
    clear hi hI
    refine op9 fun K hK=>?_
    go_simp
    exact hK.out _ _ (HJ.out.same HI.out (by omega) hn (by rfl) (lE rfl) (sl8_inj _ (by omega)) (rfl))
   ·
    have hn:=ntr hI.tr ho [9,8,2,1] 10 rfl rfl
    have e1:x.tmps[6]?.getD undef=.pointer (some ⟨wr.heap.size,0,none⟩):=ev_tmp (hI.out 6 (fun i hi=>sl8_far 6 (by omega) i hi) (by omega) (fun e=>absurd e (by omega)))
    have HD:=hidP (hI.d hn)
    clear hi hI
    refine op9 fun K hK=>?_
    go_simp
    exact hK.out _ _ (HJ.out.same HI.out (by omega) hn (by rfl) (lE rfl) (sl8_inj _ (by omega)) (rfl))
   ·
    have hn:=ntr hI.tr ho [9,8,2] 10 rfl rfl
    have gf1:=hI.good 1 (by omega) (wO hi) hn
    have e1:x.tmps[31]?.getD undef=.pointer (some ⟨wr.heap.size,0,none⟩):=ev_tmp gf1
    have k1:y.cell? ⟨wr.heap.size,0,none⟩=some (.string q.b):=L3.out y (hI.d hn) 0
    have HD:=hidP (hI.d hn)
    clear hi hI
    refine op9 fun K hK=>?_
    go_simp
    exact hK.out _ _ (HJ.out.same HI.out (by omega) hn (by rfl) (lE rfl) (sl8_inj _ (by omega)) (rfl))
   ·
    have hn:=ntr hI.tr ho [9,8,4,3] 10 rfl rfl
    have e1:x.tmps[6]?.getD undef=.pointer (some ⟨wr.heap.size,0,none⟩):=ev_tmp (hI.out 6 (fun i hi=>sl8_far 6 (by omega) i hi) (by omega) (fun e=>absurd e (by omega)))
    have HD:=hidP (hI.d hn)
    clear hi hI
    refine op9 fun K hK=>?_
    go_simp
    exact hK.out _ _ (HJ.out.same HI.out (by omega) hn (by rfl) (lE rfl) (sl8_inj _ (by omega)) (rfl))
   ·
    have hn:=ntr hI.tr ho [9,8,4] 10 rfl rfl
    have gf3:=hI.good 3 (by omega) (wO hi) hn
    have e1:x.tmps[33]?.getD undef=.pointer (some ⟨wr.heap.size,1,none⟩):=ev_tmp gf3
    have k1:y.cell? ⟨wr.heap.size,1,none⟩=some (.int .i64 q.s):=L3.out y (hI.d hn) 1
    have HD:=hidP (hI.d hn)
    clear hi hI
    refine op9 fun K hK=>?_
    go_simp
    exact hK.out _ _ (HJ.out.same HI.out (by omega) hn (by rfl) (lE rfl) (sl8_inj _ (by omega)) (rfl))
   ·
    have hn:=ntr hI.tr ho [9,8,7,6,5] 10 rfl rfl
    have e1:x.tmps[6]?.getD undef=.pointer (some ⟨wr.heap.size,0,none⟩):=ev_tmp (hI.out 6 (fun i hi=>sl8_far 6 (by omega) i hi) (by omega) (fun e=>absurd e (by omega)))
    have HD:=hidP (hI.d hn)
    clear hi hI
    refine op9 fun K hK=>?_
    go_simp
    exact hK.out _ _ (HJ.out.same HI.out (by omega) hn (by rfl) (lE rfl) (sl8_inj _ (by omega)) (rfl))
   ·
    have hn:=ntr hI.tr ho [9,8,7,6] 10 rfl rfl
    have gf5:=hI.good 5 (by omega) (wO hi) hn
    have e1:x.tmps[35]?.getD undef=.pointer (some ⟨wr.heap.size,2,none⟩):=ev_tmp gf5
    have k1:y.cell? ⟨wr.heap.size,2,none⟩=some (.slice q.a q.ws.length q.c):=L3.out y (hI.d hn) 2
    have HD:=hidP (hI.d hn)
    clear hi hI
    refine op9 fun K hK=>?_
    go_simp
    exact hK.out _ _ (HJ.out.same HI.out (by omega) hn (by rfl) (lE rfl) (sl8_inj _ (by omega)) (rfl))
   ·
    have hn:=ntr hI.tr ho [9,8,7] 10 rfl rfl
    have gf6:=hI.good 6 (by omega) (wO hi) hn
    have e1:x.tmps[36]?.getD undef=.slice q.a q.ws.length q.c:=ev_tmp gf6
    have HD:=hidP (hI.d hn)
    clear hi hI
    refine op9 fun K hK=>?_
    go_simp
    refine (FR.out y HD.out).mono ?_
    rintro e y' ⟨⟨v9,rfl,o9⟩,b9⟩
    exact hK.out _ _ (HJ.out.put HI.out (by omega) hn (by rfl) (lE rfl) (sl8_inj _ (by omega)) (sl_lowW o9 HD.out.size) (fun j u _ h=>G8.keep b9 j u h) (bl_trans HD.out b9))
   ·
    have hn:=ntr hI.tr ho [9,8] 10 rfl rfl
    have gf2:=hI.good 2 (by omega) (wO hi) hn
    have gf4:=hI.good 4 (by omega) (wO hi) hn
    have gf7:=hI.good 7 (by omega) (wO hi) hn
    have e1:x.tmps[32]?.getD undef=.string q.b:=ev_tmp gf2
    have e2:x.tmps[34]?.getD undef=.int .i64 q.s:=ev_tmp gf4
    have o5:W.Sl y _ q.ws Wk.heap.size:=gf7
    obtain ⟨av,cv,hv⟩:=W.Sl.shape o5
    have e3:x.tmps[37]?.getD undef=_:=ev_tmp hv
    rw [hv] at o5
    have O5:=hidP o5
    clear hv o5 gf7
    have HD:=hidP (hI.d hn)
    clear hi hI
    refine op9 fun K hK=>?_
    go_simp
    exact hK.out _ _ (HJ.out.same HI.out (by omega) hn (by rfl) (lE rfl) (sl8_inj _ (by omega)) (⟨av,cv,rfl,O5.out⟩))
   ·
    have hn:=ntr hI.tr ho [9] 10 rfl rfl
    have gf8:=hI.good 8 (by omega) (wO hi) hn
    obtain ⟨av,cv,hv,o5⟩:=gf8
    have e1:x.tmps[38]?.getD undef=_:=ev_tmp hv
    have O5:=hidP o5
    have hb:=bld1p q av cv
    clear hv o5
    have HD:=hidP (hI.d hn)
    clear hi hI
    refine op9 fun K hK=>?_
    go_simp
    have hbl:Below y.heap.size y (y.alloc (.cells (arrP q av cv) 29)):=bl_alloc bR _
    exact hK.out _ _ (HJ.out.put HI.out (by omega) hn (by rfl) (lE rfl) (sl8_inj _ (by omega)) (⟨av,cv,y.heap.size,rfl,HD.out.size,by simp,heap_alloc_newL y _,O5.out.keep hbl⟩) (fun j u _ h=>G8.keep hbl j u h) (bl_trans HD.out hbl))
   ·
    have hn:listed.getD 10 false=false:=noT (fun h=>openT ho h)
    have gf0:=hI.good 0 (by omega) (wO hi) hn
    have gf9:=hI.good 9 (by omega) (wO hi) hn
    obtain ⟨av,cv,g9,hv,z1,z2,hc9,o5⟩:=gf9
    have e1:x.tmps.getD 30 undef=sv:=gf0
    have e2:x.tmps.getD 39 undef=.slice (some ⟨g9,0,none⟩) 1 1:=hv
    have HD:=hidP (hI.d hn)
    have SY:Sn y Z qs0 cs sv:=(HSN.out.keep (bl_trans BWk.out HD.out))
    clear hi hI
    refine op9 fun K hK=>?_
    refine pcApp Z (.tmp 30) (.tmp 39) rfl cs sv e1 SY.o (by have:=HZ.out; have:=BWk.out.size; have:=HD.out.size; omega) e2 hc9 (by have:=HCL.out; omega) ?_
    intro s' w' o1 g1 hat
    exact hK.out _ _ (HJ.out.app HI.out (by rfl) (lE rfl) ⟨av,cv,Sn.app HSN.out HZ.out (bl_trans BWk.out HD.out) HQ.out (sl_lowW o5 BWk.out.size) g1 o1 hat,Below.grown (row:=sv.ownBlock) (bl_trans HBY.out (bl_trans BWk.out HD.out)) g1 (bl_trans HBY.out (bl_trans BWk.out HD.out)).size (fun k hk=>by have h1:=SNge HSN.out k hk; have h2:Z=Y2.heap.size:=HZe.out; omega)⟩)
   have hl10:=waits_of hi (i:=11) (j:=10) (by rfl)
   have gA:=hI.a1 hl10 (noT (fun h=>openT ho h))
   obtain ⟨av,cv,hS,hBl⟩:=gA
   obtain ⟨sa,sn,hv⟩:=(Pc.Sl.of_owns hS.o).shape
   have e1:x.tmps[40]?.getD undef=_:=ev_tmp hv
   have OS:=hidP hS
   have OB:=hidP hBl
   have HV:=hidP hv
   clear hi hI hS hBl hv
   refine op9 fun K hK=>?_
   go_simp
   exact hK.out _ _ (HJ.out.last HI.out (by rfl) (lE rfl) ⟨av,cv,by have h:=OS.out; rw [HV.out,List.length_append] at h; exact h,OB.out⟩)
  have hk':k=qs0.length:=by omega
  go_wp2_with fail
  refine bodyPost_ret (v:=.tuple #[u4,.nilIface]) (by simp [results,Tryz.results32,go_sem]) rfl ⟨u4,cs,rfl,by rw [HCk.out,hk'],Sn.low HSN.out (by have h:Z=Y2.heap.size:=HZe.out; have:=E2.out.size; omega),(HB1.out.keep BL.out).keep HBY.out,E2.out.then_below2 HBY.out⟩
end Go.Proofs.YtcjhlhijdacinaaGreatDoor
namespace Go.Proofs.YtcjhlhijdacinaaGreatDoor
open Go.RowKit Go.Maps Go.WideMaps
set_option linter.unusedVariables false
set_option maxRecDepth 4000 in
set_option maxHeartbeats 2000000 in
theorem tick_over (d m1 m2:Nat) (t:Int) (gs:List G.GrantD) (ps:List Pr.PlRaw) (w:World) (hB:Book w d t m1 m2 gs ps) (ht:2000000≤t) (ev:Value) (hev:w.cell? ⟨3,0,none⟩=some ev) (hv:∃ te pe,ev=.iface te pe) :
  Calls Tryz.prog 32 #[.pointer (some ⟨d,0,none⟩)] w fun e w'=>e=.returned (.tuple #[.slice none 0 0,ev])∧Below w.heap.size w w':=by
 have hc0:w.cell? ⟨d,0,none⟩=some (.int .i64 t):=hB.c 0
 obtain ⟨te,pe,rfl⟩:=hv
 clear hB
 go_enter Tryz.func32,Tryz.ntmps32
 go_wp2_with fail
 go_region
 all_goals (go_wp2; exact bodyPost_ret (v:=.tuple #[.slice none 0 0,.iface te pe]) (by simp [results,Tryz.results32,go_sem]) rfl ⟨rfl,bl_drew bR⟩)
theorem work_tick (d:Nat) (w:World) (R:Value→Value→World→Prop) (h:Calls Tryz.prog 32 #[.pointer (some ⟨d,0,none⟩)] w fun e w'=>∃ v1 v2,e=.returned (.tuple #[v1,v2])∧R v1 v2 w') :
  Calls Tryz.prog 31 #[.pointer (some ⟨d,0,none⟩)] w fun e w'=>∃ v1 v2,e=.returned (.tuple #[v1,v2])∧R v1 v2 w':=by
 have H:=hidP h
 clear h
 go_enter Tryz.func31,Tryz.ntmps31
 go_wp2_with fail
 refine H.out.mono ?_
 rintro e w1 ⟨v1,v2,rfl,hR⟩
 have HR:=hidP hR
 clear hR H
 go_wp2_with fail
 exact bodyPost_ret (v:=.tuple #[v1,v2]) (by simp [results,Tryz.results31,go_sem]) rfl ⟨v1,v2,rfl,HR.out⟩
end Go.Proofs.YtcjhlhijdacinaaGreatDoor
namespace Go.Proofs.YtcjhlhijdacinaaGreatDoor.P
open Go.RowKit
set_option linter.unusedVariables false
theorem build_land (w:World):Sem.run Tryz.prog (Instr.buildSlice 76 4 #[(0,.func (.func 35) #[] #[]),(1,.func (.func 36) #[] #[]),(2,.func (.func 37) #[] #[]),(3,.func (.func 38) #[] #[])]) w=.ok (.slice (some ⟨w.heap.size,0,none⟩) 4 4) (w.alloc (.cells #[.func (.func 35) #[] #[],.func (.func 36) #[] #[],.func (.func 37) #[] #[],.func (.func 38) #[] #[]] 38)):=by kernel_rfl
theorem saysL_no {t:Int} {gs:List G.GrantD} {ps:List PlaceD} (h:LandSay t gs ps→False):SaysL false t gs ps:=⟨fun h'=>(by cases h'),fun h'=>(h h').elim⟩
end Go.Proofs.YtcjhlhijdacinaaGreatDoor.P
namespace Go.Proofs.YtcjhlhijdacinaaGreatDoor
open Go.RowKit Go.Maps Go.WideMaps
set_option linter.unusedVariables false
def Pc.PcD.says (r:Pc.PcD):Int × ByteArray × Int × List W.WantD × ByteArray × ByteArray × Int:=(r.k,r.b,r.s,r.ws,r.h,r.p,r.t)
def Pc.Like (ds es:List Pc.PcD):Prop:=ds.map Pc.PcD.says=es.map Pc.PcD.says
def toldSay (q:P.PlaceD):Int × ByteArray × Int × List W.WantD × ByteArray × ByteArray × Int:=(1,q.b,q.s,q.ws,{ data:=#[] },{ data:=#[] },0)
def sentD (q:P.PlaceD) (c:Pc.PcRaw):Pc.PcD:=⟨c.k,c.b,c.s,c.a,c.c,q.ws,c.h,c.p,c.t⟩
theorem sn_pco {w:World} {B:Nat} {qs:List P.PlaceD} {cs:List Pc.PcRaw} {v:Value} (h:Sn w B qs cs v) (hl:cs.length=qs.length):∃ ds:List Pc.PcD,PcO w B ds v∧ds.map Pc.PcD.says=qs.map toldSay∧ds.map Pc.raw=cs:=by
 have at_:∀ (j:Nat) d,(List.zipWith sentD qs cs)[j]?=some d→∃ q c,qs[j]?=some q∧cs[j]?=some c∧d=sentD q c∧c=toldP q c.a c.c∧W.Sl w (.slice c.a q.ws.length c.c) q.ws B:=by
  intro j d hd
  rw [List.getElem?_zipWith] at hd
  cases hc:cs[j]? with
  | none=>rw [hc] at hd; cases hq:qs[j]? <;> simp [hq] at hd
  | some c =>
   obtain ⟨q,h1,h2,h3⟩:=h.el j c hc
   rw [hc,h1] at hd
   simp at hd
   exact ⟨q,c,h1,rfl,hd.symm,h2,h3⟩
 have eraw:(List.zipWith sentD qs cs).map Pc.raw=cs:=by
  apply List.ext_getElem?
  intro j
  rw [List.getElem?_map]
  cases hd:(List.zipWith sentD qs cs)[j]? with
  | none =>
   rw [List.getElem?_eq_none_iff] at hd
   rw [List.length_zipWith] at hd
   rw [List.getElem?_eq_none (by omega)]
   rfl
  | some d =>
   obtain ⟨q,c,h1,h2,h3,h4,h5⟩:=at_ j d hd
   rw [h2,h3]
   show some (Pc.raw (sentD q c))=some c
   have e:c.n=q.ws.length:=by rw [h4]; rfl
   obtain ⟨a1,a2,a3,a4,a5,a6,a7,a8,a9⟩:=c
   simp only at e
   subst e
   rfl
 refine ⟨List.zipWith sentD qs cs,⟨?_, ?_, ?_, ?_⟩, ?_,eraw⟩
 ·
  rw [eraw]
  exact Pc.Sl.of_owns h.o
 ·
  intro j d hd
  obtain ⟨q,c,h1,h2,h3,h4,h5⟩:=at_ j d hd
  subst h3
  exact h5
 ·
  intro j d g hd hg
  obtain ⟨q,c,h1,h2,h3,h4,h5⟩:=at_ j d hd
  subst h3
  exact h.nr j c g h2 (by rw [show c.n=q.ws.length by rw [h4]; rfl]; exact hg)
 ·
  intro i j d e g hij hd he hg
  obtain ⟨q,c,h1,h2,h3,h4,h5⟩:=at_ i d hd
  obtain ⟨q',c',h1',h2',h3',h4',h5'⟩:=at_ j e he
  subst h3 h3'
  have:=h.dif i j c c' g hij h2 h2' (by rw [show c.n=q.ws.length by rw [h4]; rfl]; exact hg)
  rw [show c'.n=q'.ws.length by rw [h4']; rfl] at this
  exact this
 apply List.ext_getElem?
 intro j
 rw [List.getElem?_map,List.getElem?_map]
 cases hd:(List.zipWith sentD qs cs)[j]? with
 | none =>
  rw [List.getElem?_eq_none_iff] at hd
  rw [List.length_zipWith] at hd
  rw [List.getElem?_eq_none (by omega)]
  rfl
 | some d =>
  obtain ⟨q,c,h1,h2,h3,h4,h5⟩:=at_ j d hd
  rw [h1,h3]
  show some (Pc.PcD.says (sentD q c))=some (toldSay q)
  rw [h4]
  rfl
theorem sn_lt {w:World} {B:Nat} {qs:List P.PlaceD} {cs:List Pc.PcRaw} {v:Value} (h:Sn w B qs cs v) {ds:List Pc.PcD} (hd:ds.map Pc.raw=cs):∀ g,PcO.bs ds v g→g < w.heap.size:=by
 rintro g (hg | ⟨j,d,hj,hg⟩)
 · exact ((Pc.Sl.of_owns h.o).lt g hg).2
 have hc:cs[j]?=some (Pc.raw d):=by rw [← hd,List.getElem?_map,hj]; rfl
 exact (h.own hc hg).2
structure TkO (w:World) (B:Nat) (gs:List G.GrantD) (qs:List P.PlaceD) (ds:List Pc.PcD) (s1 s2 v:Value):Prop where
 l:LdO w B gs qs s1 s2
 c:PcO w B ds v
 lc:∀ g,LdO.bs qs s1 s2 g→¬ PcO.bs ds v g
theorem TkO.keep {w w':World} {B:Nat} {gs:List G.GrantD} {qs:List P.PlaceD} {ds:List Pc.PcD} {s1 s2 v:Value} (h:TkO w B gs qs ds s1 s2 v) (hb:Below w.heap.size w w'):TkO w' B gs qs ds s1 s2 v:=⟨h.l.keep hb,h.c.keep hb,h.lc⟩
theorem TkO.low {w:World} {B B':Nat} {gs:List G.GrantD} {qs:List P.PlaceD} {ds:List Pc.PcD} {s1 s2 v:Value} (h:TkO w B gs qs ds s1 s2 v) (hB:B'≤B):TkO w B' gs qs ds s1 s2 v:=⟨h.l.low hB,h.c.low hB,h.lc⟩
def TkO.bs (qs:List P.PlaceD) (ds:List Pc.PcD) (s1 s2 v:Value) (g:Nat):Prop:=LdO.bs qs s1 s2 g∨PcO.bs ds v g
theorem TkO.lt {w:World} {B:Nat} {gs:List G.GrantD} {qs:List P.PlaceD} {ds:List Pc.PcD} {s1 s2 v:Value} (h:TkO w B gs qs ds s1 s2 v):∀ g,TkO.bs qs ds s1 s2 v g→B≤g∧g < w.heap.size:=by
 rintro g (hg | hg)
 · exact h.l.lt g hg
 exact h.c.lt g hg
theorem TkO.off {X:Nat→Prop} {w w':World} {B:Nat} {gs:List G.GrantD} {qs:List P.PlaceD} {ds:List Pc.PcD} {s1 s2 v:Value} (h:TkO w B gs qs ds s1 s2 v) (ho:Off X w w') (hn:∀ g,TkO.bs qs ds s1 s2 v g→¬ X g):TkO w' B gs qs ds s1 s2 v :=
 ⟨h.l.off ho (fun g hg=>hn g (Or.inl hg)),h.c.off ho (fun g hg=>hn g (Or.inr hg)),h.lc⟩
def TickSay (t:Int) (gs:List G.GrantD) (ps:List P.PlaceD) (t':Int) (gs':List G.GrantD) (qs:List P.PlaceD) (ds:List Pc.PcD):Prop :=
 (¬ P.LandSay t gs ps∧t'=0∧gs'=[]∧qs=[]∧ds=[])∨(P.LandSay t gs ps∧gs'=gs∧P.Like qs ps∧((2000000≤t∧t'=t∧ds=[])∨(t < 2000000∧t'=t+2∧ds.map Pc.PcD.says=ps.map toldSay)))
theorem tick_one {t:Int} {gs:List G.GrantD} {ps ps':List P.PlaceD} {t1 t2:Int} {g1 g2:List G.GrantD} {q1 q2:List P.PlaceD} {d1 d2:List Pc.PcD} (hl:P.Like ps ps') (h1:TickSay t gs ps t1 g1 q1 d1) (h2:TickSay t gs ps' t2 g2 q2 d2):t1=t2∧g1=g2∧P.Like q1 q2∧Pc.Like d1 d2:=by
 have et:ps.map toldSay=ps'.map toldSay:=by
  have e:∀ l:List P.PlaceD,l.map toldSay=(l.map P.PlaceD.says).map (fun x=>((1,x.1,x.2.1,x.2.2,{ data:=#[] },{ data:=#[] },0):Int × ByteArray × Int × List W.WantD × ByteArray × ByteArray × Int)):=fun l=>by rw [List.map_map]; rfl
  rw [e,e,hl]
 rcases h1 with ⟨n1,rfl,rfl,rfl,rfl⟩ | ⟨y1,rfl,k1,z1⟩
 ·
  rcases h2 with ⟨n2,rfl,rfl,rfl,rfl⟩ | ⟨y2,-⟩
  · exact ⟨rfl,rfl,rfl,rfl⟩
  exact (n1 ((P.like_says hl).2 y2)).elim
 rcases h2 with ⟨n2,-⟩ | ⟨y2,rfl,k2,z2⟩
 · exact (n2 ((P.like_says hl).1 y1)).elim
 refine ⟨?_,rfl,(k1.trans hl).trans k2.symm, ?_⟩
 · rcases z1 with ⟨a1,rfl,-⟩ | ⟨a1,rfl,-⟩ <;> rcases z2 with ⟨a2,rfl,-⟩ | ⟨a2,rfl,-⟩ <;> omega
 rcases z1 with ⟨a1,-,rfl⟩ | ⟨a1,-,e1⟩ <;> rcases z2 with ⟨a2,-,rfl⟩ | ⟨a2,-,e2⟩
 · rfl
 · omega
 · omega
 show d1.map _=d2.map _
 rw [e1,e2,et]
end Go.Proofs.YtcjhlhijdacinaaGreatDoor
