import Derived.Test.YtcjhlhijdacinaaGreatDoorJ10
import Derived.Test.YtcjhlhijdacinaaGreatDoorJ04
import Derived.Maps.AppendAt
import Derived.ArgAppend
import Derived.StillTactics
namespace Go.Proofs.YtcjhlhijdacinaaGreatDoor.G
open Go.RowKit
theorem flat_cellsG {w:World} {g:Nat} {l:List GrantD} (h:RowsAt w g 0 l):∀ j u,(flatR l)[j]?=some u→w.cell? ((⟨g,0,none⟩:Addr).add j)=some u:=by
 intro j u hj
 have hlt:j < l.length * 5:=by rw [← flatR_len]; exact (List.getElem?_eq_some_iff.1 hj).1
 have hk:j / 5 < l.length:=by omega
 have hr:j % 5 < 5:=Nat.mod_lt _ (by decide)
 have e:j / 5 * 5+j % 5=j:=by omega
 have h1:=flatR_at l (j / 5) l[j / 5] (List.getElem?_eq_getElem hk) (j % 5) hr
 rw [e,hj] at h1
 have h2:=h (j / 5) l[j / 5] (List.getElem?_eq_getElem hk) (j % 5) u h1.symm
 rw [Addr.add_mid]
 rw [show 0+j / 5 * 5+j % 5=0+j from by omega] at h2
 exact h2
end Go.Proofs.YtcjhlhijdacinaaGreatDoor.G
namespace Go.Proofs.YtcjhlhijdacinaaGreatDoor
open Go.RowKit
set_option linter.unusedVariables false
theorem owns_low {w:World} {B B' size n:Nat} {e:TypeId} {v:Value} {xs:List Value} (h:w.ownsRow B e size v n xs) (hB:B'≤B):w.ownsRow B' e size v n xs:=by
 obtain ⟨h1,h2 | ⟨g,cap,cur,h3,h4,h5⟩⟩:=h
 · exact ⟨h1,Or.inl h2⟩
 exact ⟨h1,Or.inr ⟨g,cap,cur,h3,Nat.le_trans hB h4,h5⟩⟩
theorem wp_copyE {P:Program} {w:World} {o:Oper} {a:Act} {K:Act→World→Prop} {Q:Exit→Act→World→Prop} (s x:Operand) (t:TypeId)
  (ho:o.op=.call { callee:=.builtin .append,args:=#[s,x],argTypes:=#[t,t] })
  (base:Nat) (e:TypeId) (i:TypeInfo) (z:Value) (size bytes:Nat) (ht:P.underlying t=some (.slice e)) (hi:P.info? e=some i) (hz:i.zero=some z)
  (hsize:i.size=size) (hby:i.bytes=bytes) (hzs:z.cells.size=size) (hsz:0 < size)
  (g0:Nat) (hs:a.eval s=.slice (some ⟨g0,0,none⟩) 0 0) (hown:w.ownsRow base e size (.slice (some ⟨g0,0,none⟩) 0 0) 0 [])
  (b m c:Nat) (news:List Value) (hx:a.eval x=.slice (some ⟨b,0,none⟩) m c) (hl:news.length=m * size) (hnews:∀ j u,news[j]?=some u→w.cell? ((⟨b,0,none⟩:Addr).add j)=some u) (h1:∀ u∈news,u.oneCell'=true)
  (h63:m≤maxLen) (hbytes:m * bytes≤140737488355328) (hbase:base≤w.heap.size)
  (h:∀ v' w',w'.ownsRow base e size v' m news→Below w.heap.size w w'→K (a.put o.dst v') w'):o.wp P a w K Q:=by
 by_cases hm:m=0
 ·
  subst hm
  have hn:news=[]:=List.eq_nil_of_length_eq_zero (by simpa using hl)
  subst hn
  have hr:=run_append_room_cells (P:=P) w t o.type e i ht hi g0 0 0 0 ⟨b,0,none⟩ 0 c [] (by simp) (fun j u hj=>by simp at hj) (fun u hu=>by cases hu) (Nat.le_refl _) (fun j hj=>by simp at hj) (fun j hj=>by simp at hj)
  unfold Oper.wp execOp
  simp only [ho,resolve,invoke,builtin,Sem.run_bind,Sem.run_pure,Result.andThen_ok,List.map_toArray,List.map_cons,List.map_nil,hs,hx,hr]
  exact h _ _ hown bR
 ·
  obtain ⟨v',w',hr,h2,h3⟩:=run_append_arg_grows (P:=P) w t o.type e i z size bytes ht hi hz hsize hby hzs hsz ⟨g0,0,none⟩ 0 0 [] (by simp) (fun j u hj=>by simp at hj) ⟨b,0,none⟩ m c news hl hnews (by omega) (by omega) (by rw [Nat.zero_add]; exact hbytes)
  unfold Oper.wp execOp
  simp only [ho,resolve,invoke,builtin,Sem.run_bind,Sem.run_pure,Result.andThen_ok,List.map_toArray,List.map_cons,List.map_nil,hs,hx,hr]
  exact h v' w' (owns_low (by simpa using h2) hbase) (Below.grown bR h3 (Nat.le_refl _) (fun j hj=>by cases hj))
theorem wp_copyE0 {P:Program} {w:World} {o:Oper} {a:Act} {K:Act→World→Prop} {Q:Exit→Act→World→Prop} (s x:Operand) (t:TypeId)
  (ho:o.op=.call { callee:=.builtin .append,args:=#[s,x],argTypes:=#[t,t] })
  (base:Nat) (e:TypeId) (i:TypeInfo) (size:Nat) (ht:P.underlying t=some (.slice e)) (hi:P.info? e=some i)
  (v:Value) (n:Nat) (xs:List Value) (hs:a.eval s=v) (hown:w.ownsRow base e size v n xs) (hx:a.eval x=.slice none 0 0) (h:K (a.put o.dst v) w):o.wp P a w K Q:=by
 have hrun:=run_append_owned_none (P:=P) (w:=w) base t o.type e i size ht hi v n xs hown
 unfold Oper.wp
 simp [execOp,ho,resolve,invoke,builtin,hs,hx,hrun,Result.andThen]
 exact h
theorem wp_copyE1 {P:Program} {w:World} {o:Oper} {a:Act} {K:Act→World→Prop} {Q:Exit→Act→World→Prop} (s x:Operand) (t:TypeId)
  (ho:o.op=.call { callee:=.builtin .append,args:=#[s,x],argTypes:=#[t,t] })
  (e:TypeId) (i:TypeInfo) (ht:P.underlying t=some (.slice e)) (hi:P.info? e=some i) (g0 b c:Nat) (hs:a.eval s=.slice (some ⟨g0,0,none⟩) 0 0) (hx:a.eval x=.slice (some ⟨b,0,none⟩) 0 c)
  (h:K (a.put o.dst (.slice (some ⟨g0,0,none⟩) 0 0)) w):o.wp P a w K Q:=by
 have hr:=run_append_room_cells (P:=P) w t o.type e i ht hi g0 0 0 0 ⟨b,0,none⟩ 0 c [] (by simp) (fun j u hj=>by simp at hj) (fun u hu=>by cases hu) (Nat.le_refl _) (fun j hj=>by simp at hj) (fun j hj=>by simp at hj)
 unfold Oper.wp execOp
 simp only [ho,resolve,invoke,builtin,Sem.run_bind,Sem.run_pure,Result.andThen_ok,List.map_toArray,List.map_cons,List.map_nil,hs,hx,hr]
 exact h
theorem bld0G (w:World):Sem.run Tryz.prog (Instr.buildSlice 23 0 #[]) w=.ok (.slice (some ⟨w.heap.size,0,none⟩) 0 0) (w.alloc (.cells #[] 40)):=by kernel_rfl
theorem owns_shape {w:World} {B size n:Nat} {e:TypeId} {v:Value} {xs:List Value} (h:w.ownsRow B e size v n xs):∃ a k c,v=.slice a k c:=by
 obtain ⟨-,⟨rfl,-⟩ | ⟨g,cap,cur,rfl,-⟩⟩:=h
 · exact ⟨_,_,_,rfl⟩
 exact ⟨_,_,_,rfl⟩
def slCp:Nat→Nat
 | 0=>6
 | 1=>7
 | 2=>8
 | 3=>9
 | 4=>10
 | 5=>11
 | 6=>12
 | 7=>3
 | _=>0
theorem slCp_inj (i:Nat) (hi:i < 8):∀ j,j < 8→slCp j=slCp i→j=i:=by
 have h:∀ a:_root_.Fin 8,∀ b:_root_.Fin 8,slCp b.1=slCp a.1→b.1=a.1:=by decide
 intro j hj e
 exact h ⟨i,hi⟩ ⟨j,hj⟩ e
theorem slCp_far:∀ j,j≠3→(j < 6∨6+7≤j)→∀ i,i < 8→slCp i≠j:=by
 intro j h1 h2 i hi
 match i,hi with
 | 0,_=>show 6≠j; omega
 | 1,_=>show 7≠j; omega
 | 2,_=>show 8≠j; omega
 | 3,_=>show 9≠j; omega
 | 4,_=>show 10≠j; omega
 | 5,_=>show 11≠j; omega
 | 6,_=>show 12≠j; omega
 | 7,_=>show 3≠j; omega
def C0 (gs:List G.GrantD) (v:Value):Prop:=gs=[]→∀ a n c,v=.slice a n c→c=0
def GCp (bx B:Nat) (b1:Option Addr) (n1:Nat) (t:Int) (gs:List G.GrantD) (w:World):Nat→Value→Prop
 | 0,v=>v=.pointer (some ⟨bx,0,none⟩)
 | 1,v=>v=.int .i64 t
 | 2,v=>∃ g0,v=.slice (some ⟨g0,0,none⟩) 0 0∧w.ownsRow B 40 5 v 0 []
 | 3,v=>v=.pointer (some ⟨bx,1,none⟩)
 | 4,v=>v=.slice b1 gs.length n1
 | 5,v=>OG B gs w v∧C0 gs v
 | 6,v=>∃ a1 c1,v=.agg #[.int .i64 t,.slice a1 gs.length c1,.slice none 0 0]∧OG B gs w (.slice a1 gs.length c1)∧C0 gs (.slice a1 gs.length c1)
 | 7,v=>Bx B w v
 | _,_=>True
theorem GCp.keep {bx B:Nat} {b1:Option Addr} {n1:Nat} {t:Int} {gs:List G.GrantD} {w w':World} (hb:Below w.heap.size w w'):∀ j v,GCp bx B b1 n1 t gs w j v→GCp bx B b1 n1 t gs w' j v
 | 0,_,h=>h
 | 1,_,h=>h
 | 2,_,⟨g0,h1,h2⟩=>⟨g0,h1,G.owns_below h2 hb⟩
 | 3,_,h=>h
 | 4,_,h=>h
 | 5,_,h=>⟨OG.keep h.1 hb,h.2⟩
 | 6,_,⟨a1,c1,h1,h2,h3⟩=>⟨a1,c1,h1,h2.keep hb,h3⟩
 | 7,_,h=>Bx.keep h hb
 | _+8,_,h=>h
structure CpL (w:World) (B Z lb:Nat) (t:Int) (gs:List G.GrantD) (qs:List P.PlaceD) (s1 sv:Value):Prop where
 l:Ld w B lb t gs (qs.map Pr.raw) s1 sv
 zl:lb < Z
 zb:B≤Z
 zw:Z≤w.heap.size
 zg:∀ g,s1.ownBlock=some g→g < Z
 k:∀ (j:Nat) q,qs[j]?=some q→W.Sl w (.slice q.a q.ws.length q.c) q.ws Z
 nr:∀ (j:Nat) q g,qs[j]?=some q→(Value.slice q.a q.ws.length q.c).ownBlock=some g→sv.ownBlock≠some g
 dif:∀ (i j:Nat) q r g,i < j→qs[i]?=some q→qs[j]?=some r→(Value.slice q.a q.ws.length q.c).ownBlock=some g→(Value.slice r.a r.ws.length r.c).ownBlock≠some g
 c:Cps qs
theorem Ld.keep2 {w w':World} {B lb:Nat} {t:Int} {gs:List G.GrantD} {ps:List Pr.PlRaw} {s1 s2:Value} (h:Ld w B lb t gs ps s1 s2) (hb:Below w.heap.size w w'):Ld w' B lb t gs ps s1 s2 :=
 ⟨fun j u hj=>(hb.cell (p:=⟨lb,0+j,none⟩) h.z.2).trans (h.c j u hj),there_keep2 h.f h.z.2 hb,⟨h.z.1,Nat.lt_of_lt_of_le h.z.2 hb.size⟩,h.g.keep hb,h.p.keep hb,h.n1,h.n2⟩
theorem CpL.keep {w w':World} {B Z lb:Nat} {t:Int} {gs:List G.GrantD} {qs:List P.PlaceD} {s1 sv:Value} (h:CpL w B Z lb t gs qs s1 sv) (hb:Below w.heap.size w w'):CpL w' B Z lb t gs qs s1 sv :=
 ⟨h.l.keep2 hb,h.zl,h.zb,Nat.le_trans h.zw hb.size,h.zg,fun j q hq=>(h.k j q hq).keep hb,h.nr,h.dif,h.c⟩
theorem oq_sl {B:Nat} {ps:List Pr.PlRaw} {w:World} {v:Value} (h:OQ B ps w v):Pr.Sl w v ps B:=Pr.Sl.of_owns h
theorem CpL.ldo {w:World} {B Z lb:Nat} {t:Int} {gs:List G.GrantD} {qs:List P.PlaceD} {s1 sv:Value} (h:CpL w B Z lb t gs qs s1 sv):LdO w B gs qs s1 sv:=by
 refine ⟨G.Sl.of_owns h.l.g,⟨oq_sl h.l.p,fun j q hq=>sl_lowW (h.k j q hq) h.zb,h.nr,h.dif,h.c⟩, ?_⟩
 rintro g hg (e | ⟨j,q,hq,e⟩)
 · exact og_oq_ne h.l.g h.l.p g hg e
 have h1:=((h.k j q hq).lt g e).1
 have h2:=h.zg g hg
 omega
theorem CpL.app {w y y':World} {B Z lb:Nat} {t:Int} {gs:List G.GrantD} {qs:List P.PlaceD} {s1 sv sv':Value} {q:P.PlaceD} (h:CpL w B Z lb t gs qs s1 sv) (hb:Below w.heap.size w y) (hv:W.Sl y (.slice q.a q.ws.length q.c) q.ws w.heap.size)
  (hg:y.grownBy y' sv.ownBlock) (ho:OQ B ((qs++[q]).map Pr.raw) y' sv') (hat:sv'.ownBlock=sv.ownBlock∨sv'.ownBlock=some y.heap.size) (hcv:q.ws.length≤q.c):CpL (y'.setCell ⟨lb,2,none⟩ sv') B Z lb t gs (qs++[q]) s1 sv':=by
 have H:=h.keep hb
 have hzw:=h.zw
 have hbs:=hb.size
 have hlb:=H.l.z.2
 have hlb':lb < y'.heap.size:=Nat.lt_of_lt_of_le hlb hg.size
 have hne:some lb≠sv.ownBlock:=fun e=>H.l.n2 e.symm
 have hcl:∀ o,y'.cell? ⟨lb,o,none⟩=y.cell? ⟨lb,o,none⟩:=fun o=>World.cell?_of_block (w:=y) (a:=⟨lb,o,none⟩) (hg.block lb hlb hne)
 have hfl:∀ o,y'.frozen? ⟨lb,o,none⟩=y.frozen? ⟨lb,o,none⟩:=fun o=>World.frozen?_of_block (w:=y) (a:=⟨lb,o,none⟩) (hg.block lb hlb hne)
 have he:Ex lb y' (y'.setCell ⟨lb,2,none⟩ sv'):=(Ex.refl _ _).set _ _
 have hgr:y'.grownBy (y'.setCell ⟨lb,2,none⟩ sv') (some lb):=W.ex_grown he
 have n2':sv'.ownBlock≠some lb:=by
  rcases hat with hat | hat
  · rw [hat]; exact H.l.n2
  rw [hat]; intro e; have:=Option.some.inj e; omega
 have hsv:∀ g,sv.ownBlock=some g→g < w.heap.size:=fun g hg=>((oq_sl h.l.p).lt g hg).2
 have hnew:=hv.lt
 have hold:∀ {j:Nat} {r:P.PlaceD} {g:Nat},qs[j]?=some r→(Value.slice r.a r.ws.length r.c).ownBlock=some g→Z≤g∧g < w.heap.size:=fun hr hg=>(h.k _ _ hr).lt _ hg
 have cases_:∀ {j:Nat} {r:P.PlaceD},(qs++[q])[j]?=some r→qs[j]?=some r∨(j=qs.length∧r=q):=by
  intro j r hr
  rcases Nat.lt_trichotomy j qs.length with hj | hj | hj
  · rw [List.getElem?_append_left hj] at hr; exact Or.inl hr
  ·
   subst hj
   rw [List.getElem?_append_right (Nat.le_refl _),Nat.sub_self] at hr
   simp at hr
   exact Or.inr ⟨rfl,hr.symm⟩
  rw [List.getElem?_append_right (by omega)] at hr
  rw [List.getElem?_eq_none (by simp; omega)] at hr
  cases hr
 -- a row that is no block of the places' and none of the box
 have keepW:∀ {v:Value} {l:List W.WantD} {B0:Nat},W.Sl y v l B0→Z≤B0→(∀ g,v.ownBlock=some g→sv.ownBlock≠some g)→W.Sl (y'.setCell ⟨lb,2,none⟩ sv') v l Z:=by
  intro v l B0 hs hz hn
  have h1:W.Sl y' v l B0:=hs.grown hg (by
   cases hx:v.ownBlock with
   | none=>exact Or.inl rfl
   | some g=>exact Or.inr (fun e=>hn g hx e.symm))
  refine sl_lowW (h1.grown hgr ?_) hz
  cases hx:v.ownBlock with
  | none=>exact Or.inl rfl
  | some g=>exact Or.inr (fun e=>by have:=Option.some.inj e; have:=(hs.lt g hx).1; have:=h.zl; omega)
 have hg1:s1.ownBlock=none∨s1.ownBlock≠sv.ownBlock:=by
  cases hx:s1.ownBlock with
  | none=>exact Or.inl rfl
  | some g=>exact Or.inr (fun e=>og_oq_ne H.l.g H.l.p g hx e.symm)
 refine ⟨⟨?_, ?_,⟨H.l.z.1,Nat.lt_of_lt_of_le hlb' he.size⟩, ?_, ?_,H.l.n1,n2'⟩,h.zl,h.zb,Nat.le_trans (Nat.le_trans H.zw hg.size) he.size,h.zg, ?_, ?_, ?_,cps_app h.c hcv⟩
 ·
  intro j u hj
  have d0:=H.l.c 0 _ rfl
  have d1:=H.l.c 1 _ rfl
  have d2:=H.l.c 2 _ rfl
  simp only [Nat.zero_add] at d0 d1 d2
  rw [Nat.zero_add]
  match j,hj with
  | 0,hj=>cases hj; rw [World.cell?_setCell_other _ _ _ _ (fun h'=>by have:=congrArg Addr.off h'; simp at this),hcl]; exact d0
  | 1,hj=>cases hj; rw [World.cell?_setCell_other _ _ _ _ (fun h'=>by have:=congrArg Addr.off h'; simp at this),hcl]; exact d1
  | 2,hj=>cases hj; exact World.cell?_setCell_same _ _ _ ((hcl 2).trans d2)
  | j+3,hj=>simp at hj
 ·
  intro j hj
  have h0:y'.there lb 0 3:=fun j hj=>⟨by rw [hcl]; exact (H.l.f j hj).1,by rw [hfl]; exact (H.l.f j hj).2⟩
  have h1:=World.there_setCells h0 lb 2 [sv']
  exact h1 j hj
 ·
  exact (OG.grown H.l.g hg hg1).grown hgr (by
   cases hx:s1.ownBlock with
   | none=>exact Or.inl rfl
   | some g=>exact Or.inr (fun e=>H.l.n1 (hx.trans e)))
 ·
  exact OQ.grown ho hgr (by
   cases hx:sv'.ownBlock with
   | none=>exact Or.inl rfl
   | some g=>exact Or.inr (fun e=>n2' (hx.trans e)))
 ·
  intro j r hr
  rcases cases_ hr with hr | ⟨rfl,rfl⟩
  · exact keepW (H.k j r hr) (Nat.le_refl _) (fun g hg=>H.nr j r g hr hg)
  exact keepW hv hzw (fun g hg e=>by have:=(hnew g hg).1; have:=hsv g e; omega)
 ·
  intro j r g hr hx e
  rcases cases_ hr with hr | ⟨rfl,rfl⟩
  ·
   rcases hat with hat | hat
   · exact h.nr j r g hr hx (by rw [← hat]; exact e)
   rw [hat] at e
   have e2:=Option.some.inj e
   have:=(hold hr hx).2
   omega
  have h1:=hnew g hx
  rcases hat with hat | hat
  ·
   rw [hat] at e
   have:=hsv g e
   omega
  rw [hat] at e
  have e2:=Option.some.inj e
  omega
 ·
  intro i j r s g hij hr hs hx
  rcases cases_ hs with hs' | ⟨rfl,rfl⟩
  ·
   rcases cases_ hr with hr' | ⟨hi',-⟩
   · exact h.dif i j r s g hij hr' hs' hx
   have:=(List.getElem?_eq_some_iff.1 hs').1
   omega
  rcases cases_ hr with hr' | ⟨hi',-⟩
  ·
   intro e
   have h1:=(hold hr' hx).2
   have h2:=(hnew g e).1
   omega
  omega
theorem CpL.start {w:World} {B lb:Nat} {t:Int} {gs:List G.GrantD} {a1:Option Addr} {c1:Nat} (h:Ld w B lb t gs [] (.slice a1 gs.length c1) (.slice none 0 0)) (hB:B≤w.heap.size):CpL w B w.heap.size lb t gs [] (.slice a1 gs.length c1) (.slice none 0 0) :=
 ⟨h,h.z.2,hB,Nat.le_refl _,fun g hg=>((G.Sl.of_owns h.g).lt g hg).2,fun j q hq=>by simp at hq,fun j q g hq=>by simp at hq,fun i j q r g _ hq=>by simp at hq,fun q hq=>by cases hq⟩
theorem bld0W (w:World):Sem.run Tryz.prog (Instr.buildSlice 27 0 #[]) w=.ok (.slice (some ⟨w.heap.size,0,none⟩) 0 0) (w.alloc (.cells #[] 56)):=by kernel_rfl
theorem bld1P (b:ByteArray) (s:Int) (a:Option Addr) (n c:Nat) (w:World):Sem.run Tryz.prog (Instr.buildSlice 24 1 #[(0,.agg #[.string b,.int .i64 s,.slice a n c])]) w=.ok (.slice (some ⟨w.heap.size,0,none⟩) 1 1) (w.alloc (.cells #[.string b,.int .i64 s,.slice a n c] 54)):=by kernel_rfl
set_option maxRecDepth 4000 in
set_option maxHeartbeats 4000000 in
theorem l6Copy_z (t:Int) (gs:List G.GrantD) (ps:List P.PlaceD) (b1 b2:Option Addr) (n1 k2:Nat) (w:World) (hG:G.SrcG w b1 n1 gs) (hQ:P.GvP w b2 ps) (hK:∀ r∈ps,W.Src w r.a r.c r.ws) (hgl:gs.length≤1048576) (hpl:ps.length≤1048576) (hln:P.Lns ps) :
  Calls Tryz.prog 24 #[.agg #[.int .i64 t,.slice b1 gs.length n1,.slice b2 ps.length k2]] w fun e w'=>(∃ qs s1 s2,e=.returned (.agg #[.int .i64 t,s1,s2])∧P.Like qs ps∧LdO w' w.heap.size gs qs s1 s2∧CapOk s2∧CapOk s1∧OG w.heap.size gs w' s1∧OQ w.heap.size (qs.map Pr.raw) w' s2∧C0 gs s1)∧Below w.heap.size w w':=by
 have hinfo:(Tryz.prog.info? 26).map (·.size)=some 3:=by kernel_rfl
 obtain ⟨W0,hW0⟩:∃ W0,W0=(w.alloc (.cells #[.int .i64 t,.slice b1 gs.length n1,.slice b2 ps.length k2] 26)).alloc (.cells #[.int .i64 0,.slice none 0 0,.slice none 0 0] 26):=⟨_,rfl⟩
 obtain ⟨B,hBe⟩:∃ B,B=W0.heap.size:=⟨_,rfl⟩
 obtain ⟨bx,hbx⟩:∃ bx,bx=w.heap.size:=⟨_,rfl⟩
 have HBX:=hidP hbx
 have HBz:Hid (B≤W0.heap.size):=by show _≤_; omega
 have HBq:Hid (W0.heap.size≤B):=by show _≤_; omega
 have HW0:=hidP hW0
 have HB0:Hid (Below w.heap.size w W0):=by rw [hW0]; exact bl_alloc (bl_alloc bR _) _
 have Z1:Hid (W0.heap.size=w.heap.size+2):=by rw [hW0]; show _=_; simp
 have K0:Hid (∀ y,Below W0.heap.size W0 y→∀ j,y.cell? ⟨bx,j,none⟩=(#[.int .i64 t,.slice b1 gs.length n1,.slice b2 ps.length k2]:Array Value)[j]?):=by
  intro y hy j
  rw [hbx,hy.cell (p:=⟨w.heap.size,j,none⟩) (by show w.heap.size < _; rw [Z1.out]; omega),hW0]
  simp [go_sem]
 have T1:Hid (∀ y,Below W0.heap.size W0 y→y.heap[bx+1]?=some (.cells #[.int .i64 0,.slice none 0 0,.slice none 0 0] 26 (0,0))):=by
  intro y hy
  refine (hy.block _ (by rw [Z1.out,hbx]; omega)).trans ?_
  rw [hW0,hbx]
  have h:=heap_alloc_newL (w.alloc (.cells #[.int .i64 t,.slice b1 gs.length n1,.slice b2 ps.length k2] 26)) (.cells #[.int .i64 0,.slice none 0 0,.slice none 0 0] 26)
  rw [World.size_alloc] at h
  exact h
 have HR:Hid (∀ y,Below W0.heap.size W0 y→G.SrcG y b1 n1 gs):=fun y hy=>hG.keep (bl_trans HB0.out hy)
 have HP:Hid (∀ y,Below W0.heap.size W0 y→P.GvP y b2 ps):=fun y hy=>hQ.keep (bl_trans HB0.out hy)
 have HSR:Hid (∀ y,Below W0.heap.size W0 y→∀ q∈ps,W.Src y q.a q.c q.ws):=fun y hy q hq=>(hK q hq).keep (bl_trans HB0.out hy)
 have HLN:=hidP hln
 clear hG hQ hK hW0 hln
 go_enter Tryz.func24,Tryz.ntmps24
 go_wp2_with fail
 rw [← hbx]
 clear hbx
 rw [← HW0.out]
 refine wp_region_any (by kernel_rfl) ?_
 refine reg_invT slCp 8 3 (GCp bx B b1 n1 t gs) (fun y=>Below W0.heap.size W0 y) (fun u y=>∃ lb a1 c1,u=.pointer (some ⟨lb,0,none⟩)∧Ld y B lb t gs [] (.slice a1 gs.length c1) (.slice none 0 0)∧Below W0.heap.size W0 y∧C0 gs (.slice a1 gs.length c1)) (by decide) rfl bD ?done ?step
 case done =>
  intro a y hdf hsz hout hE
  obtain ⟨lb,a1,c1,hu,hL,hb,hz0⟩:=hE
  have HZ0:=hidP hz0
  clear hz0
  obtain ⟨l,hl,ha⟩:=frameP_two (lo:=6) (n:=7) (se:=3) hdf hsz (lE rfl) (lE rfl) (fun j hj1 hj2=>hout j (fun i hi=>slCp_far j hj1 hj2 i hi))
  rw [hu] at ha
  obtain ⟨Z,hZ⟩:∃ Z,Z=y.heap.size:=⟨_,rfl⟩
  have HC0:Hid (CpL y B Z lb t gs [] (.slice a1 gs.length c1) (.slice none 0 0)):=by rw [hZ]; exact CpL.start hL (Nat.le_trans HBz.out hb.size)
  have HY:=hidP hb
  clear hL hb hu hdf hsz hout hZ
  subst ha
  obtain ⟨v0,l0,rfl,hl0⟩:=lenP_succ hl
  obtain ⟨v1,l1,rfl,hl1⟩:=lenP_succ hl0
  obtain ⟨v2,l2,rfl,hl2⟩:=lenP_succ hl1
  obtain ⟨v3,l3,rfl,hl3⟩:=lenP_succ hl2
  obtain ⟨v4,l4,rfl,hl4⟩:=lenP_succ hl3
  obtain ⟨v5,l5,rfl,hl5⟩:=lenP_succ hl4
  obtain ⟨v6,l6,rfl,hl6⟩:=lenP_succ hl5
  obtain rfl:=lenP_zero hl6
  simp only [List.setIfInBounds_toArray,List.set_cons_succ,List.set_cons_zero,List.take_succ_cons,List.take_zero,List.drop_succ_cons,List.drop_zero,List.cons_append,List.nil_append,Nat.reduceAdd]
  go_wp2_with fail
  go_loopw [4] (fun i wx=>∃ (k:Nat) (qs:List P.PlaceD) (sv:Value),k≤ps.length∧i=.int .i64 (k:Int)∧Hid (CpL wx B Z lb t gs qs (.slice a1 gs.length c1) sv)∧Hid (P.Like qs (ps.take k))∧Hid (Below W0.heap.size W0 wx)) (fun i _=>ps.length - (intOf i).toNat)
  case atStart=>exact ⟨0,[],.slice none 0 0,Nat.zero_le _,rfl,HC0.out,rfl,HY.out⟩
  obtain ⟨k,qs,sv,hk,rfl,HC,HLk,HBW⟩:=hrel
  have kb2:wr.cell? ⟨bx,2,none⟩=some (.slice b2 ps.length k2):=K0.out wr HBW.out 2
  by_cases hlt:k < ps.length
  ·
   have hki:(k:Int) < (ps.length:Int):=by omega
   obtain ⟨q,hq⟩:∃ q,ps[k]?=some q:=⟨ps[k],List.getElem?_eq_getElem hlt⟩
   obtain ⟨g2,rfl,-,hrp⟩:=(HP.out wr HBW.out).resolve_left (fun h=>by rw [h] at hlt; simp at hlt)
   obtain ⟨r0,r1,r2⟩:=hrp.at hq
   clear hrp
   rw [Nat.zero_add] at r0 r1 r2
   have HQ:=hidP hq
   have hlq:q.ws.length≤1048576:=HLN.out q (List.mem_of_getElem? hq)
   have hql:qs.length=k:=by have:=HLk.out.len; rw [List.length_take] at this; omega
   have HQL:=hidP hql
   obtain ⟨asv,csv,hsv⟩:=OQ.shape HC.out.l.p
   rw [List.length_map,hql] at hsv
   subst hsv
   obtain ⟨Wo,hWo⟩:∃ Wo,Wo=wr.alloc (.cells #[.string q.b,.int .i64 q.s,.slice q.a q.ws.length q.c] 54):=⟨_,rfl⟩
   have HWo:=hidP hWo
   have BWo:Hid (Below wr.heap.size wr Wo):=by rw [hWo]; exact bl_alloc bR _
   have HZo:Hid (Wo.heap.size=wr.heap.size+1):=by rw [hWo]; show _=_; simp
   have HSW:=hidP (HSR.out Wo (bl_trans HBW.out BWo.out) q (List.mem_of_getElem? hq))
   have LX:Hid (∀ y,Below Wo.heap.size Wo y→(∀ j,y.cell? ⟨wr.heap.size,j,none⟩=(#[.string q.b,.int .i64 q.s,.slice q.a q.ws.length q.c]:Array Value)[j]?)∧(∀ j,y.frozen? ⟨wr.heap.size,j,none⟩=false)∧wr.heap.size < y.heap.size):=by
    intro y hb
    rw [hWo] at hb
    refine ⟨fun j=>?_,fun j=>?_, ?_⟩
    ·
     rw [box_keep hb j]
     simp [go_sem]
    ·
     rw [hb.frozen (p:=⟨wr.heap.size,j,none⟩) (by simp)]
     simp [go_sem]
    exact Nat.lt_of_lt_of_le (by simp) hb.size
   have hb0:=bld0W
   have hb1:=bld1P
   clear hq hWo hql
   obtain ⟨i0,hi0,hz0,hz1,hz2⟩:=info_parts Pr.infoR
   have HI0:Hid (Tryz.prog.info? 54=some i0∧i0.zero=some (.agg #[.string ⟨#[]⟩,.int .i64 0,.slice none 0 0])∧i0.size=3∧i0.bytes=48):=⟨hi0,hz0,hz1,hz2⟩
   clear hi0 hz0 hz1 hz2
   have HC2:Hid (∀ y,Below wr.heap.size wr y→(y.cell? ⟨lb,2,none⟩=some (.slice asv k csv)∧y.frozen? ⟨lb,2,none⟩=false∧y.ownsRow B 54 3 (.slice asv k csv) k (Pr.flatR (qs.map Pr.raw)))):=by
    intro y hb
    have h:=HC.out.keep hb
    have h1:=h.l.c 2 _ rfl
    have h2:=(h.l.f 2 (by omega)).2
    have h3:=h.l.p
    unfold OQ at h3
    rw [List.length_map,HQL.out] at h3
    rw [Nat.zero_add] at h1 h2
    exact ⟨h1,h2,h3⟩
   have HLB:=hidP HC.out.l.z.2
   have HNL:Hid (∀ y y':World,Below wr.heap.size wr y→y.grownBy y' (Value.slice asv k csv).ownBlock→y'.cell? ⟨lb,2,none⟩=some (.slice asv k csv)∧y'.frozen? ⟨lb,2,none⟩=false):=by
    intro y y' hb hg
    have h:=HC2.out y hb
    have hne:some lb≠(Value.slice asv k csv).ownBlock:=fun e=>HC.out.l.n2 e.symm
    have hl:lb < y.heap.size:=Nat.lt_of_lt_of_le HLB.out hb.size
    exact ⟨(World.cell?_of_block (w:=y) (a:=⟨lb,2,none⟩) (hg.block lb hl hne)).trans h.1,(World.frozen?_of_block (w:=y) (a:=⟨lb,2,none⟩) (hg.block lb hl hne)).trans h.2.1⟩
   have hne1:¬ (wr.heap.size=lb):=by have:=HLB.out; omega
   have hne2:¬ (lb=wr.heap.size):=by have:=HLB.out; omega
   go_wp2_with (first
    | (at_builtin; rw [← HWo.out]; refine W.wp_copyC Wo rfl _ _ rfl q.ws q.a q.c (by rw [HZo.out]; rfl) rfl HSW.out hlq ?_; intro s' w1 hs' hcp' hb'; obtain ⟨av,cv,rfl⟩:=W.Sl.shape hs'; have HCV:Hid (q.ws.length≤cv):=hcp' _ _ _ rfl; clear hcp'; have HS1:Hid (W.Sl w1 (.slice av q.ws.length cv) q.ws Wo.heap.size):=hs'; have HB1:Hid (Below Wo.heap.size Wo w1):=hb'; obtain ⟨x1,x2,x3⟩:=LX.out w1 hb'; obtain ⟨y1,y2,-⟩:=HC2.out w1 (bl_trans BWo.out hb'); clear hs' hb' r0 r1 r2 kb2)
    | (at_builtin; (have hbX:Below wr.heap.size wr ((w1.setCell ⟨wr.heap.size,2,none⟩ (.slice av q.ws.length cv)).alloc (.cells #[.string q.b,.int .i64 q.s,.slice av q.ws.length cv] 54)):=bl_alloc (bl_set (bl_trans BWo.out HB1.out) (Nat.le_refl _) _) _); (refine wpList_append_own_at _ rfl _ _ 24 rfl B 54 i0 _ 3 48 Tryz.underlying24 HI0.out.1 HI0.out.2.1 HI0.out.2.2.1 HI0.out.2.2.2 rfl (by decide) (.slice asv k csv) k (Pr.flatR (qs.map Pr.raw)) rfl (HC2.out _ hbX).2.2 ⟨w1.heap.size,0,none⟩ 1 1 (Pr.raw ⟨q.b,q.s,av,cv,q.ws⟩).cells rfl rfl (Pr.new_cells _ w1.heap.size (by simp) _ _ _ rfl) (Pr.cellsR_one _) (by unfold maxLen; omega) (by omega) (by have h1:=HBz.out; have h2:=HBW.out.size; have h3:=hbX.size; omega) ?_); intro v' w3 ho3 hg3 hn3 hat3; have HO3:Hid _:=ho3; have HG3:Hid (World.grownBy _ w3 _):=hg3; have HA3:Hid _:=hat3; have HX3:Hid (Below wr.heap.size wr _):=hbX; obtain ⟨z1,z2⟩:=HNL.out _ w3 hbX hg3; obtain ⟨a3,n3,c3,rfl⟩:=owns_shape ho3; clear ho3 hg3 hn3 hat3 hbX))
   have hb4:=HX3.out
   have hsl:W.Sl ((w1.setCell ⟨wr.heap.size,2,none⟩ (.slice av q.ws.length cv)).alloc (.cells #[.string q.b,.int .i64 q.s,.slice av q.ws.length cv] 54)) (.slice av q.ws.length cv) q.ws wr.heap.size:=by
    have h1:W.Sl (w1.setCell ⟨wr.heap.size,2,none⟩ (.slice av q.ws.length cv)) (.slice av q.ws.length cv) q.ws Wo.heap.size:=HS1.out.grown (W.ex_grown ((Ex.refl _ _).set _ _)) (by
     cases hx:(Value.slice av q.ws.length cv).ownBlock with
     | none=>exact Or.inl rfl
     | some g=>exact Or.inr (fun e=>by have h2:=(HS1.out.lt g hx).1; have h3:=Option.some.inj e; have h4:=HZo.out; omega))
    exact (sl_lowW h1 (by have h4:=HZo.out; omega)).keep (bl_alloc bR _)
   have HOQ:OQ B ((qs++[(⟨q.b,q.s,av,cv,q.ws⟩:P.PlaceD)]).map Pr.raw) w3 (.slice a3 n3 c3):=by
    have h1:=HO3.out
    unfold OQ
    have e1:((qs++[(⟨q.b,q.s,av,cv,q.ws⟩:P.PlaceD)]).map Pr.raw)=qs.map Pr.raw++[Pr.raw ⟨q.b,q.s,av,cv,q.ws⟩]:=by rw [List.map_append]; rfl
    rw [e1,Pr.flatR_snoc,List.length_append,List.length_map,HQL.out]
    exact h1
   have hC4:=HC.out.app (q:=⟨q.b,q.s,av,cv,q.ws⟩) hb4 hsl HG3.out HOQ HA3.out HCV.out
   have hB4:Below W0.heap.size W0 (w3.setCell ⟨lb,2,none⟩ (.slice a3 n3 c3)):=Ex.mono (Below.grown (bl_trans HBW.out hb4) HG3.out (bl_trans HBW.out hb4).size (fun j hj=>Nat.le_trans HBq.out (((oq_sl HC.out.l.p).lt j hj).1))) ((Ex.refl _ _).set _ _) (Nat.le_trans HBq.out HC.out.l.z.1)
   refine ⟨⟨k+1,qs++[(⟨q.b,q.s,av,cv,q.ws⟩:P.PlaceD)],.slice a3 n3 c3,by omega,by go_num,hC4, ?_,hB4⟩,by simp [intOf]; omega⟩
   have hr:=HQ.out
   have he:ps[k]=q:=by rw [List.getElem?_eq_getElem hlt] at hr; exact Option.some.inj hr
   have h5:=HLk.out
   show P.Like _ _
   unfold P.Like at h5 ⊢
   rw [List.take_succ_eq_append_getElem hlt,List.map_append,List.map_append,h5,he]
   rfl
  have hk':k=ps.length:=by omega
  obtain ⟨asv,csv,hsv⟩:=OQ.shape HC.out.l.p
  obtain ⟨n2,hn2⟩:∃ n2,n2=(qs.map Pr.raw).length:=⟨_,rfl⟩
  rw [← hn2] at hsv
  subst hsv
  have d0:=HC.out.l.c 0 _ rfl
  have d1:=HC.out.l.c 1 _ rfl
  have d2:=HC.out.l.c 2 _ rfl
  simp only [Nat.zero_add] at d0 d1 d2
  have TW:=hidP (there_land (T1.out wr HBW.out))
  clear hn2
  go_wp2_with (refine wpList_store_mid (by rfl) 26 _ _ (by rfl) (bx+1) 0 #[.int .i64 t,.slice a1 gs.length c1,.slice asv n2 csv] (by rfl) (by rfl) (by exact TW.out) hinfo (by simp [Value.oneCell']) ?_)
  have hrg:=World.rangeAt_setCells_same wr (bx+1) 0 [.int .i64 t,.slice a1 gs.length c1,.slice asv n2 csv] (by exact TW.out)
  have e0:=hrg 0 _ rfl
  have e1:=hrg 1 _ rfl
  have e2:=hrg 2 _ rfl
  simp only [Nat.zero_add] at e0 e1 e2
  have hx:Ex (bx+1) wr (wr.setCells (bx+1) 0 [.int .i64 t,.slice a1 gs.length c1,.slice asv n2 csv]):=(Ex.refl _ _).cells _ _
  have hBw:bx+1 < B:=by have h1:=HBq.out; have h2:=Z1.out; have h3:=HBX.out; omega
  have hL:=(HC.out.ldo).off (off_of_ex hx) (fun g hg e=>by have:=(HC.out.ldo.lt g hg).1; omega)
  refine bodyPost_ret (v:=.agg #[.int .i64 t,.slice a1 gs.length c1,.slice asv n2 csv]) (by simp [results,Tryz.results24,go_sem,e0,e1,e2]) rfl ⟨⟨qs,_,_,rfl, ?_,hL.low (by have h3:=HBX.out; omega),cap_owns HC.out.l.p,cap_owns HC.out.l.g, ?_, ?_,HZ0.out⟩,Ex.mono (bl_trans HB0.out HBW.out) hx (by have h3:=HBX.out; omega)⟩
  ·
   have h5:=HLk.out
   rwa [hk',List.take_length] at h5
  ·
   refine owns_low (OG.grown HC.out.l.g (W.ex_grown hx) ?_) (by have h3:=HBX.out; omega)
   cases hv:(Value.slice a1 gs.length c1).ownBlock with
   | none=>exact Or.inl rfl
   | some g=>exact Or.inr (fun e=>by have h1:=((G.Sl.of_owns HC.out.l.g).lt g hv).1; have h2:=Option.some.inj e; omega)
  refine owns_low (OQ.grown HC.out.l.p (W.ex_grown hx) ?_) (by have h3:=HBX.out; omega)
  cases hv:(Value.slice asv n2 csv).ownBlock with
  | none=>exact Or.inl rfl
  | some g=>exact Or.inr (fun e=>by have h1:=((oq_sl HC.out.l.p).lt g hv).1; have h2:=Option.some.inj e; omega)
 case step =>
  intro listed x y i hI hi hlt8
  have ho:=ready_open hi
  have HJ:=hidP hI
  have HI:=hidP hi
  obtain rfl | rfl | rfl | rfl | rfl | rfl | rfl | rfl | rfl:i=0∨i=1∨i=2∨i=3∨i=4∨i=5∨i=6∨i=7∨i=8:=by omega
  ·
   have hn:=ntr hI.tr ho [6,1,0] 8 rfl rfl
   have e1:x.tmps[1]?.getD undef=.pointer (some ⟨bx,0,none⟩):=ev_tmp (hI.out 1 (fun i hi=>slCp_far 1 (by omega) (by omega) i hi))
   have HD:=hidP (hI.d hn)
   clear hi hI
   refine op9 fun K hK=>?_
   go_simp
   exact hK.out _ _ (HJ.out.same HI.out (by omega) hn (lE rfl) (slCp_inj _ (by omega)) (rfl))
  ·
   have hn:=ntr hI.tr ho [6,1] 8 rfl rfl
   have gf0:=hI.good 0 (by omega) (wO hi) hn
   have e1:x.tmps[6]?.getD undef=.pointer (some ⟨bx,0,none⟩):=ev_tmp gf0
   have k1:y.cell? ⟨bx,0,none⟩=some (.int .i64 t):=K0.out y (hI.d hn) 0
   have HD:=hidP (hI.d hn)
   clear hi hI
   refine op9 fun K hK=>?_
   go_simp
   exact hK.out _ _ (HJ.out.same HI.out (by omega) hn (lE rfl) (slCp_inj _ (by omega)) (rfl))
  ·
   have hn:=ntr hI.tr ho [6,5,2] 8 rfl rfl
   have HD:=hidP (hI.d hn)
   have hb:=bld0G
   clear hi hI
   refine op9 fun K hK=>?_
   go_simp
   have hbl:Below y.heap.size y (y.alloc (.cells #[] 40)):=bl_alloc bR _
   have hw9:B≤y.heap.size:=Nat.le_trans HBz.out HD.out.size
   exact hK.out _ _ (HJ.out.put HI.out (by omega) hn (lE rfl) (slCp_inj _ (by omega)) (⟨y.heap.size,rfl,World.ownsRow_made y #[] 0 hw9 (Nat.zero_le _) rfl⟩) (fun j u _ h=>GCp.keep hbl j u h) (bl_trans HD.out hbl))
  ·
   have hn:=ntr hI.tr ho [6,5,4,3] 8 rfl rfl
   have e1:x.tmps[1]?.getD undef=.pointer (some ⟨bx,0,none⟩):=ev_tmp (hI.out 1 (fun i hi=>slCp_far 1 (by omega) (by omega) i hi))
   have HD:=hidP (hI.d hn)
   clear hi hI
   refine op9 fun K hK=>?_
   go_simp
   exact hK.out _ _ (HJ.out.same HI.out (by omega) hn (lE rfl) (slCp_inj _ (by omega)) (rfl))
  ·
   have hn:=ntr hI.tr ho [6,5,4] 8 rfl rfl
   have gf3:=hI.good 3 (by omega) (wO hi) hn
   have e1:x.tmps[9]?.getD undef=.pointer (some ⟨bx,1,none⟩):=ev_tmp gf3
   have k1:y.cell? ⟨bx,1,none⟩=some (.slice b1 gs.length n1):=K0.out y (hI.d hn) 1
   have HD:=hidP (hI.d hn)
   clear hi hI
   refine op9 fun K hK=>?_
   go_simp
   exact hK.out _ _ (HJ.out.same HI.out (by omega) hn (lE rfl) (slCp_inj _ (by omega)) (rfl))
  ·
   have hn:=ntr hI.tr ho [6,5] 8 rfl rfl
   have gf2:=hI.good 2 (by omega) (wO hi) hn
   have gf4:=hI.good 4 (by omega) (wO hi) hn
   obtain ⟨g0,h0,o0⟩:=gf2
   have h1:x.tmps.getD 10 undef=.slice b1 gs.length n1:=gf4
   have HD:=hidP (hI.d hn)
   have HO:=hidP o0
   clear gf4 o0
   have hw9:B≤y.heap.size:=Nat.le_trans HBz.out HD.out.size
   clear hi hI
   refine op9 fun K hK=>?_
   obtain ⟨i0,hi0,hz0,hz1,hz2⟩:=info_parts G.infoR
   rcases HR.out y HD.out with ⟨n3,n4,n5⟩ | ⟨g1,n3,-,n5⟩
   ·
    refine wp_copyE0 (.tmp 8) (.tmp 10) 23 rfl B 40 i0 5 Tryz.underlying23 hi0 _ 0 [] h0 (by rw [h0] at HO; exact HO.out) (h1.trans (by rw [n3,n4,n5]; rfl)) ?_
    have o9:OG B gs y (.slice (some ⟨g0,0,none⟩) 0 0):=by
     rw [n5]; rw [h0] at HO; exact HO.out
    exact hK.out _ _ (HJ.out.put HI.out (by omega) hn (lE rfl) (slCp_inj _ (by omega)) (⟨o9,fun _ a n c e=>by cases e; rfl⟩) (fun j u _ h=>GCp.keep bR j u h) (bl_trans HD.out bR))
   rw [n3] at h1
   by_cases hgs:gs=[]
   ·
    refine wp_copyE1 (.tmp 8) (.tmp 10) 23 rfl 40 i0 Tryz.underlying23 hi0 g0 g1 n1 h0 (h1.trans (by rw [hgs]; rfl)) ?_
    have o9:OG B gs y (.slice (some ⟨g0,0,none⟩) 0 0):=by
     rw [hgs]; rw [h0] at HO; exact HO.out
    exact hK.out _ _ (HJ.out.put HI.out (by omega) hn (lE rfl) (slCp_inj _ (by omega)) (⟨o9,fun _ a n c e=>by cases e; rfl⟩) (fun j u _ h=>GCp.keep bR j u h) (bl_trans HD.out bR))
   refine wp_copyE (.tmp 8) (.tmp 10) 23 rfl B 40 i0 _ 5 64 Tryz.underlying23 hi0 hz0 hz1 hz2 rfl (by decide) g0 h0 (by rw [h0] at HO; exact HO.out) g1 gs.length n1 (G.flatR gs) h1 (G.flatR_len _) (G.flat_cellsG n5) (G.flatR_one _) (by unfold maxLen; omega) (by omega) hw9 ?_
   intro v9 y9 o9 b9
   exact hK.out _ _ (HJ.out.put HI.out (by omega) hn (lE rfl) (slCp_inj _ (by omega)) (⟨o9,fun h=>absurd h hgs⟩) (fun j u _ h=>GCp.keep b9 j u h) (bl_trans HD.out b9))
  ·
   have hn:=ntr hI.tr ho [6] 8 rfl rfl
   have gf1:=hI.good 1 (by omega) (wO hi) hn
   have gf5:=hI.good 5 (by omega) (wO hi) hn
   have e1:x.tmps[7]?.getD undef=.int .i64 t:=ev_tmp gf1
   have o5:=gf5.1
   have z5:=gf5.2
   obtain ⟨a9,c9,h9⟩:=OG.shape o5
   have e2:x.tmps[11]?.getD undef=_:=ev_tmp h9
   rw [h9] at o5 z5
   have O5:=hidP o5
   have Z5:=hidP z5
   clear h9 o5 gf5 z5
   have HD:=hidP (hI.d hn)
   clear hi hI
   refine op9 fun K hK=>?_
   go_simp
   exact hK.out _ _ (HJ.out.same HI.out (by omega) hn (lE rfl) (slCp_inj _ (by omega)) (⟨a9,c9,rfl,O5.out,Z5.out⟩))
  ·
   have hn:=ntr hI.tr ho [7] 8 rfl rfl
   have HD:=hidP (hI.d hn)
   clear hi hI
   refine op9 fun K hK=>?_
   go_simp
   have hbl:Below y.heap.size y (y.alloc (.cells #[.int .i64 0,.slice none 0 0,.slice none 0 0] 26)):=bl_alloc bR _
   have hw9:B≤y.heap.size:=Nat.le_trans HBz.out HD.out.size
   exact hK.out _ _ (HJ.out.put HI.out (by omega) hn (lE rfl) (slCp_inj _ (by omega)) (⟨y.heap.size,rfl,hw9,by simp,heap_alloc_newL y _⟩) (fun j u _ h=>GCp.keep hbl j u h) (bl_trans HD.out hbl))
  have hn:listed.getD 8 false=false:=noT (fun h=>openT ho h)
  have gf6:=hI.good 6 (by omega) (wO hi) hn
  have gf7:=hI.good 7 (by omega) (wO hi) hn
  obtain ⟨a1,c1,h1,o1,zc⟩:=gf6
  obtain ⟨lb,h2,z1,z2,hl⟩:=gf7
  have HD:=hidP (hI.d hn)
  clear hi hI
  refine op9 fun K hK=>?_
  refine wp_store_mid 26 _ _ rfl lb 0 #[.int .i64 t,.slice a1 gs.length c1,.slice none 0 0] h2 h1 (there_land hl) hinfo (by simp [Value.oneCell']) ?_
  have hE:=ld_put (t:=t) (ps:=[]) (s2:=.slice none 0 0) ⟨z1,z2⟩ hl o1 (World.ownsRow_nil _ _ _ _)
  have hx:Ex lb y (y.setCells lb 0 [.int .i64 t,.slice a1 gs.length c1,.slice none 0 0]):=(Ex.refl _ _).cells _ _
  exact hK.out _ _ (HJ.out.last (u:=undef) HI.out ⟨lb,_,_,h2,hE,Ex.mono HD.out hx (Nat.le_trans HBq.out z1),zc⟩)
end Go.Proofs.YtcjhlhijdacinaaGreatDoor
