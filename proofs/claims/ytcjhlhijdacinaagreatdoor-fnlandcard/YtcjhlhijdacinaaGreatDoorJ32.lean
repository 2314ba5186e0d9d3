import Derived.Test.YtcjhlhijdacinaaGreatDoorJ30
import Derived.Test.YtcjhlhijdacinaaGreatDoorJ31
namespace Go.Proofs.YtcjhlhijdacinaaGreatDoor
open Go.RowKit
set_option linter.unusedVariables false
theorem rng {y:World} {b:Nat} {vs:List Value} (h:y.rangeAt b 0 vs) (j:Nat) {u:Value} (hj:vs[j]?=some u):y.cell? ⟨b,j,none⟩=some u:=by simpa using h j u hj
def pcs (p:TakeP):List Value:=[.int .i64 p.k,.string p.b,.int .i64 0,.slice none 0 0,.string p.h,.string p.c,.int .i64 p.t]
theorem pcs_set {y:World} {px j:Nat} {p p':TakeP} {v:Value} (h:y.rangeAt px 0 (pcs p)) (hf:y.there px 0 7) (hc:pcs p'=(pcs p).set j v) (hj:j < 7):(y.setCell ⟨px,j,none⟩ v).rangeAt px 0 (pcs p'):=by
 intro i u hi
 rw [hc] at hi
 rw [Nat.zero_add]
 by_cases e:j=i
 ·
  subst e
  rw [List.getElem?_set_self (by show j < 7; exact hj)] at hi
  cases hi
  have h0:=h j _ (List.getElem?_eq_getElem (by show j < 7; exact hj))
  rw [Nat.zero_add] at h0
  exact World.cell?_setCell_same _ _ _ h0
 rw [List.getElem?_set_ne e] at hi
 have h0:=h i u hi
 rw [Nat.zero_add] at h0
 rw [World.cell?_setCell_other _ _ _ _ (fun h'=>e (by have:=congrArg Addr.off h'; simp only at this; omega))]
 exact h0
structure DtX (kr b2 b3 lb B px:Nat) (w1:World) (t:Int) (gs:List G.GrantD) (qs:List P.PlaceD) (s1 s2:Value) (p:TakeP) (y:World):Prop where
 c:y.rangeAt lb 0 [.int .i64 t,s1,s2]
 l:LdB y B gs qs s1 s2
 b:y.there b2 0 3
 d:y.there b3 0 7
 pc:y.rangeAt px 0 (pcs p)
 pf:y.there px 0 7
 pt:p.fits
 z:b2 < b3∧b3 < kr∧kr < w1.heap.size∧w1.heap.size≤B∧B≤lb∧lb < px∧px < y.heap.size
 n:∀ g,LdO.bs qs s1 s2 g→g < lb
structure Dt (kr b2 b3 lb B px:Nat) (w1:World) (t:Int) (gs:List G.GrantD) (qs:List P.PlaceD) (s1 s2:Value) (p:TakeP) (q:Int) (y:World):Prop extends DtX kr b2 b3 lb B px w1 t gs qs s1 s2 p y where
 r:Rq y kr q
 e:Ex kr w1 y
section
variable {kr b2 b3 lb B px:Nat} {w1:World} {t:Int} {gs:List G.GrantD} {qs:List P.PlaceD} {s1 s2:Value} {p:TakeP} {q q':Int} {y y':World}
theorem DtX.ex (h:DtX kr b2 b3 lb B px w1 t gs qs s1 s2 p y) (he:Ex kr y y'):DtX kr b2 b3 lb B px w1 t gs qs s1 s2 p y':=by
 obtain ⟨z1,z2,z3,z4,z5,z6,z7⟩:=h.z
 have ho:=off_of_ex he
 exact ⟨range_off h.c ho (by omega) (by omega),h.l.ex he (by omega),there_off h.b ho (by omega) (by omega),there_off h.d ho (by omega) (by omega),range_off h.pc ho z7 (by omega),there_off h.pf ho z7 (by omega),h.pt,⟨z1,z2,z3,z4,z5,z6,Nat.lt_of_lt_of_le z7 he.size⟩,h.n⟩
theorem DtX.ans {X:Nat} {vs:List Value} (h:DtX kr b2 b3 lb B px w1 t gs qs s1 s2 p y) (hX:X=b2∨X=b3):DtX kr b2 b3 lb B px w1 t gs qs s1 s2 p (y.setCells X 0 vs):=by
 obtain ⟨z1,z2,z3,z4,z5,z6,z7⟩:=h.z
 have he:Ex X y (y.setCells X 0 vs):=(Ex.refl _ _).cells _ _
 have ho:=off_of_ex he
 exact ⟨range_off h.c ho (by omega) (by omega),h.l.ex he (by omega),World.there_setCells h.b _ _ _,World.there_setCells h.d _ _ _,range_off h.pc ho z7 (by omega),there_off h.pf ho z7 (by omega),h.pt,⟨z1,z2,z3,z4,z5,z6,Nat.lt_of_lt_of_le z7 he.size⟩,h.n⟩
theorem Dt.ex (h:Dt kr b2 b3 lb B px w1 t gs qs s1 s2 p q y) (he:Ex kr y y') (hr:Rq y' kr q'):Dt kr b2 b3 lb B px w1 t gs qs s1 s2 p q' y':=⟨h.toDtX.ex he,hr,h.e.trans he⟩
theorem Dt.below (h:Dt kr b2 b3 lb B px w1 t gs qs s1 s2 p q y) (hb:Below y.heap.size y y'):Dt kr b2 b3 lb B px w1 t gs qs s1 s2 p q y':=h.ex (Ex.of_below hb) (h.r.below hb)
theorem Dt.up (h:Dt kr b2 b3 lb B px w1 t gs qs s1 s2 p q y) (hq:q≤q'):Dt kr b2 b3 lb B px w1 t gs qs s1 s2 p q' y:=⟨h.toDtX,h.r.up hq,h.e⟩
theorem DtX.cs (h:DtX kr b2 b3 lb B px w1 t gs qs s1 s2 p y):y.cell? ⟨lb,0,none⟩=some (.int .i64 t)∧y.cell? ⟨lb,1,none⟩=some s1∧y.cell? ⟨lb,2,none⟩=some s2 :=
 ⟨h.c 0 _ rfl,by simpa using h.c 1 _ rfl,by simpa using h.c 2 _ rfl⟩
theorem DtX.ps (h:DtX kr b2 b3 lb B px w1 t gs qs s1 s2 p y):(y.cell? ⟨px,1,none⟩=some (.string p.b)∧y.cell? ⟨px,4,none⟩=some (.string p.h)∧y.cell? ⟨px,5,none⟩=some (.string p.c)∧y.cell? ⟨px,6,none⟩=some (.int .i64 p.t))∧∀ j,j < 7→y.frozen? ⟨px,j,none⟩=false :=
 ⟨⟨by simpa using h.pc 1 _ rfl,by simpa using h.pc 4 _ rfl,by simpa using h.pc 5 _ rfl,by simpa using h.pc 6 _ rfl⟩,fun j hj=>by simpa using (h.pf j hj).2⟩
theorem DtX.put {j:Nat} {p':TakeP} {v:Value} (h:DtX kr b2 b3 lb B px w1 t gs qs s1 s2 p y) (hc:pcs p'=(pcs p).set j v) (hj:j < 7) (hp:p'.fits):DtX kr b2 b3 lb B px w1 t gs qs s1 s2 p' (y.setCell ⟨px,j,none⟩ v):=by
 obtain ⟨z1,z2,z3,z4,z5,z6,z7⟩:=h.z
 have he:Ex px y (y.setCell ⟨px,j,none⟩ v):=(Ex.refl _ _).set _ _
 have ho:=off_of_ex he
 exact ⟨range_off h.c ho (by omega) (by omega),h.l.off ho (fun g hg e=>by have:=h.n g hg; omega),there_off h.b ho (by omega) (by omega),there_off h.d ho (by omega) (by omega),pcs_set h.pc h.pf hc hj,World.there_setCells h.pf px j [v],hp,⟨z1,z2,z3,z4,z5,z6,Nat.lt_of_lt_of_le z7 he.size⟩,h.n⟩
theorem Dt.put {j:Nat} {p':TakeP} {v:Value} (h:Dt kr b2 b3 lb B px w1 t gs qs s1 s2 p q y) (hc:pcs p'=(pcs p).set j v) (hj:j < 7) (hp:p'.fits):Dt kr b2 b3 lb B px w1 t gs qs s1 s2 p' q (y.setCell ⟨px,j,none⟩ v):=by
 obtain ⟨z1,z2,z3,z4,z5,z6,z7⟩:=h.z
 have he:Ex px y (y.setCell ⟨px,j,none⟩ v):=(Ex.refl _ _).set _ _
 exact ⟨h.toDtX.put hc hj hp,h.r.grown (W.ex_grown he) (fun k e=>by cases e; omega),Ex.other h.e he (by omega)⟩
theorem LdB.at {n c k:Nat} {a:Option Addr} (h:LdB y B gs qs s1 (.slice a n c)) (hk:k < qs.length):∃ g x,a=some ⟨g,0,none⟩∧qs[k]?=some x∧n=qs.length∧y.cell? ⟨g,k * 3,none⟩=some (.string x.b)∧y.cell? ⟨g,k * 3+2,none⟩=some (.slice x.a x.ws.length x.c):=by
 rcases h.o with ⟨-,e⟩ | ⟨g,cap,e,-,h2,h3,-⟩
 · rw [List.map_eq_nil_iff] at e; rw [e] at hk; simp at hk
 cases e
 obtain ⟨c0,-,c2⟩:=h3.at (k:=k) (r:=Pr.raw qs[k]) (by rw [List.getElem?_map,List.getElem?_eq_getElem hk]; rfl)
 simp only [Nat.zero_add] at c0 c2
 exact ⟨g,qs[k],rfl,List.getElem?_eq_getElem hk,List.length_map ..,c0,c2⟩
theorem LdB.want {k j:Nat} {x:P.PlaceD} (h:LdB y B gs qs s1 s2) (hk:qs[k]?=some x) (hj:j < x.ws.length):∃ g r,x.a=some ⟨g,0,none⟩∧x.ws[j]?=some r∧y.cell? ⟨g,j * 7,none⟩=some (.string r.c)∧y.cell? ⟨g,j * 7+1,none⟩=some (.int .i64 r.v)∧y.cell? ⟨g,j * 7+2,none⟩=some (.string r.h)∧y.cell? ⟨g,j * 7+3,none⟩=some (.int .i64 r.p)∧y.cell? ⟨g,j * 7+4,none⟩=some (.int .i64 r.s)∧y.cell? ⟨g,j * 7+5,none⟩=some (.int .i64 r.d)∧y.cell? ⟨g,j * 7+6,none⟩=some (.int .i64 r.g):=by
 rcases h.k x (List.mem_of_getElem? hk) with ⟨-,e⟩ | ⟨g,cap,e,-,h2,h3,-⟩
 · rw [e] at hj; simp at hj
 have:=h3.at (List.getElem?_eq_getElem hj)
 simp only [Nat.zero_add] at this
 refine ⟨g,x.ws[j], ?_,List.getElem?_eq_getElem hj,this⟩
 cases hp:x.a
 · rw [hp] at e; cases e
 rw [hp] at e; cases e; rfl
theorem LdB.grant {n c k:Nat} {a:Option Addr} {r:G.GrantD} (h:LdB y B gs qs (.slice a n c) s2) (hr:gs[k]?=some r):∃ g,a=some ⟨g,0,none⟩∧n=gs.length∧y.cell? ⟨g,k * 5+1,none⟩=some (.string r.b)∧y.cell? ⟨g,k * 5+3,none⟩=some (.int .i64 r.t):=by
 obtain ⟨g,cap,hv,-,h3,-⟩:=h.g.row hr
 cases hv
 obtain ⟨-,c1,-,c3,-⟩:=h3.at hr
 simp only [Nat.zero_add] at c1 c3
 exact ⟨g,rfl,rfl,c1,c3⟩
end
def LT3:List Nat:=[15,16,17,18,19,20,21,22,23,24,25,26,27,28,29,30,31,32,33,34,35,36,6,100023]
def GT3 (Z kr:Nat) (y:World) (V:Nat→Value):Nat→Prop
 | 0=>Tab 3 (Nm 1 6) Z 8 y (V 0)
 | 1=>V 1=.pointer (some ⟨kr,0,none⟩)
 | 2=>Nm 0 (8 - 1) (V 2)
 | 3=>Cel 3 (Nm 1 6) Z y (V 3)
 | 4=>Nm 1 6 (V 4)
 | 5=>Tab 9 (Tx 4) Z 2 y (V 5)
 | 6=>V 6=.pointer (some ⟨kr,0,none⟩)
 | 7=>Nm 0 (2 - 1) (V 7)
 | 8=>Cel 9 (Tx 4) Z y (V 8)
 | 9=>Tx 4 (V 9)
 | 10=>Tab 9 (Tx 4) Z 3 y (V 10)
 | 11=>V 11=.pointer (some ⟨kr,0,none⟩)
 | 12=>Nm 0 (3 - 1) (V 12)
 | 13=>Cel 9 (Tx 4) Z y (V 13)
 | 14=>Tx 4 (V 14)
 | 15=>V 15=.pointer (some ⟨kr,0,none⟩)
 | 16=>Nm 0 (4 - 1) (V 16)
 | 17=>Tx 1 (V 17)
 | 18=>Tx 4 (V 18)
 | 19=>V 19=.pointer (some ⟨kr,0,none⟩)
 | 20=>Nm 0 (60 - 1) (V 20)
 | 21=>∃ p:TakeP,V 21=.agg #[.int .i64 p.k,.string p.b,.int .i64 0,.slice none 0 0,.string p.h,.string p.c,.int .i64 p.t]∧p.fits
 | 22=>∃ X,V 22=.pointer (some ⟨X,0,none⟩)∧Z≤X∧BoxT 29 7 y X
 | 23=>∃ X p,V 22=.pointer (some ⟨X,0,none⟩)∧p.fits∧y.rangeAt X 0 (pcs p)∧y.there X 0 7∧Z≤X
 | _=>True
theorem GT3.keep {Z kr k:Nat} {y y':World} {V:Nat→Value} (hf:(fun | 23=>Fs 29 7 Z | _=>Fa Z:Nat→World→World→Prop) k y y'):∀ j,k≠j→GT3 Z kr y V j→GT3 Z kr y' V j:=by
 have hb:Fb 29 Z y y'∧(k=23∧Fs 29 7 Z y y'∨Fa Z y y'):=by
  by_cases e:k=23
  · subst e; exact ⟨Fs.fb hf,Or.inl ⟨rfl,hf⟩⟩
  have h:Fa Z y y':=by
   revert hf
   split
   · exact absurd rfl e
   exact id
  exact ⟨Or.inl h,Or.inr h⟩
 obtain ⟨hb,hc⟩:=hb
 intro j hne h
 match j,h with
 | 0,h=>exact Tab.keep h (by decide) hb
 | 1,h=>exact h
 | 2,h=>exact h
 | 3,h=>exact Cel.keep h (by decide) hb
 | 4,h=>exact h
 | 5,h=>exact Tab.keep h (by decide) hb
 | 6,h=>exact h
 | 7,h=>exact h
 | 8,h=>exact Cel.keep h (by decide) hb
 | 9,h=>exact h
 | 10,h=>exact Tab.keep h (by decide) hb
 | 11,h=>exact h
 | 12,h=>exact h
 | 13,h=>exact Cel.keep h (by decide) hb
 | 14,h=>exact h
 | 15,h=>exact h
 | 16,h=>exact h
 | 17,h=>exact h
 | 18,h=>exact h
 | 19,h=>exact h
 | 20,h=>exact h
 | 21,h=>exact h
 | 22,h =>
  obtain ⟨X,h1,h2,h3⟩:=h
  refine ⟨X,h1,h2, ?_⟩
  rcases hc with ⟨-,hc⟩ | hc
  · exact h3.fs hc
  exact h3.fa h2 hc
 | 23,h =>
  obtain ⟨X,p,h1,h2,h3,h4,h5⟩:=h
  rcases hc with ⟨e,-⟩ | hc
  · exact absurd e hne
  exact ⟨X,p,h1,h2,range_off h3 hc (there_lt h4) (by omega),there_off h4 hc (there_lt h4) (by omega),h5⟩
 | _+24,h=>exact h
def LT17:List Nat:=[96,97,98,99,100,101,102,103,104,105,106,100011]
def GT17 (Z kr b2 b3 lb B px:Nat) (w1:World) (t:Int) (gs:List G.GrantD) (qs:List P.PlaceD) (s2:Value) (g n c k:Nat) (y:World) (V:Nat→Value):Nat→Prop
 | 0=>V 0=.pointer (some ⟨lb,1,none⟩)
 | 1=>V 1=.slice (some ⟨g,0,none⟩) n c
 | 2=>V 2=.int .i64 (k:Int)
 | 3=>V 3=.pointer (some ⟨g,k * 5,none⟩)
 | 4=>V 4=.pointer (some ⟨g,k * 5+3,none⟩)
 | 5=>∃ z,V 5=.int .i64 z
 | 6=>V 6=.pointer (some ⟨kr,0,none⟩)
 | 7=>Nm 0 (3 - 1) (V 7)
 | 8=>∃ z,V 8=.int .i64 z
 | 9=>∃ z,V 9=.int .i64 z
 | 10=>V 10=.pointer (some ⟨px,6,none⟩)
 | 11=>∃ p,DtX kr b2 b3 lb B px w1 t gs qs (.slice (some ⟨g,0,none⟩) n c) s2 p y
 | _=>True
theorem GT17.keep {Z kr b2 b3 lb B px:Nat} {w1:World} {t:Int} {gs:List G.GrantD} {qs:List P.PlaceD} {s2:Value} {g n c k:Nat} {i:Nat} {y y':World} {V:Nat→Value} (hk:kr < Z) (hf:Fv kr Z 11 i y y'):∀ j,i≠j→GT17 Z kr b2 b3 lb B px w1 t gs qs s2 g n c k y V j→GT17 Z kr b2 b3 lb B px w1 t gs qs s2 g n c k y' V j:=by
 have hb:Fb 26 Z y y':=Or.inl (hf.fa hk)
 intro j hne h
 match j,h with
 | 0,h=>exact h
 | 1,h=>exact h
 | 2,h=>exact h
 | 3,h=>exact h
 | 4,h=>exact h
 | 5,h=>exact h
 | 6,h=>exact h
 | 7,h=>exact h
 | 8,h=>exact h
 | 9,h=>exact h
 | 10,h=>exact h
 | 11,h =>
  obtain ⟨p,h⟩:=h
  exact ⟨p,h.ex (hf.ex hne)⟩
 | _+12,h=>exact h
def LT25:List Nat:=[135,136,100002,100003]
def GT25 (b2 b3:Nat) (t:Int) (s1 s2:Value) (p:TakeP) (y:World) (V:Nat→Value):Nat→Prop
 | 0=>V 0=.agg #[.int .i64 t,s1,s2]
 | 1=>V 1=.agg #[.int .i64 p.k,.string p.b,.int .i64 0,.slice none 0 0,.string p.h,.string p.c,.int .i64 p.t]
 | 2=>y.rangeAt b2 0 [.int .i64 t,s1,s2]
 | 3=>y.rangeAt b3 0 (pcs p)
 | _=>True
def F25 (b2 b3 i:Nat) (y y':World):Prop:=if i=2 then Ex b2 y y' else if i=3 then Ex b3 y y' else y'=y
theorem GT25.keep {b2 b3:Nat} {t:Int} {s1 s2:Value} {p:TakeP} {i:Nat} {y y':World} {V:Nat→Value} (hb:b2≠b3) (hf:F25 b2 b3 i y y'):∀ j,i≠j→GT25 b2 b3 t s1 s2 p y V j→GT25 b2 b3 t s1 s2 p y' V j:=by
 intro j hne h
 unfold F25 at hf
 match j,h with
 | 0,h=>exact h
 | 1,h=>exact h
 | 2,h =>
  rw [if_neg hne] at hf
  split at hf
  · exact range_off h (off_of_ex hf) (World.block_lt_of_cell? y _ (h 0 _ rfl)) hb
  rw [hf]; exact h
 | 3,h =>
  by_cases e:i=2
  ·
   rw [if_pos e] at hf
   exact range_off h (off_of_ex hf) (World.block_lt_of_cell? y _ (h 0 _ rfl)) (fun e=>hb e.symm)
  rw [if_neg e,if_neg hne] at hf
  rw [hf]; exact h
 | _+4,h=>exact h
def D25 (kr b2 b3 lb B px:Nat) (w1:World) (t:Int) (gs:List G.GrantD) (qs:List P.PlaceD) (s1 s2:Value) (p:TakeP) (w:World) (c:Nat) (S:Nat→Bool) (y:World):Prop:=DtX kr b2 b3 lb B px w1 t gs qs s1 s2 p y∧Below w.heap.size w y
theorem bl_cells9 {w y:World} {X:Nat} {vs:List Value} (h:Below w.heap.size w y) (hX:w.heap.size≤X):Below w.heap.size w (y.setCells X 0 vs):=(h.trans (((Ex.refl X y).cells vs 0).below hX h.size))
theorem bl_ex9 {w w1 y:World} {kr:Nat} (h:Below w.heap.size w w1) (he:Ex kr w1 y) (hk:w.heap.size≤kr):Below w.heap.size w y:=h.trans (he.below hk h.size)
set_option maxRecDepth 4000 in
set_option maxHeartbeats 4000000 in
theorem drawTake (a:Option Addr) (n cap:Nat) (zs:List Int) (w:World) (hc:CodeIn w a n zs) (hn:n≤1048576) (hcap:n≤cap) :
  Calls Tryz.prog 4 #[.slice a n cap] w fun e w'=>∃ t gs qs a1 a2 c1 c2 p,e=.returned (.tuple #[.agg #[.int .i64 t,.slice a1 gs.length c1,.slice a2 qs.length c2],.agg #[.int .i64 p.k,.string p.b,.int .i64 0,.slice none 0 0,.string p.h,.string p.c,.int .i64 p.t]])∧P.LandZ w' gs qs a1 a2 c1∧P.Fit gs qs∧TakeP.fits p∧Below w.heap.size w w':=by
 have hinfo:(Tryz.prog.info? 26).map (·.size)=some 3:=by kernel_rfl
 have hinfp:(Tryz.prog.info? 29).map (·.size)=some 7:=by kernel_rfl
 have HCO:=hidP hc
 clear hc
 go_enter Tryz.func4,Tryz.ntmps4
 go_wp2_with fail
 obtain ⟨W1,hW1⟩:∃ W1,W1=(w.alloc (.cells #[.int .i64 0,.slice none 0 0,.slice none 0 0] 26)).alloc (.cells #[.int .i64 0,.string ⟨#[]⟩,.int .i64 0,.slice none 0 0,.string ⟨#[]⟩,.string ⟨#[]⟩,.int .i64 0] 29):=⟨_,rfl⟩
 have B1:Below w.heap.size w W1:=by rw [hW1]; exact bl_alloc (bl_alloc bR _) _
 have T1:W1.there w.heap.size 0 3:=by rw [hW1]; exact fun j hj=>⟨by simp [go_sem]; omega,by simp [go_sem]⟩
 have T2:W1.there (w.heap.size+1) 0 7:=by rw [hW1]; exact fun j hj=>⟨by simp [go_sem]; omega,by simp [go_sem]⟩
 have z1:W1.heap.size=w.heap.size+2:=by rw [hW1]; simp
 rw [← hW1]
 refine (openQ a n cap zs W1 (HCO.out.bel B1) hn hcap).mono ?_
 rintro e w1 ⟨rfl,hr1,hb1⟩
 obtain ⟨kr,hkr⟩:∃ kr,kr=W1.heap.size:=⟨_,rfl⟩
 rw [← hkr] at hr1 ⊢
 have hk1:=hr1.lt
 have B2:Below w.heap.size w w1:=bl_trans B1 hb1
 have T3:=there_keep2 T1 (by omega) hb1
 have T4:=there_keep2 T2 (by omega) hb1
 clear HCO B1 hb1 T1 T2 hW1
 have HR1:=hidP hr1
 have HT:Hid (Below w.heap.size w w1∧w1.there w.heap.size 0 3∧w1.there (w.heap.size+1) 0 7):=⟨B2,T3,T4⟩
 have hkw:w.heap.size+1 < kr:=by omega
 have hww:w.heap.size+1 < w1.heap.size:=by omega
 clear hr1 B2 T3 T4 hkr z1
 go_wp2_with fail
 refine (any6 kr 0 w1 HR1.out (by omega)).mono ?_
 rintro e w2 ⟨t,gs,qs,s1,s2,rfl,hl,hF,hr2,he2⟩
 obtain ⟨d1,k1,rfl⟩:=G.Sl.shape hl.g
 obtain ⟨d2,k2,hs2⟩:=Pr.Sl.shape hl.o
 rw [List.length_map] at hs2
 subst hs2
 have HF:=hidP hF
 obtain ⟨lb,hlb⟩:∃ lb,lb=w2.heap.size:=⟨_,rfl⟩
 have hBl:w1.heap.size≤lb:=by rw [hlb]; exact he2.size
 have K0:Hid (∀ y,y=w2.alloc (.cells #[.int .i64 t,.slice d1 gs.length k1,.slice d2 qs.length k2] 26)→(y.rangeAt lb 0 [.int .i64 t,.slice d1 gs.length k1,.slice d2 qs.length k2]∧LdB y w1.heap.size gs qs (.slice d1 gs.length k1) (.slice d2 qs.length k2)∧y.there w.heap.size 0 3∧y.there (w.heap.size+1) 0 7∧Rq y kr 400000∧Ex kr w1 y∧lb < y.heap.size)∧∀ g,LdO.bs qs (.slice d1 gs.length k1) (.slice d2 qs.length k2) g→g < lb):=by
  rintro y rfl
  have hb2:Below w2.heap.size w2 (w2.alloc (.cells #[.int .i64 t,.slice d1 gs.length k1,.slice d2 qs.length k2] 26)):=bl_alloc bR _
  have he3:=he2.trans (Ex.of_below hb2)
  rw [hlb]
  refine ⟨⟨fun j u hj=>by rw [← hj]; simp [go_sem],hl.ex (Ex.of_below (kr:=kr) hb2) hk1,there_off HT.out.2.1 (off_of_ex he3) (by omega) (by omega),there_off HT.out.2.2 (off_of_ex he3) (by omega) (by omega),(hr2.below hb2).up (by omega),he3,by simp⟩, ?_⟩
  rintro g (hg | hg | ⟨j,q,hq,hg⟩)
  · exact (hl.g.lt g hg).2
  · exact (hl.o.lt g hg).2
  exact ((hl.k q (List.mem_of_getElem? hq)).lt g hg).2
 clear HR1 hl hF hr2 he2
 go_wp2_with fail
 obtain ⟨w3,hw3⟩:∃ y,y=w2.alloc (.cells #[.int .i64 t,.slice d1 gs.length k1,.slice d2 qs.length k2] 26):=⟨_,rfl⟩
 obtain ⟨⟨kc,kl,kb,kd,kq,ke,kz⟩,kn⟩:=K0.out w3 hw3
 rw [← hlb,← hw3]
 have K3:Hid (∀ y,Ex kr w3 y→y.rangeAt lb 0 [.int .i64 t,.slice d1 gs.length k1,.slice d2 qs.length k2]∧LdB y w1.heap.size gs qs (.slice d1 gs.length k1) (.slice d2 qs.length k2)∧y.there w.heap.size 0 3∧y.there (w.heap.size+1) 0 7∧Ex kr w1 y):=fun y hy=>⟨range_off kc (off_of_ex hy) kz (by omega),kl.ex hy hk1,there_off kb (off_of_ex hy) (by omega) (by omega),there_off kd (off_of_ex hy) (by omega) (by omega),ke.trans hy⟩
 have KN:=hidP kn
 have HQ3:=hidP kq
 obtain ⟨Z,hZ⟩:∃ Z,Z=w3.heap.size:=⟨_,rfl⟩
 have hkZ:kr < Z:=by omega
 clear K0 hw3 kc kl kb kd kq ke kn hlb
 have hD:∀ i c S y,Dz kr 400000 w3 c S y→Dz kr 400000 w3 (c+1) (sset S i) y:=fun i c S y h=>h.up
 have hnx:∀ {ops:Array Oper} i,Nx kr 400000 ops (Dz kr 400000 w3) i:=fun i=>Dz.nx i
 have hZs:∀ c S y,Dz kr 400000 w3 c S y→Z≤y.heap.size:=fun c S y h=>by rw [hZ]; exact h.e.size
 have hFx:∀ y y',Ex kr y y'→Fa Z y y':=fun _ _ h=>Fa.ex h hkZ
 have hq1:(400000:Int)+200 * (LT3.length:Int) < 1000000:=by show (400000:Int)+200 * ((24:Nat):Int) < 1000000; omega
 refine wp_region_any (by kernel_rfl) ?_
 refine reg_invZ LT3 (GT3 Z kr) (Dz kr 400000 w3) (fun | 23=>Fs 29 7 Z | _=>Fa Z) (by kernel_rfl) (fun i j y y' V S hne _ _ hf h=>GT3.keep hf j hne h) ⟨(HQ3.out.below bD).up (by omega),Ex.of_below bD⟩ ?ct1 ?done1
 case ct1 =>
  intro i hi
  match i,hi with
  | 0,_ =>
   exact ctTab (hnx _) hZs #[.int .i64 2,.int .i64 2,.int .i64 2,.int .i64 4,.int .i64 4,.int .i64 6,.int .i64 1,.int .i64 3] rfl rfl rfl (fun _ _=>by kernel_rfl) (nmAll (a:=1) (b:=6) (by kernel_rfl)) hFx (fun _ _ h=>h)
  | 1,_ =>
   exact ctOut (hD _) (Fa.refl _) rfl rfl rfl rfl rfl rfl (fun _ _ e=>e)
  | 2,_ =>
   exact ctPick (hnx _) 8 (by omega) (by omega) hq1 1 rfl rfl rfl rfl rfl rfl (fun _ _ h=>h) hFx (fun _ _ h=>h)
  | 3,_ =>
   exact ctIxI (hD _) (Fa.refl _) 0 2 rfl rfl rfl rfl rfl rfl rfl rfl (fun _ _ h=>h) (fun _ _ h=>nm_nat h (by omega) (by omega)) (fun _ _ h=>h)
  | 4,_ =>
   exact ctLdI (hD _) (Fa.refl _) 3 rfl rfl rfl rfl rfl rfl (fun _ _ h=>h) (fun _ _ h=>h)
  | 5,_ =>
   exact ctTab (hnx _) hZs #[.string ⟨#[97]⟩,.string ⟨#[98]⟩] rfl rfl rfl (fun _ _=>by kernel_rfl) (txAll (m:=4) (by kernel_rfl)) hFx (fun _ _ h=>h)
  | 6,_ =>
   exact ctOut (hD _) (Fa.refl _) rfl rfl rfl rfl rfl rfl (fun _ _ e=>e)
  | 7,_ =>
   exact ctPick (hnx _) 2 (by omega) (by omega) hq1 6 rfl rfl rfl rfl rfl rfl (fun _ _ h=>h) hFx (fun _ _ h=>h)
  | 8,_ =>
   exact ctIxS (hD _) (Fa.refl _) 5 7 rfl rfl rfl rfl rfl rfl rfl rfl (fun _ _ h=>h) (fun _ _ h=>nm_nat h (by omega) (by omega)) (fun _ _ h=>h)
  | 9,_ =>
   exact ctLdS (hD _) (Fa.refl _) 8 rfl rfl rfl rfl rfl rfl (fun _ _ h=>h) (fun _ _ h=>h)
  | 10,_ =>
   exact ctTab (hnx _) hZs #[.string ⟨#[105,112]⟩,.string ⟨#[118,111,108]⟩,.string ⟨#[118,111,108,50]⟩] rfl rfl rfl (fun _ _=>by kernel_rfl) (txAll (m:=4) (by kernel_rfl)) hFx (fun _ _ h=>h)
  | 11,_ =>
   exact ctOut (hD _) (Fa.refl _) rfl rfl rfl rfl rfl rfl (fun _ _ e=>e)
  | 12,_ =>
   exact ctPick (hnx _) 3 (by omega) (by omega) hq1 11 rfl rfl rfl rfl rfl rfl (fun _ _ h=>h) hFx (fun _ _ h=>h)
  | 13,_ =>
   exact ctIxS (hD _) (Fa.refl _) 10 12 rfl rfl rfl rfl rfl rfl rfl rfl (fun _ _ h=>h) (fun _ _ h=>nm_nat h (by omega) (by omega)) (fun _ _ h=>h)
  | 14,_ =>
   exact ctLdS (hD _) (Fa.refl _) 13 rfl rfl rfl rfl rfl rfl (fun _ _ h=>h) (fun _ _ h=>h)
  | 15,_ =>
   exact ctOut (hD _) (Fa.refl _) rfl rfl rfl rfl rfl rfl (fun _ _ e=>e)
  | 16,_ =>
   exact ctPick (hnx _) 4 (by omega) (by omega) hq1 15 rfl rfl rfl rfl rfl rfl (fun _ _ h=>h) hFx (fun _ _ h=>h)
  | 17,_ =>
   exact ctDec (hnx _) 16 rfl rfl rfl rfl rfl rfl (fun _ _ h=>nm_up h) hFx (fun _ _ h=>h)
  | 18,_ =>
   refine ctp (hD _) (Fa.refl _) rfl rfl rfl fun x y c S yy g oo dd K hK=>?_
   obtain ⟨s,e1,hs⟩:=g.out 17 rfl
   have e1:x.tmps[32]?.getD undef=_:=ev_tmp e1
   have hsz:¬ (9223372036854775807 < 1+s.size):=by omega
   clear g oo dd yy
   go_simp
   exact hK.out _ ⟨_,rfl,tx_c hs⟩
  | 19,_ =>
   exact ctOut (hD _) (Fa.refl _) rfl rfl rfl rfl rfl rfl (fun _ _ e=>e)
  | 20,_ =>
   exact ctPick (hnx _) 60 (by omega) (by omega) hq1 19 rfl rfl rfl rfl rfl rfl (fun _ _ h=>h) hFx (fun _ _ h=>h)
  | 21,_ =>
   refine ctp (hD _) (Fa.refl _) rfl rfl rfl fun x y c S yy g oo dd K hK=>?_
   obtain ⟨z,e1,-,-⟩:=g.out 4 rfl
   obtain ⟨b,e2,h2⟩:=g.out 9 rfl
   obtain ⟨h,e3,h3⟩:=g.out 14 rfl
   obtain ⟨c',e4,h4⟩:=g.out 18 rfl
   obtain ⟨u,e5,-,-⟩:=g.out 20 rfl
   have e1:x.tmps[19]?.getD undef=_:=ev_tmp e1
   have e2:x.tmps[24]?.getD undef=_:=ev_tmp e2
   have e3:x.tmps[29]?.getD undef=_:=ev_tmp e3
   have e4:x.tmps[33]?.getD undef=_:=ev_tmp e4
   have e5:x.tmps[35]?.getD undef=_:=ev_tmp e5
   clear g oo dd yy
   go_simp
   exact hK.out _ ⟨⟨z,b,h,c',u⟩,rfl,⟨by unfold maxLen; exact Nat.le_trans h2 (by omega),by unfold maxLen; exact Nat.le_trans h3 (by omega),by unfold maxLen; exact Nat.le_trans h4 (by omega)⟩⟩
  | 22,_ =>
   refine ct rfl rfl rfl fun x y c S hc yy g oo dd K hK=>?_
   clear g oo
   go_simp
   have hb:Below y.heap.size y (y.alloc (.cells #[.int .i64 0,.string ⟨#[]⟩,.int .i64 0,.slice none 0 0,.string ⟨#[]⟩,.string ⟨#[]⟩,.int .i64 0] 29)):=bl_alloc bR _
   exact hK.out _ _ ⟨_,rfl,hZs c S y dd.out,BoxT.new (by simp) rfl⟩ ((hnx _).below yy.out dd.out hb) (Fa.below hb)
  | 23,_ =>
   refine ctn rfl rfl fun x y c S hc yy g oo dd K hK=>?_
   obtain ⟨X,e11,hX,hB⟩:=g.out 22 rfl
   obtain ⟨p,e9,hp⟩:=g.out 21 rfl
   refine wp_store_mid 29 _ _ rfl X 0 #[.int .i64 p.k,.string p.b,.int .i64 0,.slice none 0 0,.string p.h,.string p.c,.int .i64 p.t] e11 e9 hB.there hinfp (by simp [Value.oneCell']) ?_
   have he:Ex X y (y.setCells X 0 (pcs p)):=(Ex.refl _ _).cells _ _
   exact hK.out _ ⟨X,p,e11,hp,World.rangeAt_setCells_same y X 0 (pcs p) hB.there,World.there_setCells hB.there _ _ _,hX⟩ ⟨(dd.out.r.grown (W.ex_grown he) (fun k e=>by cases e; omega)).up (by omega),Ex.other dd.out.e he (by omega)⟩ ⟨X,_,p.k,hX,hB,rfl,rfl,rfl⟩
  | _+24,h=>exact absurd h (by show ¬ (_ < 24); omega)
 case done1 =>
  intro a9 w4 c hdf hsz hout hgood hc hE
  obtain ⟨px,p,e22,hp,hrg,hth,hX⟩:=(hgood 23 (by decide):∃ X p,a9.tmps.getD 6 undef=.pointer (some ⟨X,0,none⟩)∧_)
  obtain ⟨x1,x2,x3,x4,x5⟩:=K3.out w4 hE.e
  have D0:Hid (Dt kr w.heap.size (w.heap.size+1) lb w1.heap.size px w1 t gs qs (.slice d1 gs.length k1) (.slice d2 qs.length k2) p 410000 w4):=⟨⟨x1,x2,x3,x4,hrg,hth,hp,⟨by omega,by omega,hk1,Nat.le_refl _,hBl,by omega,there_lt hth⟩,KN.out⟩,hE.r.up (by have h9:c≤24:=hc; omega),x5⟩
  clear x1 x2 x3 x4 x5 hrg hth hE K3 HQ3 KN hp hnx hD hZs hFx hX
  have hkx:px≠kr:=by have:=D0.out.z; omega
  obtain ⟨f,ha,hf,hf2⟩:=frameZ2 6 1 15 22 hdf hsz hout rfl
  have f0:f 0=_:=(hf 0 (by omega)).trans e22
  clear hf hf2 hout hgood hdf hsz
  subst ha
  rw [show (List.range 1).map f=[f 0] from rfl,show (List.range 22).map (fun k=>f (1+k))=[f 1,f 2,f 3,f 4,f 5,f 6,f 7,f 8,f 9,f 10,f 11,f 12,f 13,f 14,f 15,f 16,f 17,f 18,f 19,f 20,f 21,f 22] from rfl,f0]
  simp only [tkd,Nat.reduceAdd]
  clear f0 e22
  go_wp2_with fail
  go_loopw [7] (fun i wx=>∃ (k:Nat) (p:TakeP),k≤qs.length∧i=.int .i64 (k:Int)∧Hid (Dt kr w.heap.size (w.heap.size+1) lb w1.heap.size px w1 t gs qs (.slice d1 gs.length k1) (.slice d2 qs.length k2) p (410000+20 * k) wx)) (fun i _=>qs.length - (intOf i).toNat)
  case atStart=>exact ⟨0,p,by omega,rfl,D0.out.up (by omega)⟩
  obtain ⟨k,p,hk,rfl,HD⟩:=hrel
  obtain ⟨l0,l1,l2⟩:=HD.out.cs
  have hqn:=HF.out.n
  by_cases hlt:k < qs.length
  ·
   have hki:(k:Int) < (qs.length:Int):=by omega
   obtain ⟨pg,x,rfl,hx,-⟩:=HD.out.l.at hlt
   have HX:=hidP hx
   have hxl:=HF.out.k x (List.mem_of_getElem? hx)
   have HXF:Hid (x.b.size≤maxLen∧∀ r∈x.ws,r.fits):=HF.out.p x (List.mem_of_getElem? hx)
   clear hx D0
   go_wp2_with fail
   clear l0 l1 l2
   go_loopw [8,9] (fun i b9 wx=>∃ (j:Nat) (p:TakeP),j≤x.ws.length∧i=.int .i64 (j:Int)∧Hid (Dt kr w.heap.size (w.heap.size+1) lb w1.heap.size px w1 t gs qs (.slice d1 gs.length k1) (.slice (some ⟨pg,0,none⟩) qs.length k2) p (410000+20 * k+j) wx)) (fun i _ _=>x.ws.length - (intOf i).toNat)
   case atStart=>exact ⟨0,p,by omega,rfl,HD.out.up (by omega)⟩
   obtain ⟨j,p,hj,rfl,HE⟩:=hrel
   obtain ⟨l0,l1,l2⟩:=HE.out.cs
   obtain ⟨pg',x',ep,hx',-,pc0,pc2⟩:=HE.out.l.at hlt
   cases ep
   rw [HX.out] at hx'
   cases hx'
   by_cases hlj:j < x.ws.length
   ·
    have hji:(j:Int) < (x.ws.length:Int):=by omega
    obtain ⟨wg,r,hxa,hr,q0,q1,q2,q3,q4,q5,q6⟩:=HE.out.l.want HX.out hlj
    rw [hxa] at pc2
    have HRF:Hid (r.fits):=HXF.out.2 r (List.mem_of_getElem? hr)
    obtain ⟨Y,hY⟩:∃ Y,Y=wr.alloc (.cells #[.string r.c,.int .i64 r.v,.string r.h,.int .i64 r.p,.int .i64 r.s,.int .i64 r.d,.int .i64 r.g] 56):=⟨_,rfl⟩
    have hYb:Below wr.heap.size wr Y:=by rw [hY]; exact bl_alloc bR _
    have HY:=hidP hY
    have DY:Hid (Dt kr w.heap.size (w.heap.size+1) lb w1.heap.size px w1 t gs qs (.slice d1 gs.length k1) (.slice (some ⟨pg,0,none⟩) qs.length k2) p (410000+20 * k+j) Y):=HE.out.below hYb
    have hyc:Y.cell? ⟨wr.heap.size,0,none⟩=some (.string r.c)∧Y.cell? ⟨wr.heap.size,2,none⟩=some (.string r.h):=by rw [hY]; exact ⟨by simp [go_sem],by simp [go_sem]⟩
    have hyz:wr.heap.size < Y.heap.size:=by rw [hY]; simp
    have HZ:Hid (kr < wr.heap.size∧px < wr.heap.size):=⟨HE.out.r.lt,HE.out.z.2.2.2.2.2.2⟩
    clear hr hxa HE hY hYb
    cases he:r.h.toList.isEmpty
    rotate_left
    ·
     go_wp2_with fail
     exact ⟨⟨j+1,p,by omega,by go_num,by rw [← HY.out]; exact DY.out.up (by omega)⟩,by simp [intOf]; omega⟩
    go_wp2_with fail
    rw [← HY.out]
    refine (pickQ kr _ 3 Y DY.out.r (by omega) (by omega) (by omega)).mono ?_
    rintro e w5 ⟨m,rfl,m0,m1,r5,e5⟩
    have D5:Hid (Dt kr w.heap.size (w.heap.size+1) lb w1.heap.size px w1 t gs qs (.slice d1 gs.length k1) (.slice (some ⟨pg,0,none⟩) qs.length k2) p (410000+20 * k+j+1) w5):=DY.out.ex e5 r5
    obtain ⟨z1,z2,z3,z4,z5,z6,z7⟩:=DY.out.z
    have c0:w5.cell? ⟨wr.heap.size,0,none⟩=some (.string r.c):=(he_cell e5 hyz (by have:=HZ.out; omega)).trans hyc.1
    have c2:w5.cell? ⟨wr.heap.size,2,none⟩=some (.string r.h):=(he_cell e5 hyz (by have:=HZ.out; omega)).trans hyc.2
    clear r5 e5 DY l0 l1 l2 pc0 pc2 q0 q1 q2 q3 q4 q5 q6 hyc HY
    by_cases hm:m=0
    ·
     subst hm
     obtain ⟨l0,l1,l2⟩:=D5.out.cs
     obtain ⟨pg',x',ep,hx',-,pc0,pc2⟩:=D5.out.l.at hlt
     cases ep
     rw [HX.out] at hx'
     cases hx'
     obtain ⟨⟨y1,y4,y5,y6⟩,yf⟩:=D5.out.ps
     have f1:=yf 1 (by omega)
     have f4:=yf 4 (by omega)
     have f5:=yf 5 (by omega)
     have g1:lb≠px:=by omega
     have g2:pg≠px:=by have:=D5.out.n pg (Or.inr (Or.inl rfl)); omega
     have g3:wr.heap.size≠px:=by have:=HZ.out; omega
     clear yf z1 z2 z3 z4 z5 z6 z7
     have DZ:Hid (Dt kr w.heap.size (w.heap.size+1) lb w1.heap.size px w1 t gs qs (.slice d1 gs.length k1) (.slice (some ⟨pg,0,none⟩) qs.length k2) ⟨p.k,x.b,r.h,r.c,p.t⟩ (410000+20 * k+((j+1:Nat):Int)) (((w5.setCell ⟨px,1,none⟩ (.string x.b)).setCell ⟨px,4,none⟩ (.string r.h)).setCell ⟨px,5,none⟩ (.string r.c))):=(((D5.out.put (p':=⟨p.k,x.b,p.h,p.c,p.t⟩) (j:=1) (v:=.string x.b) rfl (by omega) ⟨HXF.out.1,D5.out.pt.h,D5.out.pt.c⟩).put (p':=⟨p.k,x.b,r.h,p.c,p.t⟩) (j:=4) (v:=.string r.h) rfl (by omega) ⟨HXF.out.1,HRF.out.2,D5.out.pt.c⟩).put (p':=⟨p.k,x.b,r.h,r.c,p.t⟩) (j:=5) (v:=.string r.c) rfl (by omega) ⟨HXF.out.1,HRF.out.2,HRF.out.1⟩).up (by omega)
     go_wp2_with fail
     exact ⟨⟨j+1,_,by omega,by go_num,DZ.out⟩,by simp [intOf]; omega⟩
    have hm':¬ (m=0):=hm
    go_wp2_with fail
    exact ⟨⟨j+1,p,by omega,by go_num,D5.out.up (by omega)⟩,by simp [intOf]; omega⟩
   have hji:¬ ((j:Int) < (x.ws.length:Int)):=by omega
   go_wp2_with fail
   exact ⟨⟨k+1,p,by omega,by go_num,HE.out.up (by omega)⟩,by simp [intOf]; omega⟩
  have hki:¬ ((k:Int) < (qs.length:Int)):=by omega
  have HL:=hidP HD.out.l.z.g.gv
  obtain ⟨⟨y1,y4,y5,y6⟩,yf⟩:=HD.out.ps
  clear yf y1 y5 y6
  obtain ⟨q6,hq6⟩:∃ q6:Int,q6=410000+20 * (k:Int):=⟨_,rfl⟩
  rw [← hq6] at HD
  have hq6':q6≤500000:=by omega
  clear hq6 D0
  go_wp2_with fail
  refine (l6Grant_any t gs d1 d2 k1 qs.length k2 p.h wr HL.out HF.out.gl).mono ?_
  rintro e w5 ⟨⟨m,rfl,hm⟩,hb5⟩
  have D5:Hid (Dt kr w.heap.size (w.heap.size+1) lb w1.heap.size px w1 t gs qs (.slice d1 gs.length k1) (.slice d2 qs.length k2) p q6 w5):=HD.out.below hb5
  clear HD hb5 l0 l1 l2 y4 HL hki hlt hk
  rcases hm with ⟨k,r,rfl,hr,hrh⟩ | ⟨rfl,-⟩
  case' inr =>
   obtain ⟨q7,hq7⟩:∃ q7:Int,q7=q6+5000:=⟨_,rfl⟩
   have D7:Hid (Dt kr w.heap.size (w.heap.size+1) lb w1.heap.size px w1 t gs qs (.slice d1 gs.length k1) (.slice d2 qs.length k2) p q7 w5):=D5.out.up (by omega)
   have hq7':q7≤600000:=by omega
   clear D5 hq7
  case' inl =>
   have HR:=hidP hr
   have HRF:Hid r.fits:=HF.out.g r (List.mem_of_getElem? hr)
   clear hr hrh
   go_wp2_with fail
   refine (pickQ kr _ 2 _ D5.out.r (by omega) (by omega) (by omega)).mono ?_
   rintro e w6 ⟨m,rfl,m0,m1,r6,e6⟩
   have D6:Hid (Dt kr w.heap.size (w.heap.size+1) lb w1.heap.size px w1 t gs qs (.slice d1 gs.length k1) (.slice d2 qs.length k2) p (q6+1) w6):=D5.out.ex e6 r6
   clear D5 r6 e6
   by_cases hm:m=0
   case' neg =>
    have hm':¬ (m=0):=hm
    obtain ⟨q7,hq7⟩:∃ q7:Int,q7=q6+5000:=⟨_,rfl⟩
    obtain ⟨w5,hw5⟩:∃ y,y=w6:=⟨_,rfl⟩
    have D7:Hid (Dt kr w.heap.size (w.heap.size+1) lb w1.heap.size px w1 t gs qs (.slice d1 gs.length k1) (.slice d2 qs.length k2) p q7 w5):=by rw [hw5]; exact D6.out.up (by omega)
    have hq7':q7≤600000:=by omega
    rw [← hw5]
    clear D6 hq7 hw5
   case' pos =>
    subst hm
    have hkl:k < gs.length:=(List.getElem?_eq_some_iff.1 HR.out).1
    have hki:(k:Int) < (gs.length:Int):=by omega
    obtain ⟨gk,hd,-,-⟩:=D6.out.l.grant HR.out
    subst hd
    obtain ⟨w2,hw2⟩:∃ y,y=w6:=⟨_,rfl⟩
    rw [← hw2] at D6 ⊢
    obtain ⟨q2,hq2⟩:∃ q2:Int,q2=q6+1:=⟨_,rfl⟩
    rw [← hq2] at D6
    obtain ⟨z1,z2,z3,z4,z5,z6,z7⟩:=D6.out.z
    have HC:Hid (∀ y,Ex kr w2 y→∀ q',Rq y kr q'→Dt kr w.heap.size (w.heap.size+1) lb w1.heap.size px w1 t gs qs (.slice (some ⟨gk,0,none⟩) gs.length k1) (.slice d2 qs.length k2) p q' y):=fun y hy q' hr=>D6.out.ex hy hr
    have HG:Hid (∀ y,Ex kr w2 y→y.cell? ⟨gk,k * 5+3,none⟩=some (.int .i64 r.t)):=fun y hy=>by
     obtain ⟨g',hd',-,-,h3⟩:=D6.out.l.grant HR.out
     cases hd'
     obtain ⟨h4,h5⟩:=D6.out.l.g.lt gk rfl
     exact (he_cell hy h5 (by omega)).trans h3
    obtain ⟨Z,hZ⟩:∃ Z,Z=w2.heap.size:=⟨_,rfl⟩
    have hkZ:kr < Z:=by omega
    have hD:∀ i c S y,Dv kr q2 w1 w2 11 c S y→Dv kr q2 w1 w2 11 (c+1) (sset S i) y:=fun i c S y h=>h.up
    have hnx:∀ {ops:Array Oper} i,Nx kr q2 ops (Dv kr q2 w1 w2 11) i:=fun i=>Dv.nx i
    have hRx:∀ i,i≠11→∀ y,Fv kr Z 11 i y y:=fun i h y=>by unfold Fv; rw [if_neg h]; exact Ex.refl _ _
    have hFx:∀ i,i≠11→∀ y y',Ex kr y y'→Fv kr Z 11 i y y':=fun i h y y' he=>by unfold Fv; rw [if_neg h]; exact he
    have hq1:q2+200 * (LT17.length:Int) < 1000000:=by show q2+200 * ((12:Nat):Int) < 1000000; omega
    have HD6:Hid (Rq w2 kr q2∧Ex kr w1 w2):=⟨D6.out.r,D6.out.e⟩
    clear D6 hw2
    go_wp2_with fail
    refine wp_region_any (by kernel_rfl) ?_
    refine reg_invZ LT17 (GT17 Z kr w.heap.size (w.heap.size+1) lb w1.heap.size px w1 t gs qs (.slice d2 qs.length k2) gk gs.length k1 k) (Dv kr q2 w1 w2 11) (Fv kr Z 11) (by kernel_rfl) (fun i j y y' V S hne hY hj hf h=>GT17.keep hkZ hf j hne h) ⟨(HD6.out.1.below bD).up (by omega),HD6.out.2.trans (Ex.of_below bD),bD.size,fun _=>Ex.of_below bD⟩ ?ct17 ?done17
    case ct17 =>
     intro i hi
     match i,hi with
     | 0,_ =>
      refine ctp (hD _) (hRx _ (by decide)) rfl rfl rfl fun x y c S yy g oo dd K hK=>?_
      have o5:x.tmps[5]?.getD undef=.pointer (some ⟨lb,0,none⟩):=ev_tmp (oo.out 5 rfl)
      clear g oo dd yy
      go_simp
      exact hK.out _ rfl
     | 1,_ =>
      refine ctp (hD _) (hRx _ (by decide)) rfl rfl rfl fun x y c S yy g oo dd K hK=>?_
      have e1:x.tmps[96]?.getD undef=_:=ev_tmp (g.out 0 rfl)
      obtain ⟨-,k1,-⟩:=(HC.out y (dd.out.o (yy.out.no [9,8,5,4,3,1] 11 rfl rfl)) _ dd.out.r).cs
      clear g oo dd yy
      go_simp
      exact hK.out _ rfl
     | 2,_ =>
      exact ctOut (hD _) (hRx _ (by decide)) rfl rfl rfl rfl rfl rfl (fun _ _ e=>e)
     | 3,_ =>
      refine ctp (hD _) (hRx _ (by decide)) rfl rfl rfl fun x y c S yy g oo dd K hK=>?_
      have e1:x.tmps[97]?.getD undef=_:=ev_tmp (g.out 1 rfl)
      have e2:x.tmps[98]?.getD undef=_:=ev_tmp (g.out 2 rfl)
      clear g oo dd yy
      go_simp
      exact hK.out _ rfl
     | 4,_ =>
      refine ctp (hD _) (hRx _ (by decide)) rfl rfl rfl fun x y c S yy g oo dd K hK=>?_
      have e1:x.tmps[99]?.getD undef=_:=ev_tmp (g.out 3 rfl)
      clear g oo dd yy
      go_simp
      exact hK.out _ rfl
     | 5,_ =>
      refine ctp (hD _) (hRx _ (by decide)) rfl rfl rfl fun x y c S yy g oo dd K hK=>?_
      have e1:x.tmps[100]?.getD undef=_:=ev_tmp (g.out 4 rfl)
      have k9:=HG.out y (dd.out.o (yy.out.no [9,8,5] 11 rfl rfl))
      clear g oo dd yy
      go_simp
      exact hK.out _ ⟨_,rfl⟩
     | 6,_ =>
      exact ctOut (hD _) (hRx _ (by decide)) rfl rfl rfl rfl rfl rfl (fun _ _ e=>e)
     | 7,_ =>
      exact ctPick (hnx _) 3 (by omega) (by omega) hq1 6 rfl rfl rfl rfl rfl rfl (fun _ _ h=>h) (hFx _ (by decide)) (fun _ _ h=>h)
     | 8,_ =>
      refine ctp (hD _) (hRx _ (by decide)) rfl rfl rfl fun x y c S yy g oo dd K hK=>?_
      obtain ⟨z,e1⟩:=g.out 5 rfl
      have e1:x.tmps[101]?.getD undef=_:=ev_tmp e1
      obtain ⟨z2,e2,-,-⟩:=g.out 7 rfl
      have e2:x.tmps[103]?.getD undef=_:=ev_tmp e2
      clear g oo dd yy
      go_simp
      exact hK.out _ ⟨_,rfl⟩
     | 9,_ =>
      refine ctp (hD _) (hRx _ (by decide)) rfl rfl rfl fun x y c S yy g oo dd K hK=>?_
      obtain ⟨z,e1⟩:=g.out 8 rfl
      have e1:x.tmps[104]?.getD undef=_:=ev_tmp e1
      clear g oo dd yy
      go_simp
      exact hK.out _ ⟨_,rfl⟩
     | 10,_ =>
      refine ctp (hD _) (hRx _ (by decide)) rfl rfl rfl fun x y c S yy g oo dd K hK=>?_
      have o5:x.tmps[6]?.getD undef=.pointer (some ⟨px,0,none⟩):=ev_tmp (oo.out 6 rfl)
      clear g oo dd yy
      go_simp
      exact hK.out _ rfl
     | 11,_ =>
      refine ctn rfl rfl fun x y c S hc yy g oo dd K hK=>?_
      obtain ⟨z,e1⟩:=g.out 9 rfl
      have e1:x.tmps[105]?.getD undef=_:=ev_tmp e1
      have e2:x.tmps[106]?.getD undef=_:=ev_tmp (g.out 10 rfl)
      have HE:Hid (Ex kr w2 y):=dd.out.o yy.out.n
      have HY:Hid _:=HC.out y HE.out _ dd.out.r
      obtain ⟨⟨-,-,-,k6⟩,yf⟩:=HY.out.ps
      have f6:=yf 6 (by omega)
      clear g oo yf
      go_simp
      have hp:=HY.out.put (p':=⟨p.k,p.b,p.h,p.c,z⟩) (j:=6) (v:=.int .i64 z) rfl (by omega) ⟨HY.out.pt.b,HY.out.pt.h,HY.out.pt.c⟩
      refine hK.out _ ⟨_,hp.toDtX⟩ ⟨hp.r.up (by omega),hp.e,Nat.le_trans dd.out.s ((Ex.refl px y).set 6 (.int .i64 z)).size,fun e=>by simp [sset] at e⟩ ?_
      unfold Fv
      rw [if_pos rfl]
      exact Fa.ex ((Ex.refl px y).set 6 _) (by omega)
     | _+12,h=>exact absurd h (by show ¬ (_ < 12); omega)
    case' done17 =>
     intro a9 w7 c hdf hsz hout hgood hc hE
     obtain ⟨p,hx⟩:=(hgood 11 (by decide):∃ p,DtX kr w.heap.size (w.heap.size+1) lb w1.heap.size px w1 t gs qs _ _ p w7)
     have D7:Hid (Dt kr w.heap.size (w.heap.size+1) lb w1.heap.size px w1 t gs qs (.slice (some ⟨gk,0,none⟩) gs.length k1) (.slice d2 qs.length k2) p (q6+4000) w7):=⟨hx,hE.r.up (by have h9:c≤12:=hc; omega),hE.e⟩
     clear hx hE HC HG HD6 hnx hD hRx hFx z1 z2 z3 z4 z5 z6 z7
     obtain ⟨f,ha,hf⟩:=frameZ 96 11 hdf hsz hout rfl
     clear hf hout hgood hdf hsz
     subst ha
     rw [show (List.range 11).map f=[f 0,f 1,f 2,f 3,f 4,f 5,f 6,f 7,f 8,f 9,f 10] from rfl]
     simp only [tkd,Nat.reduceAdd]
     go_wp2_with fail
     refine (pickQ kr _ 3 _ D7.out.r (by omega) (by omega) (by omega)).mono ?_
     rintro e w8 ⟨m,rfl,m0,m1,r8,e8⟩
     have D8:Hid (Dt kr w.heap.size (w.heap.size+1) lb w1.heap.size px w1 t gs qs (.slice (some ⟨gk,0,none⟩) gs.length k1) (.slice d2 qs.length k2) p (q6+4001) w8):=(D7.out.ex e8 r8).up (by omega)
     clear r8 e8 D7
     obtain ⟨q7,hq7⟩:∃ q7:Int,q7=q6+5000:=⟨_,rfl⟩
     have hq7':q7≤600000:=by omega
     by_cases hm:m=0
     case' pos =>
      subst hm
      obtain ⟨w5,hw5⟩:∃ y,y=w8:=⟨_,rfl⟩
      have D7:Hid (Dt kr w.heap.size (w.heap.size+1) lb w1.heap.size px w1 t gs qs (.slice (some ⟨gk,0,none⟩) gs.length k1) (.slice d2 qs.length k2) p q7 w5):=by rw [hw5]; exact D8.out.up (by omega)
      rw [← hw5]
      clear D8 hq7 hw5
     case' neg =>
      have hm':0 < m:=by omega
      obtain ⟨l0,l1,l2⟩:=D8.out.cs
      obtain ⟨g',hd',-,gc1,-⟩:=D8.out.l.grant HR.out
      cases hd'
      obtain ⟨⟨y1,y4,y5,y6⟩,yf⟩:=D8.out.ps
      have f1:=yf 1 (by omega)
      have DZ:Hid (Dt kr w.heap.size (w.heap.size+1) lb w1.heap.size px w1 t gs qs (.slice (some ⟨gk,0,none⟩) gs.length k1) (.slice d2 qs.length k2) ⟨p.k,r.b,p.h,p.c,p.t⟩ q7 (w8.setCell ⟨px,1,none⟩ (.string r.b))):=(D8.out.put (p':=⟨p.k,r.b,p.h,p.c,p.t⟩) (j:=1) (v:=.string r.b) rfl (by omega) ⟨HRF.out.2.1,D8.out.pt.h,D8.out.pt.c⟩).up (by omega)
      clear yf D8 hq7
      obtain ⟨p,hp⟩:∃ x:TakeP,x=⟨p.k,r.b,p.h,p.c,p.t⟩:=⟨_,rfl⟩
      obtain ⟨w5,hw5⟩:∃ y,y=w8.setCell ⟨px,1,none⟩ (.string r.b):=⟨_,rfl⟩
      have D7:Hid (Dt kr w.heap.size (w.heap.size+1) lb w1.heap.size px w1 t gs qs (.slice (some ⟨gk,0,none⟩) gs.length k1) (.slice d2 qs.length k2) p q7 w5):=by rw [hw5,hp]; exact DZ.out
      clear DZ hp
      go_wp2_with fail
      rw [← hw5]
      clear hw5 l0 l1 l2 gc1 y1 y4 y5 y6 f1
  all_goals
   have hbw:Below w.heap.size w w5:=bl_ex9 HT.out.1 D7.out.e (by omega)
   have HBW:Hid (∀ y,Ex kr w5 y→Below w.heap.size w y):=fun y hy=>bl_ex9 hbw hy (by omega)
   clear hbw
   go_wp2_with fail
   refine (pickQ kr q7 20 w5 D7.out.r (by omega) (by omega) (by omega)).mono ?_
   rintro e w8 ⟨m8,rfl,u0,u1,r8,e8⟩
   have D8:=D7.out.ex e8 r8
   have HD8:=hidP D8
   have HBW8:Hid (∀ y,Ex kr w8 y→Below w.heap.size w y):=fun y hy=>HBW.out y (e8.trans hy)
   clear D7 r8 e8 D8 HBW
   obtain rfl | rfl | hm8:m8=0∨m8=1∨1 < m8:=by omega
   case' inl =>
    go_wp2_with fail
    refine (pickQ kr _ 3 _ (HD8.out.r.below (bl_alloc bR _)) (by omega) (by omega) (by omega)).mono ?_
    rintro e w9 ⟨m9,rfl,v0,v1,r9,e9⟩
    have e10:Ex kr w8 w9:=(Ex.of_below (bl_alloc bR _)).trans e9
    obtain ⟨m9,rfl⟩:=Int.eq_ofNat_of_zero_le v0
    obtain ⟨z,hz9⟩:∃ z:Int,w9.cell? ⟨w8.heap.size,m9,none⟩=some (.int .i64 z):=by
     have hc:∀ j,w9.cell? ⟨w8.heap.size,j,none⟩=(#[.int .i64 (-1),.int .i64 1000000,.int .i64 1000001]:Array Value)[j]?:=fun j=>(he_cell e9 (by simp) (by have:=HD8.out.r.lt; omega)).trans (by simp [go_sem])
     obtain rfl | rfl | rfl:m9=0∨m9=1∨m9=2:=by omega
     all_goals exact ⟨_,hc _⟩
    have hmi:(m9:Int) < 3:=by omega
    have D9:=HD8.out.ex e10 r9
    obtain ⟨⟨y1,y4,y5,y6⟩,yf⟩:=D9.ps
    have f6:=yf 6 (by omega)
    obtain ⟨W9,hW9⟩:∃ y,y=w9.setCell ⟨px,6,none⟩ (.int .i64 z):=⟨_,rfl⟩
    have DX:=(D9.put (p':=⟨p.k,p.b,p.h,p.c,z⟩) (j:=6) (v:=.int .i64 z) rfl (by omega) ⟨D9.pt.b,D9.pt.h,D9.pt.c⟩).toDtX
    have BX:Below w.heap.size w W9:=by rw [hW9]; exact bl_set (HBW8.out w9 e10) (by have:=D9.z; show w.heap.size≤px; omega) _
    rw [← hW9] at DX
    have HDX:=hidP DX
    have HBX:=hidP BX
    clear yf D9 DX BX e9 e10 r9 HD8 HBW8
    go_wp2_with fail
    rw [← hW9]
    clear hW9 y1 y4 y5 y6 f6 hz9
   case' inr.inl =>
    go_wp2_with fail
    refine (pickQ kr _ 3 _ (HD8.out.r.below (bl_alloc bR _)) (by omega) (by omega) (by omega)).mono ?_
    rintro e w9 ⟨m9,rfl,v0,v1,r9,e9⟩
    have e10:Ex kr w8 w9:=(Ex.of_below (bl_alloc bR _)).trans e9
    obtain ⟨m9,rfl⟩:=Int.eq_ofNat_of_zero_le v0
    obtain ⟨z,hzz,hz9⟩:∃ z:ByteArray,z.size≤4∧w9.cell? ⟨w8.heap.size,m9,none⟩=some (.string z):=by
     have hc:∀ j,w9.cell? ⟨w8.heap.size,j,none⟩=(#[.string ⟨#[]⟩,.string ⟨#[120,32,121]⟩,.string ⟨#[42]⟩]:Array Value)[j]?:=fun j=>(he_cell e9 (by simp) (by have:=HD8.out.r.lt; omega)).trans (by simp [go_sem])
     obtain rfl | rfl | rfl:m9=0∨m9=1∨m9=2:=by omega
     all_goals exact ⟨_,by show _≤4; decide,hc _⟩
    have hmi:(m9:Int) < 3:=by omega
    have D9:=HD8.out.ex e10 r9
    obtain ⟨⟨y1,y4,y5,y6⟩,yf⟩:=D9.ps
    have f4:=yf 4 (by omega)
    obtain ⟨W9,hW9⟩:∃ y,y=w9.setCell ⟨px,4,none⟩ (.string z):=⟨_,rfl⟩
    have DX:=(D9.put (p':=⟨p.k,p.b,z,p.c,p.t⟩) (j:=4) (v:=.string z) rfl (by omega) ⟨D9.pt.b,by unfold maxLen; exact Nat.le_trans hzz (by omega),D9.pt.c⟩).toDtX
    have BX:Below w.heap.size w W9:=by rw [hW9]; exact bl_set (HBW8.out w9 e10) (by have:=D9.z; show w.heap.size≤px; omega) _
    rw [← hW9] at DX
    have HDX:=hidP DX
    have HBX:=hidP BX
    clear yf D9 DX BX e9 e10 r9 HD8 HBW8
    go_wp2_with fail
    rw [← hW9]
    clear hW9 y1 y4 y5 y6 f4 hz9
   case' inr.inr =>
    have hn0:¬ (m8=0):=by omega
    have hn1:¬ (m8=1):=by omega
    obtain ⟨W9,hW9⟩:∃ y,y=w8:=⟨_,rfl⟩
    have HDX:=hidP HD8.out.toDtX
    have HBX:Hid (Below w.heap.size w w8):=HBW8.out w8 (Ex.refl _ _)
    clear HD8 HBW8
    go_wp2_with fail
    rw [← hW9] at HDX HBX ⊢
    clear hW9
   all_goals
    obtain ⟨p9,s9,hx9⟩:∃ p9 s9,DtX kr w.heap.size (w.heap.size+1) lb w1.heap.size px w1 t gs qs s9 (.slice d2 qs.length k2) p9 W9:=⟨_,_,HDX.out⟩
    obtain ⟨d9,k9,rfl⟩:=G.Sl.shape hx9.l.g
    have hD:∀ i c S y,D25 kr w.heap.size (w.heap.size+1) lb w1.heap.size px w1 t gs qs (.slice d9 gs.length k9) (.slice d2 qs.length k2) p9 w c S y→D25 kr w.heap.size (w.heap.size+1) lb w1.heap.size px w1 t gs qs (.slice d9 gs.length k9) (.slice d2 qs.length k2) p9 w (c+1) (sset S i) y:=fun _ _ _ _ h=>h
    have hRx:∀ i,i≠2→i≠3→∀ y,F25 w.heap.size (w.heap.size+1) i y y:=fun i h1 h2 y=>by unfold F25; rw [if_neg h1,if_neg h2]
    refine wp_region_any (by kernel_rfl) ?_
    refine reg_invZ LT25 (GT25 w.heap.size (w.heap.size+1) t (.slice d9 gs.length k9) (.slice d2 qs.length k2) p9) (D25 kr w.heap.size (w.heap.size+1) lb w1.heap.size px w1 t gs qs (.slice d9 gs.length k9) (.slice d2 qs.length k2) p9 w) (F25 w.heap.size (w.heap.size+1)) (by kernel_rfl) (fun i j y y' V S hne hY hj hf h=>GT25.keep (by omega) hf j hne h) ⟨hx9.ex (Ex.of_below bD),bl_drew HBX.out⟩ ?_ ?_
    ·
     intro i hi
     match i,hi with
     | 0,_ =>
      refine ctp (hD _) (hRx _ (by decide) (by decide)) rfl rfl rfl fun x y c S yy g oo dd K hK=>?_
      have o5:x.tmps[5]?.getD undef=.pointer (some ⟨lb,0,none⟩):=ev_tmp (oo.out 5 rfl)
      obtain ⟨k0,k1,k2⟩:=dd.out.1.cs
      clear g oo dd yy
      go_simp
      exact hK.out _ rfl
     | 1,_ =>
      refine ctp (hD _) (hRx _ (by decide) (by decide)) rfl rfl rfl fun x y c S yy g oo dd K hK=>?_
      have o6:x.tmps[6]?.getD undef=.pointer (some ⟨px,0,none⟩):=ev_tmp (oo.out 6 rfl)
      have k0:=rng dd.out.1.pc 0 rfl
      have k1:=rng dd.out.1.pc 1 rfl
      have k2:=rng dd.out.1.pc 2 rfl
      have k3:=rng dd.out.1.pc 3 rfl
      have k4:=rng dd.out.1.pc 4 rfl
      have k5:=rng dd.out.1.pc 5 rfl
      have k6:=rng dd.out.1.pc 6 rfl
      clear g oo dd yy
      go_simp
      exact hK.out _ rfl
     | 2,_ =>
      refine ctn rfl rfl fun x y c S hc yy g oo dd K hK=>?_
      have e1:x.tmps.getD 135 undef=_:=g.out 0 rfl
      have e2:x.tmps.getD 2 undef=.pointer (some ⟨w.heap.size,0,none⟩):=oo.out 2 rfl
      refine wp_store_mid 26 _ _ rfl w.heap.size 0 #[_,_,_] e2 e1 dd.out.1.b hinfo (by simp [Value.oneCell']) ?_
      refine hK.out _ (World.rangeAt_setCells_same y w.heap.size 0 _ dd.out.1.b) ⟨dd.out.1.ans (Or.inl rfl),bl_cells9 dd.out.2 (Nat.le_refl _)⟩ ?_
      show F25 _ _ _ _ _
      unfold F25
      rw [if_pos rfl]
      exact (Ex.refl _ _).cells _ _
     | 3,_ =>
      refine ctn rfl rfl fun x y c S hc yy g oo dd K hK=>?_
      have e1:x.tmps.getD 136 undef=_:=g.out 1 rfl
      have e2:x.tmps.getD 3 undef=.pointer (some ⟨w.heap.size+1,0,none⟩):=oo.out 3 rfl
      refine wp_store_mid 29 _ _ rfl (w.heap.size+1) 0 #[.int .i64 p9.k,.string p9.b,.int .i64 0,.slice none 0 0,.string p9.h,.string p9.c,.int .i64 p9.t] e2 e1 dd.out.1.d hinfp (by simp [Value.oneCell']) ?_
      refine hK.out _ (World.rangeAt_setCells_same y (w.heap.size+1) 0 (pcs p9) dd.out.1.d) ⟨dd.out.1.ans (Or.inr rfl),bl_cells9 dd.out.2 (Nat.le_succ _)⟩ ?_
      show F25 _ _ _ _ _
      unfold F25
      rw [if_neg (by decide),if_pos rfl]
      exact (Ex.refl _ _).cells _ _
     | _+4,h=>exact absurd h (by show ¬ (_ < 4); omega)
    intro a9 y c hdf hsz hout hgood hc hE
    have r2:y.rangeAt w.heap.size 0 [.int .i64 t,.slice d9 gs.length k9,.slice d2 qs.length k2]:=hgood 2 (by decide)
    have r3:y.rangeAt (w.heap.size+1) 0 (pcs p9):=hgood 3 (by decide)
    have c0:=rng r2 0 rfl
    have c1:=rng r2 1 rfl
    have c2:=rng r2 2 rfl
    have v0:=rng r3 0 rfl
    have v1:=rng r3 1 rfl
    have v2:=rng r3 2 rfl
    have v3:=rng r3 3 rfl
    have v4:=rng r3 4 rfl
    have v5:=rng r3 5 rfl
    have v6:=rng r3 6 rfl
    have HE9:=hidP hE
    clear hE r2 r3 HDX HBX
    obtain ⟨f,ha,hf⟩:=frameZ 135 2 hdf hsz hout rfl
    clear hf hout hgood hdf hsz
    subst ha
    rw [show (List.range 2).map f=[f 0,f 1] from rfl]
    simp only [tkd,Nat.reduceAdd]
    go_wp2_with fail
    exact bodyPost_ret (v:=.tuple #[.agg #[.int .i64 t,.slice d9 gs.length k9,.slice d2 qs.length k2],.agg #[.int .i64 p9.k,.string p9.b,.int .i64 0,.slice none 0 0,.string p9.h,.string p9.c,.int .i64 p9.t]]) (by simp [results,Tryz.results4,go_sem,c0,c1,c2,v0,v1,v2,v3,v4,v5,v6]) rfl ⟨t,gs,qs,d9,d2,k9,k2,p9,rfl,HE9.out.1.l.z,HF.out.toFit,HE9.out.1.pt,HE9.out.2⟩
end Go.Proofs.YtcjhlhijdacinaaGreatDoor
