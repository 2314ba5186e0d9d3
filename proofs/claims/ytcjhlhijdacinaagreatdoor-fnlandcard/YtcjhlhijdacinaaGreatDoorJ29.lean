import Derived.Test.YtcjhlhijdacinaaGreatDoorJ28
import Derived.Deep.QuietTactic
import Derived.BigQuiet
import Derived.RegionTactic
namespace Go.Proofs.YtcjhlhijdacinaaGreatDoor
open Go.RowKit
set_option linter.unusedVariables false
theorem tab3 {T:TypeId} {Pv:Value→Prop} {Z:Nat} {y:World} {a b c:Value} (hZ:Z≤y.heap.size) (h0:Pv a) (h1:Pv b) (h2:Pv c):Tab T Pv Z 3 (y.alloc (.cells #[a,b,c] T)) (.slice (some ⟨y.heap.size,0,none⟩) 3 3):=by
 refine ⟨_,rfl,hZ,⟨_,_,heap_newZ y _⟩,fun j hj=>?_⟩
 match j,hj with
 | 0,_=>exact ⟨a,by simp [go_sem],h0⟩
 | 1,_=>exact ⟨b,by simp [go_sem],h1⟩
 | 2,_=>exact ⟨c,by simp [go_sem],h2⟩
 | j+3,h=>exact absurd h (by omega)
theorem dvEnd {kr lb b2 B Z g iS c:Nat} {q t:Int} {w V0:World} {S:Nat→Bool} {gs gs':List G.GrantD} {qs qs':List P.PlaceD} {s1 s2:Value} {y y':World} (hd:Dv kr q w V0 iS c S y) (hb:Bkz lb B t gs qs s1 s2 y) (h2:y.there b2 0 3) (he:Ex g y y') (hg:LdO.bs qs s1 s2 g) (hZ:g < Z) (hl:LdB y' B gs' qs' s1 s2) (hF:Fz gs' qs') (hkB:kr < B) (hbB:b2 < B) (hwB:w.heap.size≤B):Fe lb b2 B y'∧Dv kr q w V0 iS (c+1) (sset S iS) y'∧Fv kr Z iS iS y y':=by
 have h1:=(hb.l.lt g hg).1
 have ho:=off_of_ex he
 refine ⟨⟨t,gs',qs',s1,s2,range_off hb.c ho (there_lt hb.f) (fun e=>hb.n g hg e.symm),Nat.lt_of_lt_of_le (there_lt hb.f) he.size,there_off h2 ho (there_lt h2) (by omega),hl,hF⟩,⟨(hd.r.grown (W.ex_grown he) (fun k e=>by cases e; omega)).up (by omega),Ex.other hd.e he (by omega),Nat.le_trans hd.s he.size,fun e=>by simp [sset] at e⟩, ?_⟩
 unfold Fv
 rw [if_pos rfl]
 exact Fa.ex he hZ
theorem fit_setG {gs:List G.GrantD} {qs:List P.PlaceD} {i:Nat} {r r':G.GrantD} (h:Fz gs qs) (hr:gs[i]?=some r) (e1:r'.h=r.h) (e2:r'.b=r.b) (e3:r'.c=r.c):Fz (gs.set i r') qs:=by
 refine ⟨⟨fun x hx=>?_,h.p,by rw [List.length_set]; exact h.gl,h.pl,h.ln⟩,h.n,h.k⟩
 rcases List.mem_or_eq_of_mem_set hx with hx | rfl
 · exact h.g x hx
 obtain ⟨h1,h2,h3⟩:=h.g r (List.mem_of_getElem? hr)
 exact ⟨by rw [e1]; exact h1,by rw [e2]; exact h2,by rw [e3]; exact h3⟩
theorem fit_setP {gs:List G.GrantD} {qs:List P.PlaceD} {i:Nat} {q:P.PlaceD} (h:Fz gs qs) (h1:q.b.size≤maxLen∧∀ x∈q.ws,x.fits) (h2:q.ws.length≤10):Fz gs (qs.set i q):=by
 refine ⟨⟨h.g,fun x hx=>?_,h.gl,by rw [List.length_set]; exact h.pl,fun x hx=>?_⟩,by rw [List.length_set]; exact h.n,fun x hx=>?_⟩
 ·
  rcases List.mem_or_eq_of_mem_set hx with hx | rfl
  · exact h.p x hx
  exact h1
 ·
  rcases List.mem_or_eq_of_mem_set hx with hx | rfl
  · exact h.ln x hx
  omega
 rcases List.mem_or_eq_of_mem_set hx with hx | rfl
 · exact h.k x hx
 exact h2
theorem range_set0 {y:World} {lb:Nat} {a b c v:Value} (h:y.rangeAt lb 0 [a,b,c]):(y.setCell ⟨lb,0,none⟩ v).rangeAt lb 0 [v,b,c]:=by
 intro j u hj
 have d0:=h 0 _ rfl
 have d1:=h 1 _ rfl
 have d2:=h 2 _ rfl
 simp only [Nat.zero_add] at d0 d1 d2 ⊢
 match j,hj with
 | 0,hj=>cases hj; exact World.cell?_setCell_same _ _ _ d0
 | 1,hj=>cases hj; rw [World.cell?_setCell_other _ _ _ _ (fun h'=>by have:=congrArg Addr.off h'; simp at this)]; exact d1
 | 2,hj=>cases hj; rw [World.cell?_setCell_other _ _ _ _ (fun h'=>by have:=congrArg Addr.off h'; simp at this)]; exact d2
 | j+3,hj=>simp at hj
theorem he_cell {X g j:Nat} {y y':World} (he:Ex X y y') (hg:g < y.heap.size) (hn:g≠X):y'.cell? ⟨g,j,none⟩=y.cell? ⟨g,j,none⟩:=he.cell (p:=⟨g,j,none⟩) hg hn
def LS2:List Nat:=[60,61,62,63,64,65,66,67,68,69,70,71,72,73,74,75,100016]
def GS2 (Z kr lb b2 B g n c:Nat) (t:Int) (y:World) (V:Nat→Value):Nat→Prop
 | 0=>V 0=.pointer (some ⟨lb,1,none⟩)
 | 1=>V 1=.slice (some ⟨g,0,none⟩) n c
 | 2=>V 2=.pointer (some ⟨lb,0,none⟩)
 | 3=>V 3=.int .i64 t
 | 4=>V 4=.int .i64 (t+32)
 | 5=>V 5=.pointer (some ⟨lb,0,none⟩)
 | 6=>V 6=.int .i64 t
 | 7=>V 7=.int .i64 (t+32)
 | 8=>V 8=.int .i64 (t+32+1)
 | 9=>Tab 3 (Nm (-1) 200) Z 3 y (V 9)
 | 10=>V 10=.pointer (some ⟨kr,0,none⟩)
 | 11=>Nm 0 (3 - 1) (V 11)
 | 12=>Cel 3 (Nm (-1) 200) Z y (V 12)
 | 13=>Nm (-1) 200 (V 13)
 | 14=>V 14=.pointer (some ⟨g,0,none⟩)
 | 15=>V 15=.pointer (some ⟨g,4,none⟩)
 | 16=>Fe lb b2 B y
 | _=>True
theorem GS2.keep {Z kr lb b2 B g n c:Nat} {t:Int} {i:Nat} {y y':World} {V:Nat→Value} (hk:kr < Z) (h1:kr < B) (h2:lb≠kr) (h3:b2≠kr) (hf:Fv kr Z 16 i y y'):∀ j,i≠j→GS2 Z kr lb b2 B g n c t y V j→GS2 Z kr lb b2 B g n c t y' V j:=by
 have hb:Fb 26 Z y y':=Or.inl (hf.fa hk)
 intro j hne h
 match j,h with
 | 0,h=>exact h
 | 1,h=>exact h
 | 2,h=>exact h
 | 3,h=>exact h
 | 4,h=>exact h
 | 5,h=>exact h
 | 6,h=>exact h
 | 7,h=>exact h
 | 8,h=>exact h
 | 9,h=>exact Tab.keep h (by decide) hb
 | 10,h=>exact h
 | 11,h=>exact h
 | 12,h=>exact Cel.keep h (by decide) hb
 | 13,h=>exact h
 | 14,h=>exact h
 | 15,h=>exact h
 | 16,h=>exact Fe.ex h (hf.ex hne) h1 h2 h3
 | _+17,h=>exact h
def LS4:List Nat:=[99,100,101,102,103,104,105,106,107,100009]
def GS4 (Z kr lb b2 B g n c:Nat) (y:World) (V:Nat→Value):Nat→Prop
 | 0=>V 0=.pointer (some ⟨lb,2,none⟩)
 | 1=>V 1=.slice (some ⟨g,0,none⟩) n c
 | 2=>Tab 3 (Nm 0 1000001) Z 3 y (V 2)
 | 3=>V 3=.pointer (some ⟨kr,0,none⟩)
 | 4=>Nm 0 (3 - 1) (V 4)
 | 5=>Cel 3 (Nm 0 1000001) Z y (V 5)
 | 6=>Nm 0 1000001 (V 6)
 | 7=>V 7=.pointer (some ⟨g,0,none⟩)
 | 8=>V 8=.pointer (some ⟨g,1,none⟩)
 | 9=>Fe lb b2 B y
 | _=>True
theorem GS4.keep {Z kr lb b2 B g n c:Nat} {i:Nat} {y y':World} {V:Nat→Value} (hk:kr < Z) (h1:kr < B) (h2:lb≠kr) (h3:b2≠kr) (hf:Fv kr Z 9 i y y'):∀ j,i≠j→GS4 Z kr lb b2 B g n c y V j→GS4 Z kr lb b2 B g n c y' V j:=by
 have hb:Fb 26 Z y y':=Or.inl (hf.fa hk)
 intro j hne h
 match j,h with
 | 0,h=>exact h
 | 1,h=>exact h
 | 2,h=>exact Tab.keep h (by decide) hb
 | 3,h=>exact h
 | 4,h=>exact h
 | 5,h=>exact Cel.keep h (by decide) hb
 | 6,h=>exact h
 | 7,h=>exact h
 | 8,h=>exact h
 | 9,h=>exact Fe.ex h (hf.ex hne) h1 h2 h3
 | _+10,h=>exact h
def LS5:List Nat:=[123,124,125,126,127,128,129,130,131,132,133,134,135,136,137,100015]
def GS5 (Z kr lb b2 B g n c wg wn wc:Nat) (r0:W.WantD) (y:World) (V:Nat→Value):Nat→Prop
 | 0=>V 0=.pointer (some ⟨lb,2,none⟩)
 | 1=>V 1=.slice (some ⟨g,0,none⟩) n c
 | 2=>V 2=.pointer (some ⟨g,0,none⟩)
 | 3=>V 3=.pointer (some ⟨g,2,none⟩)
 | 4=>V 4=.slice (some ⟨wg,0,none⟩) wn wc
 | 5=>V 5=.pointer (some ⟨kr,0,none⟩)
 | 6=>V 6=.pointer (some ⟨lb,2,none⟩)
 | 7=>V 7=.slice (some ⟨g,0,none⟩) n c
 | 8=>V 8=.pointer (some ⟨g,0,none⟩)
 | 9=>V 9=.pointer (some ⟨g,2,none⟩)
 | 10=>V 10=.slice (some ⟨wg,0,none⟩) wn wc
 | 11=>V 11=.pointer (some ⟨wg,0,none⟩)
 | 12=>V 12=.agg #[.string r0.c,.int .i64 r0.v,.string r0.h,.int .i64 r0.p,.int .i64 r0.s,.int .i64 r0.d,.int .i64 r0.g]
 | 13=>∃ r:W.WantD,V 13=.agg #[.string r.c,.int .i64 r.v,.string r.h,.int .i64 r.p,.int .i64 r.s,.int .i64 r.d,.int .i64 r.g]∧r.fits
 | 14=>V 14=.pointer (some ⟨wg,0,none⟩)
 | 15=>Fe lb b2 B y
 | _=>True
theorem GS5.keep {Z kr lb b2 B g n c wg wn wc:Nat} {r0:W.WantD} {i:Nat} {y y':World} {V:Nat→Value} (hk:kr < Z) (h1:kr < B) (h2:lb≠kr) (h3:b2≠kr) (hf:Fv kr Z 15 i y y'):∀ j,i≠j→GS5 Z kr lb b2 B g n c wg wn wc r0 y V j→GS5 Z kr lb b2 B g n c wg wn wc r0 y' V j:=by
 have hb:Fb 26 Z y y':=Or.inl (hf.fa hk)
 intro j hne h
 match j,h with
 | 0,h=>exact h
 | 1,h=>exact h
 | 2,h=>exact h
 | 3,h=>exact h
 | 4,h=>exact h
 | 5,h=>exact h
 | 6,h=>exact h
 | 7,h=>exact h
 | 8,h=>exact h
 | 9,h=>exact h
 | 10,h=>exact h
 | 11,h=>exact h
 | 12,h=>exact h
 | 13,h=>exact h
 | 14,h=>exact h
 | 15,h=>exact Fe.ex h (hf.ex hne) h1 h2 h3
 | _+16,h=>exact h
def LS1:List Nat:=[33,34,35,36,37,38,39,40,41,42,43,44,45,46,47,48,49,50,51,52,53,100021]
def GS1 (Z kr lb B:Nat) (t:Int) (gs:List G.GrantD) (qs:List P.PlaceD) (s1 s2:Value) (y:World) (V:Nat→Value):Nat→Prop
 | 0=>V 0=.pointer (some ⟨lb,1,none⟩)
 | 1=>V 1=s1
 | 2=>Tab 9 (Tx 4) Z 4 y (V 2)
 | 3=>V 3=.pointer (some ⟨kr,0,none⟩)
 | 4=>Nm 0 (4 - 1) (V 4)
 | 5=>Cel 9 (Tx 4) Z y (V 5)
 | 6=>Tx 4 (V 6)
 | 7=>Tab 9 (Tx 4) Z 2 y (V 7)
 | 8=>V 8=.pointer (some ⟨kr,0,none⟩)
 | 9=>Nm 0 (2 - 1) (V 9)
 | 10=>Cel 9 (Tx 4) Z y (V 10)
 | 11=>Tx 4 (V 11)
 | 12=>V 12=.pointer (some ⟨kr,0,none⟩)
 | 13=>Nm 0 (3 - 1) (V 13)
 | 14=>∃ z,V 14=.int .i64 z
 | 15=>V 15=.pointer (some ⟨kr,0,none⟩)
 | 16=>Nm 0 (200 - 1) (V 16)
 | 17=>∃ g:G.GrantD,V 17=.agg #[.string g.h,.string g.b,.string g.c,.int .i64 g.t,.int .i64 g.u]∧Sg g
 | 18=>G1 Z y (V 18)
 | 19=>Ap lb B gs qs s2 y (V 19)
 | 20=>V 20=.pointer (some ⟨lb,1,none⟩)
 | 21=>∃ v,Ap lb B gs qs s2 y v∧y.rangeAt lb 0 [.int .i64 t,v,s2]∧y.there lb 0 3
 | _=>True
theorem GS1.keep {Z kr lb B:Nat} {t:Int} {gs:List G.GrantD} {qs:List P.PlaceD} {s1 s2:Value} {i:Nat} {y y':World} {V:Nat→Value} (hk:kr < Z) (hl:lb < Z) (hr:∀ g,s1.ownBlock=some g→g < Z) (hkB:kr < B) (hlk:lb≠kr) (hf:Fd kr lb 19 21 s1.ownBlock i y y'):∀ j,i≠j→(i=19→j≠21)→GS1 Z kr lb B t gs qs s1 s2 y V j→GS1 Z kr lb B t gs qs s1 s2 y' V j:=by
 have hf':=hf.fa hk hl hr
 have hb:Fb 26 Z y y':=Or.inl hf'
 intro j hne hA h
 match j,h with
 | 0,h=>exact h
 | 1,h=>exact h
 | 2,h=>exact Tab.keep h (by decide) hb
 | 3,h=>exact h
 | 4,h=>exact h
 | 5,h=>exact Cel.keep h (by decide) hb
 | 6,h=>exact h
 | 7,h=>exact Tab.keep h (by decide) hb
 | 8,h=>exact h
 | 9,h=>exact h
 | 10,h=>exact Cel.keep h (by decide) hb
 | 11,h=>exact h
 | 12,h=>exact h
 | 13,h=>exact h
 | 14,h=>exact h
 | 15,h=>exact h
 | 16,h=>exact h
 | 17,h=>exact h
 | 18,h=>exact G1.keep h hf'
 | 19,h=>exact Ap.fd h hf hne hkB
 | 20,h=>exact h
 | 21,h =>
  obtain ⟨v,h1,h2,h3⟩:=h
  have he:=hf.kr (fun e=>hA e rfl) hne
  exact ⟨v,h1.ex he (Or.inr hkB),range_off h2 (off_of_ex he) (there_lt h3) hlk,there_off h3 (off_of_ex he) (there_lt h3) hlk⟩
 | _+22,h=>exact h
def LS3:List Nat:=[78,79,80,81,82,83,84,85,86,87,88,89,90,91,92,100015]
def GS3 (Z kr lb b2 B:Nat) (gs:List G.GrantD) (qs:List P.PlaceD) (s1 s2:Value) (y:World) (V:Nat→Value):Nat→Prop
 | 0=>V 0=.pointer (some ⟨lb,2,none⟩)
 | 1=>V 1=s2
 | 2=>Tab 9 (Tx 4) Z 3 y (V 2)
 | 3=>V 3=.pointer (some ⟨kr,0,none⟩)
 | 4=>Nm 0 (3 - 1) (V 4)
 | 5=>Cel 9 (Tx 4) Z y (V 5)
 | 6=>Tx 4 (V 6)
 | 7=>V 7=.pointer (some ⟨kr,0,none⟩)
 | 8=>Nm 0 (3 - 1) (V 8)
 | 9=>V 9=.pointer (some ⟨kr,0,none⟩)
 | 10=>Ws Z y (V 10)
 | 11=>∃ p:P.PlaceD,V 11=.agg #[.string p.b,.int .i64 p.s,.slice p.a p.ws.length p.c]∧Sq p∧W.Ow y (.slice p.a p.ws.length p.c) p.ws Z
 | 12=>Q1 Z y (V 12)
 | 13=>Aq lb B gs qs s1 y (V 13)
 | 14=>V 14=.pointer (some ⟨lb,2,none⟩)
 | 15=>Fe lb b2 B y
 | _=>True
theorem GS3.keep {Z kr lb b2 B:Nat} {gs:List G.GrantD} {qs:List P.PlaceD} {s1 s2:Value} {i:Nat} {y y':World} {V:Nat→Value} (hk:kr < Z) (hl:lb < Z) (hr:∀ g,s2.ownBlock=some g→g < Z) (hkB:kr < B) (hlk:lb≠kr) (hbk:b2≠kr) (hf:Fd kr lb 13 15 s2.ownBlock i y y'):∀ j,i≠j→(i=13→j≠15)→GS3 Z kr lb b2 B gs qs s1 s2 y V j→GS3 Z kr lb b2 B gs qs s1 s2 y' V j:=by
 have hf':=hf.fa hk hl hr
 have hb:Fb 26 Z y y':=Or.inl hf'
 intro j hne hA h
 match j,h with
 | 0,h=>exact h
 | 1,h=>exact h
 | 2,h=>exact Tab.keep h (by decide) hb
 | 3,h=>exact h
 | 4,h=>exact h
 | 5,h=>exact Cel.keep h (by decide) hb
 | 6,h=>exact h
 | 7,h=>exact h
 | 8,h=>exact h
 | 9,h=>exact h
 | 10,h=>exact Ws.keep h (by decide) hb
 | 11,h=>exact by obtain ⟨p,h1,h2,h3⟩:=h; exact ⟨p,h1,h2,h3.fb (by decide) hb⟩
 | 12,h=>exact Q1.keep h hf'
 | 13,h =>
  obtain ⟨X,he,hX⟩:=fd_ex hf hne hkB
  exact Aq.ex h he hX
 | 14,h=>exact h
 | 15,h=>exact Fe.ex h (hf.kr (fun e=>hA e rfl) hne) hkB hlk hbk
 | _+16,h=>exact h
set_option maxRecDepth 4000 in
set_option maxHeartbeats 4000000 in
theorem spoil6 (kr:Nat) (q t:Int) (gs:List G.GrantD) (ps:List P.PlaceD) (a1 a2:Option Addr) (c1 c2:Nat) (w:World) (hA:P.LandZ w gs ps a1 a2 c1) (hF:Fz gs ps) (hgl:gs.length≤1000) (hpl:ps.length≤50) (ht:0≤t∧t≤78) (hr:Rq w kr q) (hq:q < 600000) :
  Calls Tryz.prog 46 #[.pointer (some ⟨kr,0,none⟩),.agg #[.int .i64 t,.slice a1 gs.length c1,.slice a2 ps.length c2]] w fun e w'=>∃ t gs qs s1 s2,e=.returned (.agg #[.int .i64 t,s1,s2])∧LdB w' w.heap.size gs qs s1 s2∧Fz gs qs∧Rq w' kr (q+10000)∧Ex kr w w':=by
 have hinfo:(Tryz.prog.info? 26).map (·.size)=some 3:=by kernel_rfl
 have hkr:=hr.lt
 have HR:=hidP hr
 have HA:=hidP hA
 have HF0:=hidP hF
 clear hr hA hF
 go_enter Tryz.func46,Tryz.ntmps46
 go_wp2_with fail
 obtain ⟨W1,hW1⟩:∃ W1,W1=(w.alloc (.cells #[.int .i64 t,.slice a1 gs.length c1,.slice a2 ps.length c2] 26)).alloc (.cells #[.int .i64 0,.slice none 0 0,.slice none 0 0] 26):=⟨_,rfl⟩
 have B1:Below w.heap.size w W1:=by rw [hW1]; exact bl_alloc (bl_alloc bR _) _
 have T1:W1.there (w.heap.size+1) 0 3:=by rw [hW1]; exact fun j hj=>⟨by simp [go_sem]; omega,by simp [go_sem]⟩
 have z1:W1.heap.size=w.heap.size+2:=by rw [hW1]; simp
 rw [← hW1]
 refine (l6Copy_z t gs ps a1 a2 c1 c2 W1 (HA.out.keep B1).g (HA.out.keep B1).p (HA.out.keep B1).k HF0.out.gl HF0.out.pl HF0.out.ln).mono ?_
 rintro e w1 ⟨⟨qs,s1,s2,rfl,hlk,hl,-,-,hog,hoq,-⟩,hb⟩
 obtain ⟨d1,k1,rfl⟩:=G.Sl.shape hl.g
 obtain ⟨d2,k2,hs2⟩:=Pr.Sl.shape hl.p.o
 rw [List.length_map] at hs2
 subst hs2
 have hF:=HF0.out.like hlk
 have hql:qs.length≤50:=by rw [hlk.len]; exact hpl
 obtain ⟨B,hB⟩:∃ B,B=W1.heap.size:=⟨_,rfl⟩
 obtain ⟨lb,hlb⟩:∃ lb,lb=w1.heap.size:=⟨_,rfl⟩
 have hBl:B≤lb:=by rw [hB,hlb]; exact hb.size
 have K0:Hid (∀ y,y=w1.alloc (.cells #[.int .i64 t,.slice d1 gs.length k1,.slice d2 qs.length k2] 26)→Bkz lb B t gs qs (.slice d1 gs.length k1) (.slice d2 qs.length k2) y∧OG B gs y (.slice d1 gs.length k1)∧OQ B (qs.map Pr.raw) y (.slice d2 qs.length k2)∧y.there (w.heap.size+1) 0 3∧Rq y kr q∧Ex kr w y∧lb < y.heap.size):=by
  rintro y rfl
  have hb2:Below w1.heap.size w1 (w1.alloc (.cells #[.int .i64 t,.slice d1 gs.length k1,.slice d2 qs.length k2] 26)):=bl_alloc bR _
  rw [hB,hlb]
  exact ⟨⟨fun j u hj=>by rw [← hj]; simp [go_sem],fun j hj=>⟨by simp [go_sem]; omega,by simp [go_sem]⟩,hl.keep hb2,fun g hg=>by have:=(hl.lt g hg).2; omega⟩,OG.keep hog hb2,OQ.keep hoq hb2,there_keep2 (there_keep2 T1 (by omega) hb) (by omega) hb2,(HR.out.below (bl_trans B1 hb)).below hb2,(Ex.of_below (bl_trans B1 hb)).trans (Ex.of_below hb2),by simp⟩
 clear HA HF0 HR hl hog hoq hlk hb B1 T1 hW1
 go_wp2_with fail
 rw [← hlb]
 obtain ⟨w1',hw1'⟩:∃ y,y=w1.alloc (.cells #[.int .i64 t,.slice d1 gs.length k1,.slice d2 qs.length k2] 26):=⟨_,rfl⟩
 have K1:=K0.out w1' hw1'
 rw [← hw1']
 obtain ⟨kb,ko,kq,kt,kr1,ke,kl⟩:=K1
 have hkB:kr < B:=by omega
 have hbB:w.heap.size+1 < B:=by omega
 have hwB:w.heap.size≤B:=by omega
 have hlk:lb≠kr:=by omega
 have hbk:w.heap.size+1≠kr:=by omega
 refine (pickQ kr q 7 _ kr1 (by omega) (by omega) (by omega)).mono ?_
 rintro e w2 ⟨m,rfl,m0,m1,r2,e2⟩
 obtain ⟨q2,hq2⟩:∃ q2,q2=q+1:=⟨_,rfl⟩
 have HR2:Hid (Rq w2 kr q2):=by rw [hq2]; exact r2
 have HE2:Hid (Ex kr w w2):=ke.trans e2
 have HC:Hid (∀ y,Ex kr w2 y→Bkz lb B t gs qs (.slice d1 gs.length k1) (.slice d2 qs.length k2) y):=fun y hy=>kb.ex (e2.trans hy) hkB hlk
 have HO:Hid (∀ y,Ex kr w2 y→OG B gs y (.slice d1 gs.length k1)):=fun y hy=>OG.ex ko (e2.trans hy) (fun g hg=>by have:=(kb.l.g.lt g hg).1; omega)
 have HOZ:Hid (∀ y,Ex kr w2 y→OGz B gs y (.slice d1 gs.length k1)):=fun y hy=>Or.inl (HO.out y hy)
 have HQ:Hid (∀ y,Ex kr w2 y→OQ B (qs.map Pr.raw) y (.slice d2 qs.length k2)):=fun y hy=>OQ.ex kq (e2.trans hy) (fun g hg=>by have:=(kb.l.p.o.lt g hg).1; omega)
 have HT:Hid (∀ y,Ex kr w2 y→y.there (w.heap.size+1) 0 3):=fun y hy=>there_off kt (off_of_ex (e2.trans hy)) (there_lt kt) hbk
 have HF:=hidP hF
 have HX:Hid (FeX lb (w.heap.size+1) B t gs qs (.slice d1 gs.length k1) (.slice d2 qs.length k2) w2):=⟨(HC.out w2 (Ex.refl _ _)).c,there_lt (HC.out w2 (Ex.refl _ _)).f,HT.out w2 (Ex.refl _ _),(HC.out w2 (Ex.refl _ _)).l.b,hF⟩
 have hkz:kr < w2.heap.size:=Nat.lt_of_lt_of_le hkr HE2.out.size
 have hlz:lb < w2.heap.size:=Nat.lt_of_lt_of_le kl e2.size
 have hz:kr < w.heap.size∧w.heap.size≤w.heap.size+1∧w.heap.size+1 < lb∧lb < w2.heap.size:=by omega
 obtain ⟨l0,l1,l2⟩:=(HC.out w2 (Ex.refl _ _)).cs
 clear kb ko kq kt kr1 ke kl r2 e2 hF K0 hw1' hlb hB z1
 obtain rfl | rfl | rfl | rfl | rfl | rfl | rfl:m=0∨m=1∨m=2∨m=3∨m=4∨m=5∨m=6:=by omega
 case' inl =>
  go_wp2_with fail
  refine (pickQ kr q2 4 _ (HR2.out.below (bl_alloc bR _)) (by omega) (by omega) (by omega)).mono ?_
  rintro e w3 ⟨m,rfl,m0,m1,r3,e3⟩
  have e4:Ex kr w2 w3:=(Ex.of_below (bl_alloc bR _)).trans e3
  obtain ⟨m,rfl⟩:=Int.eq_ofNat_of_zero_le m0
  obtain ⟨t,hz9⟩:∃ t:Int,w3.cell? ⟨w2.heap.size,m,none⟩=some (.int .i64 t):=by
   have hc:∀ j,w3.cell? ⟨w2.heap.size,j,none⟩=(#[.int .i64 (-2),.int .i64 1,.int .i64 2000000,.int .i64 2000002]:Array Value)[j]?:=fun j=>(he_cell e3 (by simp) (by omega)).trans (by simp [go_sem])
   obtain rfl | rfl | rfl | rfl:m=0∨m=1∨m=2∨m=3:=by omega
   all_goals exact ⟨_,hc _⟩
  have hmi:(m:Int) < 4:=by omega
  have hb:=HC.out w3 e4
  obtain ⟨y0,y1,y2⟩:=hb.cs
  have f0:w3.frozen? ⟨lb,0,none⟩=false:=by simpa using (hb.f 0 (by omega)).2
  have he:Ex lb w3 (w3.setCell ⟨lb,0,none⟩ (.int .i64 t)):=(Ex.refl _ _).set _ _
  have HX:Hid (FeX lb (w.heap.size+1) B t gs qs (.slice d1 gs.length k1) (.slice d2 qs.length k2) (w3.setCell ⟨lb,0,none⟩ (.int .i64 t))):=⟨range_set0 hb.c,Nat.lt_of_lt_of_le (there_lt hb.f) he.size,there_off (HT.out w3 e4) (off_of_ex he) (there_lt (HT.out w3 e4)) (by omega),hb.l.b.off (off_of_ex he) (fun g hg e=>hb.n g hg e),HF.out⟩
  have HR3:Hid (Rq (w3.setCell ⟨lb,0,none⟩ (.int .i64 t)) kr (q2+6000)):=(r3.grown (W.ex_grown he) (fun k e=>by cases e; omega)).up (by omega)
  have HE3:Hid (Ex kr w (w3.setCell ⟨lb,0,none⟩ (.int .i64 t))):=Ex.other (HE2.out.trans e4) he (by omega)
  clear hb he r3 e3 e4 l0 l1 l2
 case' inr.inl =>
  obtain ⟨Z,hZ⟩:∃ Z,Z=w2.heap.size:=⟨_,rfl⟩
  have hkZ:kr < Z:=by omega
  have hlZ:lb < Z:=by omega
  have hD:∀ i c S y,Da kr q2 w w2 (w.heap.size+1) lb t (.slice d1 gs.length k1) (.slice d2 qs.length k2) 19 21 c S y→Da kr q2 w w2 (w.heap.size+1) lb t (.slice d1 gs.length k1) (.slice d2 qs.length k2) 19 21 (c+1) (sset S i) y:=fun i c S y h=>h.up
  have hnx:∀ {ops:Array Oper} i,Nx kr q2 ops (Da kr q2 w w2 (w.heap.size+1) lb t (.slice d1 gs.length k1) (.slice d2 qs.length k2) 19 21) i:=fun i=>Da.nx hz i
  have hZs:∀ c S y,Da kr q2 w w2 (w.heap.size+1) lb t (.slice d1 gs.length k1) (.slice d2 qs.length k2) 19 21 c S y→Z≤y.heap.size:=fun c S y h=>by rw [hZ]; exact h.s
  have hRx:∀ i,i≠19→i≠21→∀ y,Fd kr lb 19 21 (Value.ownBlock (.slice d1 gs.length k1)) i y y:=fun i h1 h2 y=>by unfold Fd; rw [if_neg h1,if_neg h2]; exact Ex.refl _ _
  have hFx:∀ i,i≠19→i≠21→∀ y y',Ex kr y y'→Fd kr lb 19 21 (Value.ownBlock (.slice d1 gs.length k1)) i y y':=fun i h1 h2 y y' h=>by unfold Fd; rw [if_neg h1,if_neg h2]; exact h
  have hq1:q2+200 * (LS1.length:Int) < 1000000:=by show q2+200 * ((22:Nat):Int) < 1000000; omega
  go_wp2_with fail
  refine wp_region_any (by kernel_rfl) ?_
  refine reg_invZ LS1 (GS1 Z kr lb B t gs qs (.slice d1 gs.length k1) (.slice d2 qs.length k2)) (Da kr q2 w w2 (w.heap.size+1) lb t (.slice d1 gs.length k1) (.slice d2 qs.length k2) 19 21) (Fd kr lb 19 21 (Value.ownBlock (.slice d1 gs.length k1))) (by kernel_rfl) (fun i j y y' V S hne hY hj hf h=>GS1.keep hkZ hlZ (fun g hg=>by rw [hZ]; exact ((HC.out w2 (Ex.refl _ _)).l.g.lt g hg).2) hkB hlk hf j hne (fun e1 e2=>by subst e1 e2; have:=hY.tr 21 19 rfl hj; rw [hY.n] at this; cases this) h) ?stS1 ?ctS1 ?doneS1
  case' ctS1 =>
   intro i hi
   match i,hi with
   | 0,_ =>
    refine ctp (hD _) (hRx _ (by decide) (by decide)) rfl rfl rfl fun x y c S yy g oo dd K hK=>?_
    have o5:x.tmps[5]?.getD undef=.pointer (some ⟨lb,0,none⟩):=ev_tmp (oo.out 5 rfl)
    clear g oo dd yy
    go_simp
    exact hK.out _ rfl
   | 1,_ =>
    refine ctp (hD _) (hRx _ (by decide) (by decide)) rfl rfl rfl fun x y c S yy g oo dd K hK=>?_
    have e1:x.tmps[33]?.getD undef=_:=ev_tmp (g.out 0 rfl)
    obtain ⟨-,k1,-⟩:=(HC.out y (dd.out.o (yy.out.no [1] 19 rfl rfl))).cs
    clear g oo dd yy
    go_simp
    exact hK.out _ rfl
   | 2,_ =>
    exact ctTab (hnx _) hZs #[.string ⟨#[]⟩,.string ⟨#[122,122]⟩,.string ⟨#[105,112]⟩,.string ⟨#[42]⟩] rfl rfl rfl (fun _ _=>by kernel_rfl) (txAll (m:=4) (by kernel_rfl)) (hFx _ (by decide) (by decide)) (fun _ _ h=>h)
   | 3,_ =>
    exact ctOut (hD _) (hRx _ (by decide) (by decide)) rfl rfl rfl rfl rfl rfl (fun _ _ e=>e)
   | 4,_ =>
    exact ctPick (hnx _) 4 (by omega) (by omega) hq1 3 rfl rfl rfl rfl rfl rfl (fun _ _ h=>h) (hFx _ (by decide) (by decide)) (fun _ _ h=>h)
   | 5,_ =>
    exact ctIxS (hD _) (hRx _ (by decide) (by decide)) 2 4 rfl rfl rfl rfl rfl rfl rfl rfl (fun _ _ h=>h) (fun _ _ h=>nm_nat h (by omega) (by omega)) (fun _ _ h=>h)
   | 6,_ =>
    exact ctLdS (hD _) (hRx _ (by decide) (by decide)) 5 rfl rfl rfl rfl rfl rfl (fun _ _ h=>h) (fun _ _ h=>h)
   | 7,_ =>
    exact ctTab (hnx _) hZs #[.string ⟨#[]⟩,.string ⟨#[97]⟩] rfl rfl rfl (fun _ _=>by kernel_rfl) (txAll (m:=4) (by kernel_rfl)) (hFx _ (by decide) (by decide)) (fun _ _ h=>h)
   | 8,_ =>
    exact ctOut (hD _) (hRx _ (by decide) (by decide)) rfl rfl rfl rfl rfl rfl (fun _ _ e=>e)
   | 9,_ =>
    exact ctPick (hnx _) 2 (by omega) (by omega) hq1 8 rfl rfl rfl rfl rfl rfl (fun _ _ h=>h) (hFx _ (by decide) (by decide)) (fun _ _ h=>h)
   | 10,_ =>
    exact ctIxS (hD _) (hRx _ (by decide) (by decide)) 7 9 rfl rfl rfl rfl rfl rfl rfl rfl (fun _ _ h=>h) (fun _ _ h=>nm_nat h (by omega) (by omega)) (fun _ _ h=>h)
   | 11,_ =>
    exact ctLdS (hD _) (hRx _ (by decide) (by decide)) 10 rfl rfl rfl rfl rfl rfl (fun _ _ h=>h) (fun _ _ h=>h)
   | 12,_ =>
    exact ctOut (hD _) (hRx _ (by decide) (by decide)) rfl rfl rfl rfl rfl rfl (fun _ _ e=>e)
   | 13,_ =>
    exact ctPick (hnx _) 3 (by omega) (by omega) hq1 12 rfl rfl rfl rfl rfl rfl (fun _ _ h=>h) (hFx _ (by decide) (by decide)) (fun _ _ h=>h)
   | 14,_ =>
    refine ctp (hD _) (hRx _ (by decide) (by decide)) rfl rfl rfl fun x y c S yy g oo dd K hK=>?_
    obtain ⟨z,e1,z0,z1⟩:=g.out 13 rfl
    have e1:x.tmps[46]?.getD undef=_:=ev_tmp e1
    clear g oo dd yy
    go_simp
    exact hK.out _ ⟨_,rfl⟩
   | 15,_ =>
    exact ctOut (hD _) (hRx _ (by decide) (by decide)) rfl rfl rfl rfl rfl rfl (fun _ _ e=>e)
   | 16,_ =>
    exact ctPick (hnx _) 200 (by omega) (by omega) hq1 15 rfl rfl rfl rfl rfl rfl (fun _ _ h=>h) (hFx _ (by decide) (by decide)) (fun _ _ h=>h)
   | 17,_ =>
    refine ctp (hD _) (hRx _ (by decide) (by decide)) rfl rfl rfl fun x y c S yy g oo dd K hK=>?_
    obtain ⟨h,e1,h1⟩:=g.out 6 rfl
    obtain ⟨b,e2,h2⟩:=g.out 11 rfl
    obtain ⟨z,e4⟩:=g.out 14 rfl
    obtain ⟨u,e5,-,-⟩:=g.out 16 rfl
    have e1:x.tmps[39]?.getD undef=_:=ev_tmp e1
    have e2:x.tmps[44]?.getD undef=_:=ev_tmp e2
    have e4:x.tmps[47]?.getD undef=_:=ev_tmp e4
    have e5:x.tmps[49]?.getD undef=_:=ev_tmp e5
    clear g oo dd yy
    go_simp
    exact hK.out _ ⟨⟨h,b,⟨#[99]⟩,z,u⟩,rfl,h1,h2,by show 1≤4; omega⟩
   | 18,_ =>
    refine ct rfl rfl rfl fun x y c S hc yy g oo dd K hK=>?_
    obtain ⟨g1,e1,h1⟩:=g.out 17 rfl
    have e1:x.tmps[50]?.getD undef=_:=ev_tmp e1
    have hb:=bld1G g1
    clear g oo
    go_simp
    have hbl:Below y.heap.size y (y.alloc (.cells g1.cells.toArray 40)):=bl_alloc bR _
    exact hK.out _ _ ⟨_,g1,rfl,hZs c S y dd.out,heap_newZ y _,h1⟩ ((hnx _).below yy.out dd.out hbl) (hFx _ (by decide) (by decide) _ _ (Ex.of_below hbl))
   | 19,_ =>
    refine ct rfl rfl rfl fun x y c S hc yy g oo dd K hK=>?_
    have e1:=g.out 1 rfl
    obtain ⟨b,g1,e2,hb1,hb2,hs1⟩:=g.out 18 rfl
    have hE:=dd.out.o yy.out.n
    refine wpAppG (.tmp 34) (.tmp 51) rfl e1 (HOZ.out y hE) e2 (blk_cells hb2) hgl (by have:=dd.out.s; omega) ?_
    intro v' y' o1 g9 hat
    obtain ⟨h1,h2,h3⟩:=apEnd hz dd.out (HC.out y hE) hs1 o1 g9 hat hkB hbB hwB
    exact hK.out _ _ h1 h2 h3
   | 20,_ =>
    refine ctp (hD _) (hRx _ (by decide) (by decide)) rfl rfl rfl fun x y c S yy g oo dd K hK=>?_
    have o5:x.tmps[5]?.getD undef=.pointer (some ⟨lb,0,none⟩):=ev_tmp (oo.out 5 rfl)
    clear g oo dd yy
    go_simp
    exact hK.out _ rfl
   | 21,_ =>
    refine ctn rfl rfl fun x y c S hc yy g oo dd K hK=>?_
    obtain ⟨g1,hs1,hl,ho,hn⟩:=g.out 19 rfl
    obtain ⟨av,cv,hv⟩:=OG.shape ho
    rw [show (gs++[g1]).length=gs.length+1 by simp] at hv
    have e25:x.tmps[52]?.getD undef=_:=ev_tmp hv
    have e26:x.tmps[53]?.getD undef=_:=ev_tmp (g.out 20 rfl)
    rw [hv] at hl ho hn
    obtain ⟨k9,f9⟩:=dd.out.l yy.out.n
    have c1:=k9 1 _ rfl
    rw [Nat.zero_add] at c1
    have f1:y.frozen? ⟨lb,1,none⟩=false:=by simpa using (f9 1 (by omega)).2
    have h25:=yy.out.l 19 rfl
    have HL:Hid (Ap lb B gs qs _ y _):=⟨g1,hs1,hl,ho,hn⟩
    have HK9:Hid (y.rangeAt lb 0 [_,_,_]∧y.there lb 0 3):=⟨k9,f9⟩
    clear g oo hl ho hv k9 f9 hn
    go_simp
    obtain ⟨h1,h2,h3⟩:=asEnd (v:=.slice av (gs.length+1) cv) hz dd.out HL.out HK9.out.1 HK9.out.2 h25 (by decide)
    exact hK.out _ h1 h2 h3
   | _+22,h=>exact absurd h (by show ¬ (_ < 22); omega)
  case' stS1=>exact daStart HR2.out HE2.out (HT.out w2 (Ex.refl _ _)) (HC.out w2 (Ex.refl _ _))
  case' doneS1 =>
   intro a y c hdf hsz hout hgood hc hE
   obtain ⟨v9,⟨g9,hs9,hl9,ho9,hn9⟩,hr9,hf9⟩:=(hgood 21 (by decide):∃ v,Ap lb B gs qs _ y v∧_)
   obtain ⟨d1,k1,rfl⟩:=OG.shape ho9
   obtain ⟨gs,hgs⟩:∃ x,x=gs++[g9]:=⟨_,rfl⟩
   have HX:Hid (FeX lb (w.heap.size+1) B t gs qs (.slice d1 gs.length k1) (.slice d2 qs.length k2) y):=by rw [hgs]; exact ⟨hr9,there_lt hf9,hE.b,hl9.b,⟨fit_app HF.out.toFit hs9 hgl,HF.out.n,HF.out.k⟩⟩
   have HR3:Hid (Rq y kr (q2+6000)):=hE.r.up (by have h9:c≤22:=hc; omega)
   have HE3:=hidP hE.e
   clear hE hr9 hf9 hl9 ho9 hn9 hgs
   obtain ⟨f,ha,hf⟩:=frameZ 33 21 hdf hsz hout rfl
   clear hf hout hgood hdf hsz
   subst ha
   rw [show (List.range 21).map f=[f 0,f 1,f 2,f 3,f 4,f 5,f 6,f 7,f 8,f 9,f 10,f 11,f 12,f 13,f 14,f 15,f 16,f 17,f 18,f 19,f 20] from rfl]
   simp only [tkd,Nat.reduceAdd]
   skip
 case' inr.inr.inl =>
  by_cases hg:gs=[]
  case' pos =>
   have hgi:¬ ((0:Int) < (gs.length:Int)):=by rw [hg]; simp
   clear hg
   have HR3:Hid (Rq w2 kr (q2+6000)):=HR2.out.up (by omega)
   have HE3:=hidP HE2.out
   skip
  case' neg =>
   obtain ⟨r,rs,rfl⟩:=List.exists_cons_of_ne_nil hg
   have HR:Hid ((r :: rs)[0]?=some r):=rfl
   obtain ⟨gk,cap,hv,hgz,-⟩:=(HC.out w2 (Ex.refl _ _)).l.g.row HR.out
   cases hv
   have hn:0 < (r :: rs).length:=by simp
   have hni:(0:Int) < ((r :: rs).length:Int):=by omega
   obtain ⟨Z,hZ⟩:∃ Z,Z=w2.heap.size:=⟨_,rfl⟩
   have hkZ:kr < Z:=by omega
   have hD:∀ i c S y,Dv kr q2 w w2 16 c S y→Dv kr q2 w w2 16 (c+1) (sset S i) y:=fun i c S y h=>h.up
   have hnx:∀ {ops:Array Oper} i,Nx kr q2 ops (Dv kr q2 w w2 16) i:=fun i=>Dv.nx i
   have hZs:∀ c S y,Dv kr q2 w w2 16 c S y→Z≤y.heap.size:=fun c S y h=>by rw [hZ]; exact h.s
   have hRx:∀ i,i≠16→∀ y,Fv kr Z 16 i y y:=fun i h y=>by unfold Fv; rw [if_neg h]; exact Ex.refl _ _
   have hFx:∀ i,i≠16→∀ y y',Ex kr y y'→Fv kr Z 16 i y y':=fun i h y y' he=>by unfold Fv; rw [if_neg h]; exact he
   have hq1:q2+200 * (LS2.length:Int) < 1000000:=by show q2+200 * ((17:Nat):Int) < 1000000; omega
   go_wp2_with fail
   refine wp_region_any (by kernel_rfl) ?_
   refine reg_invZ LS2 (GS2 Z kr lb (w.heap.size+1) B gk (r :: rs).length k1 t) (Dv kr q2 w w2 16) (Fv kr Z 16) (by kernel_rfl) (fun i j y y' V S hne hY hj hf h=>GS2.keep hkZ hkB hlk hbk hf j hne h) ⟨(HR2.out.below bD).up (by omega),HE2.out.trans (Ex.of_below bD),bD.size,fun _=>Ex.of_below bD⟩ ?ctS2 ?doneS2
   case ctS2 =>
    intro i hi
    match i,hi with
    | 0,_ =>
     refine ctp (hD _) (hRx _ (by decide)) rfl rfl rfl fun x y c S yy g oo dd K hK=>?_
     have o5:x.tmps[5]?.getD undef=.pointer (some ⟨lb,0,none⟩):=ev_tmp (oo.out 5 rfl)
     clear g oo dd yy
     go_simp
     exact hK.out _ rfl
    | 1,_ =>
     refine ctp (hD _) (hRx _ (by decide)) rfl rfl rfl fun x y c S yy g oo dd K hK=>?_
     have e1:x.tmps[60]?.getD undef=_:=ev_tmp (g.out 0 rfl)
     obtain ⟨-,k1,-⟩:=(HC.out y (dd.out.o (yy.out.no [15,14,1] 16 rfl rfl))).cs
     clear g oo dd yy
     go_simp
     exact hK.out _ rfl
    | 2,_ =>
     refine ctp (hD _) (hRx _ (by decide)) rfl rfl rfl fun x y c S yy g oo dd K hK=>?_
     have o5:x.tmps[5]?.getD undef=.pointer (some ⟨lb,0,none⟩):=ev_tmp (oo.out 5 rfl)
     clear g oo dd yy
     go_simp
     exact hK.out _ rfl
    | 3,_ =>
     refine ctp (hD _) (hRx _ (by decide)) rfl rfl rfl fun x y c S yy g oo dd K hK=>?_
     have e1:x.tmps[62]?.getD undef=_:=ev_tmp (g.out 2 rfl)
     obtain ⟨k1,-,-⟩:=(HC.out y (dd.out.o (yy.out.no [13,12,9,4,3] 16 rfl rfl))).cs
     clear g oo dd yy
     go_simp
     exact hK.out _ rfl
    | 4,_ =>
     refine ctp (hD _) (hRx _ (by decide)) rfl rfl rfl fun x y c S yy g oo dd K hK=>?_
     have e1:x.tmps[63]?.getD undef=_:=ev_tmp (g.out 3 rfl)
     have iw:IntKind.i64.wrap (t+32)=t+32:=by rw [IntKind.wrap_i64]; omega
     clear g oo dd yy
     go_simp
     exact hK.out _ rfl
    | 5,_ =>
     refine ctp (hD _) (hRx _ (by decide)) rfl rfl rfl fun x y c S yy g oo dd K hK=>?_
     have o5:x.tmps[5]?.getD undef=.pointer (some ⟨lb,0,none⟩):=ev_tmp (oo.out 5 rfl)
     clear g oo dd yy
     go_simp
     exact hK.out _ rfl
    | 6,_ =>
     refine ctp (hD _) (hRx _ (by decide)) rfl rfl rfl fun x y c S yy g oo dd K hK=>?_
     have e1:x.tmps[65]?.getD undef=_:=ev_tmp (g.out 5 rfl)
     obtain ⟨k1,-,-⟩:=(HC.out y (dd.out.o (yy.out.no [13,12,9,8,7,6] 16 rfl rfl))).cs
     clear g oo dd yy
     go_simp
     exact hK.out _ rfl
    | 7,_ =>
     refine ctp (hD _) (hRx _ (by decide)) rfl rfl rfl fun x y c S yy g oo dd K hK=>?_
     have e1:x.tmps[66]?.getD undef=_:=ev_tmp (g.out 6 rfl)
     have iw:IntKind.i64.wrap (t+32)=t+32:=by rw [IntKind.wrap_i64]; omega
     clear g oo dd yy
     go_simp
     exact hK.out _ rfl
    | 8,_ =>
     refine ctp (hD _) (hRx _ (by decide)) rfl rfl rfl fun x y c S yy g oo dd K hK=>?_
     have e1:x.tmps[67]?.getD undef=_:=ev_tmp (g.out 7 rfl)
     have iw:IntKind.i64.wrap (t+32+1)=t+32+1:=by rw [IntKind.wrap_i64]; omega
     clear g oo dd yy
     go_simp
     exact hK.out _ rfl
    | 9,_ =>
     refine ct rfl rfl rfl fun x y c S hc yy g oo dd K hK=>?_
     have e1:x.tmps[64]?.getD undef=_:=ev_tmp (g.out 4 rfl)
     have e2:x.tmps[68]?.getD undef=_:=ev_tmp (g.out 8 rfl)
     clear g oo
     go_simp
     have hb:Below y.heap.size y (y.alloc (.cells #[.int .i64 (-1),.int .i64 (t+32),.int .i64 (t+32+1)] 3)):=bl_alloc bR _
     exact hK.out _ _ (tab3 (hZs c S y dd.out) ⟨_,rfl,by omega,by omega⟩ ⟨_,rfl,by omega,by omega⟩ ⟨_,rfl,by omega,by omega⟩) ((hnx _).below yy.out dd.out hb) (hFx _ (by decide) _ _ (Ex.of_below hb))
    | 10,_ =>
     exact ctOut (hD _) (hRx _ (by decide)) rfl rfl rfl rfl rfl rfl (fun _ _ e=>e)
    | 11,_ =>
     exact ctPick (hnx _) 3 (by omega) (by omega) hq1 10 rfl rfl rfl rfl rfl rfl (fun _ _ h=>h) (hFx _ (by decide)) (fun _ _ h=>h)
    | 12,_ =>
     exact ctIxI (hD _) (hRx _ (by decide)) 9 11 rfl rfl rfl rfl rfl rfl rfl rfl (fun _ _ h=>h) (fun _ _ h=>nm_nat h (by omega) (by omega)) (fun _ _ h=>h)
    | 13,_ =>
     exact ctLdI (hD _) (hRx _ (by decide)) 12 rfl rfl rfl rfl rfl rfl (fun _ _ h=>h) (fun _ _ h=>h)
    | 14,_ =>
     refine ctp (hD _) (hRx _ (by decide)) rfl rfl rfl fun x y c S yy g oo dd K hK=>?_
     have e1:x.tmps[61]?.getD undef=_:=ev_tmp (g.out 1 rfl)
     clear g oo dd yy
     go_simp
     exact hK.out _ rfl
    | 15,_ =>
     refine ctp (hD _) (hRx _ (by decide)) rfl rfl rfl fun x y c S yy g oo dd K hK=>?_
     have e1:x.tmps[74]?.getD undef=_:=ev_tmp (g.out 14 rfl)
     clear g oo dd yy
     go_simp
     exact hK.out _ rfl
    | 16,_ =>
     refine ctn rfl rfl fun x y c S hc yy g oo dd K hK=>?_
     obtain ⟨z,e1,-,-⟩:=g.out 13 rfl
     have e1:x.tmps[73]?.getD undef=_:=ev_tmp e1
     have e2:x.tmps[75]?.getD undef=_:=ev_tmp (g.out 15 rfl)
     have HE:Hid (Ex kr w2 y):=dd.out.o yy.out.n
     have HY:Hid _:=HC.out y HE.out
     obtain ⟨gb,cap,hv,hlt,hrw,hfz⟩:=HY.out.l.g.row HR.out
     cases hv
     have c4:=(hrw.at HR.out).2.2.2.2
     have f4:=hfz 4 (by omega)
     simp only [Nat.zero_mul,Nat.zero_add] at c4 f4
     clear hrw hfz g oo
     go_simp
     have he:Ex gk y (y.setCell ⟨gk,4,none⟩ (.int .i64 z)):=(Ex.refl _ _).set _ _
     have hl:=HY.out.l.putG (HO.out y HE.out) (v:=.int .i64 z) (r':=⟨r.h,r.b,r.c,r.t,z⟩) (i:=0) (j:=4) HR.out rfl (by omega)
     rw [Nat.zero_mul,Nat.zero_add] at hl
     obtain ⟨h1,h2,h3⟩:=dvEnd (Z:=Z) dd.out HY.out (HT.out y HE.out) he (Or.inl rfl) (by rw [hZ]; exact hgz) hl (fit_setG HF.out HR.out rfl rfl rfl) hkB hbB hwB
     exact hK.out _ h1 h2 h3
    | _+17,h=>exact absurd h (by show ¬ (_ < 17); omega)
   case' doneS2 =>
    intro a y c hdf hsz hout hgood hc hE
    obtain ⟨t,gs,qs,v1,v2,hx⟩:=(hgood 16 (by decide):Fe lb (w.heap.size+1) B y)
    obtain ⟨d1,k1,rfl⟩:=G.Sl.shape hx.l.g
    obtain ⟨d2,k2,hs2⟩:=Pr.Sl.shape hx.l.o
    rw [List.length_map] at hs2
    subst hs2
    have HX:=hidP hx
    have HR3:Hid (Rq y kr (q2+6000)):=hE.r.up (by have h9:c≤17:=hc; omega)
    have HE3:=hidP hE.e
    clear hx hE
    obtain ⟨f,ha,hf⟩:=frameZ 60 16 hdf hsz hout rfl
    clear hf hout hgood hdf hsz
    subst ha
    rw [show (List.range 16).map f=[f 0,f 1,f 2,f 3,f 4,f 5,f 6,f 7,f 8,f 9,f 10,f 11,f 12,f 13,f 14,f 15] from rfl]
    simp only [tkd,Nat.reduceAdd]
    skip
 case' inr.inr.inr.inl =>
  obtain ⟨Z,hZ⟩:∃ Z,Z=w2.heap.size:=⟨_,rfl⟩
  have hkZ:kr < Z:=by omega
  have hlZ:lb < Z:=by omega
  have hD:∀ i c S y,Da kr q2 w w2 (w.heap.size+1) lb t (.slice d1 gs.length k1) (.slice d2 qs.length k2) 13 15 c S y→Da kr q2 w w2 (w.heap.size+1) lb t (.slice d1 gs.length k1) (.slice d2 qs.length k2) 13 15 (c+1) (sset S i) y:=fun i c S y h=>h.up
  have hnx:∀ {ops:Array Oper} i,Nx kr q2 ops (Da kr q2 w w2 (w.heap.size+1) lb t (.slice d1 gs.length k1) (.slice d2 qs.length k2) 13 15) i:=fun i=>Da.nx hz i
  have hZs:∀ c S y,Da kr q2 w w2 (w.heap.size+1) lb t (.slice d1 gs.length k1) (.slice d2 qs.length k2) 13 15 c S y→Z≤y.heap.size:=fun c S y h=>by rw [hZ]; exact h.s
  have hRx:∀ i,i≠13→i≠15→∀ y,Fd kr lb 13 15 (Value.ownBlock (.slice d2 qs.length k2)) i y y:=fun i h1 h2 y=>by unfold Fd; rw [if_neg h1,if_neg h2]; exact Ex.refl _ _
  have hFx:∀ i,i≠13→i≠15→∀ y y',Ex kr y y'→Fd kr lb 13 15 (Value.ownBlock (.slice d2 qs.length k2)) i y y':=fun i h1 h2 y y' h=>by unfold Fd; rw [if_neg h1,if_neg h2]; exact h
  have hq7:q2+200 * (LS3.length:Int) < 700000:=by show q2+200 * ((16:Nat):Int) < 700000; omega
  have hq1:q2+200 * (LS3.length:Int) < 1000000:=by show q2+200 * ((16:Nat):Int) < 1000000; omega
  go_wp2_with fail
  refine wp_region_any (by kernel_rfl) ?_
  refine reg_invZ LS3 (GS3 Z kr lb (w.heap.size+1) B gs qs (.slice d1 gs.length k1) (.slice d2 qs.length k2)) (Da kr q2 w w2 (w.heap.size+1) lb t (.slice d1 gs.length k1) (.slice d2 qs.length k2) 13 15) (Fd kr lb 13 15 (Value.ownBlock (.slice d2 qs.length k2))) (by kernel_rfl) (fun i j y y' V S hne hY hj hf h=>GS3.keep hkZ hlZ (fun g hg=>by rw [hZ]; exact ((HC.out w2 (Ex.refl _ _)).l.p.o.lt g hg).2) hkB hlk hbk hf j hne (fun e1 e2=>by subst e1 e2; have:=hY.tr 15 13 rfl hj; rw [hY.n] at this; cases this) h) ?stS3 ?ctS3 ?doneS3
  case' ctS3 =>
   intro i hi
   match i,hi with
   | 0,_ =>
    refine ctp (hD _) (hRx _ (by decide) (by decide)) rfl rfl rfl fun x y c S yy g oo dd K hK=>?_
    have o5:x.tmps[5]?.getD undef=.pointer (some ⟨lb,0,none⟩):=ev_tmp (oo.out 5 rfl)
    clear g oo dd yy
    go_simp
    exact hK.out _ rfl
   | 1,_ =>
    refine ctp (hD _) (hRx _ (by decide) (by decide)) rfl rfl rfl fun x y c S yy g oo dd K hK=>?_
    have e1:x.tmps[78]?.getD undef=_:=ev_tmp (g.out 0 rfl)
    obtain ⟨-,-,k1⟩:=(HC.out y (dd.out.o (yy.out.no [1] 13 rfl rfl))).cs
    clear g oo dd yy
    go_simp
    exact hK.out _ rfl
   | 2,_ =>
    exact ctTab (hnx _) hZs #[.string ⟨#[]⟩,.string ⟨#[122]⟩,.string ⟨#[97]⟩] rfl rfl rfl (fun _ _=>by kernel_rfl) (txAll (m:=4) (by kernel_rfl)) (hFx _ (by decide) (by decide)) (fun _ _ h=>h)
   | 3,_ =>
    exact ctOut (hD _) (hRx _ (by decide) (by decide)) rfl rfl rfl rfl rfl rfl (fun _ _ e=>e)
   | 4,_ =>
    exact ctPick (hnx _) 3 (by omega) (by omega) hq1 3 rfl rfl rfl rfl rfl rfl (fun _ _ h=>h) (hFx _ (by decide) (by decide)) (fun _ _ h=>h)
   | 5,_ =>
    exact ctIxS (hD _) (hRx _ (by decide) (by decide)) 2 4 rfl rfl rfl rfl rfl rfl rfl rfl (fun _ _ h=>h) (fun _ _ h=>nm_nat h (by omega) (by omega)) (fun _ _ h=>h)
   | 6,_ =>
    exact ctLdS (hD _) (hRx _ (by decide) (by decide)) 5 rfl rfl rfl rfl rfl rfl (fun _ _ h=>h) (fun _ _ h=>h)
   | 7,_ =>
    exact ctOut (hD _) (hRx _ (by decide) (by decide)) rfl rfl rfl rfl rfl rfl (fun _ _ e=>e)
   | 8,_ =>
    exact ctPick (hnx _) 3 (by omega) (by omega) hq1 7 rfl rfl rfl rfl rfl rfl (fun _ _ h=>h) (hFx _ (by decide) (by decide)) (fun _ _ h=>h)
   | 9,_ =>
    exact ctOut (hD _) (hRx _ (by decide) (by decide)) rfl rfl rfl rfl rfl rfl (fun _ _ e=>e)
   | 10,_ =>
    exact ctWants (hnx _) hq7 hZs 9 rfl rfl rfl rfl rfl rfl (fun _ _ h=>h) (hFx _ (by decide) (by decide)) (fun _ _ h=>h)
   | 11,_ =>
    refine ctp (hD _) (hRx _ (by decide) (by decide)) rfl rfl rfl fun x y c S yy g oo dd K hK=>?_
    obtain ⟨b,e1,h1⟩:=g.out 6 rfl
    obtain ⟨z,e2,-,-⟩:=g.out 8 rfl
    obtain ⟨ws,ow,hwl,hwf⟩:=g.out 10 rfl
    obtain ⟨aw,cw,e3⟩:=W.Ow.shape ow
    rw [e3] at ow
    have e1:x.tmps[84]?.getD undef=_:=ev_tmp e1
    have e2:x.tmps[86]?.getD undef=_:=ev_tmp e2
    have e3:x.tmps[88]?.getD undef=_:=ev_tmp e3
    have HO9:Hid (W.Ow y _ ws Z∧∀ x∈ws,x.fits):=⟨ow,hwf⟩
    clear g oo dd yy ow hwf
    go_simp
    exact hK.out _ ⟨⟨b,z,aw,cw,ws⟩,rfl,⟨h1,hwl,HO9.out.2⟩,HO9.out.1⟩
   | 12,_ =>
    refine ct rfl rfl rfl fun x y c S hc yy g oo dd K hK=>?_
    obtain ⟨p1,e1,h1,ow⟩:=g.out 11 rfl
    have e1:x.tmps[89]?.getD undef=_:=ev_tmp e1
    have hb:=bld1Pl p1
    have HO9:Hid (Sq p1∧W.Ow y _ p1.ws Z):=⟨h1,ow⟩
    clear g oo ow h1
    go_simp
    have hbl:Below y.heap.size y (y.alloc (.cells (arrPl p1) 54)):=bl_alloc bR _
    exact hK.out _ _ ⟨_,p1,rfl,hZs c S y dd.out,heap_newZ y _,HO9.out.1,W.Ow.keep HO9.out.2 hbl⟩ ((hnx _).below yy.out dd.out hbl) (hFx _ (by decide) (by decide) _ _ (Ex.of_below hbl))
   | 13,_ =>
    refine ct rfl rfl rfl fun x y c S hc yy g oo dd K hK=>?_
    have e1:=g.out 1 rfl
    obtain ⟨b,p1,e2,hb1,hb2,hs1,hw1⟩:=g.out 12 rfl
    have hE:=dd.out.o yy.out.n
    refine appRst B (.tmp 79) (.tmp 90) rfl (qs.map Pr.raw) [Pr.raw p1] _ _ e1 (HQ.out y hE) (by have:=dd.out.s; omega) e2 (rst_one hb2) (by simp; omega) ?_
    intro v' y' o1 g9 hat
    obtain ⟨h1,h2,h3⟩:=appQ hz dd.out (HC.out y hE) hs1 hw1 o1 g9 hat ⟨hlZ,by omega,fun k hk=>by rw [hZ]; exact ((HC.out w2 (Ex.refl _ _)).l.p.o.lt k hk).2⟩ hkB hbB hwB
    exact hK.out _ _ h1 h2 h3
   | 14,_ =>
    refine ctp (hD _) (hRx _ (by decide) (by decide)) rfl rfl rfl fun x y c S yy g oo dd K hK=>?_
    have o5:x.tmps[5]?.getD undef=.pointer (some ⟨lb,0,none⟩):=ev_tmp (oo.out 5 rfl)
    clear g oo dd yy
    go_simp
    exact hK.out _ rfl
   | 15,_ =>
    refine ctn rfl rfl fun x y c S hc yy g oo dd K hK=>?_
    obtain ⟨p1,hs1,hl,hn⟩:=g.out 13 rfl
    obtain ⟨av,cv,hv⟩:=Pr.Sl.shape hl.o
    rw [List.length_map,show (qs++[p1]).length=qs.length+1 by simp] at hv
    have e25:x.tmps[91]?.getD undef=_:=ev_tmp hv
    have e26:x.tmps[92]?.getD undef=_:=ev_tmp (g.out 14 rfl)
    rw [hv] at hl hn
    obtain ⟨k9,f9⟩:=dd.out.l yy.out.n
    have c1:=k9 2 _ rfl
    rw [Nat.zero_add] at c1
    have f1:y.frozen? ⟨lb,2,none⟩=false:=by simpa using (f9 2 (by omega)).2
    have h25:=yy.out.l 13 rfl
    have HL:Hid (Aq lb B gs qs _ y _):=⟨p1,hs1,hl,hn⟩
    have HK9:Hid (y.rangeAt lb 0 [_,_,_]∧y.there lb 0 3):=⟨k9,f9⟩
    clear g oo hl hv k9 f9 hn
    go_simp
    obtain ⟨h1,h2,h3⟩:=aqEnd (v:=.slice av (qs.length+1) cv) hz dd.out HL.out HK9.out.1 HK9.out.2 h25 (by decide) HF.out hql
    exact hK.out _ h1 h2 h3
   | _+16,h=>exact absurd h (by show ¬ (_ < 16); omega)
  case' stS3=>exact daStart HR2.out HE2.out (HT.out w2 (Ex.refl _ _)) (HC.out w2 (Ex.refl _ _))
  case' doneS3 =>
   intro a y c hdf hsz hout hgood hc hE
   obtain ⟨t,gs,qs,v1,v2,hx⟩:=(hgood 15 (by decide):Fe lb (w.heap.size+1) B y)
   obtain ⟨d1,k1,rfl⟩:=G.Sl.shape hx.l.g
   obtain ⟨d2,k2,hs2⟩:=Pr.Sl.shape hx.l.o
   rw [List.length_map] at hs2
   subst hs2
   have HX:=hidP hx
   have HR3:Hid (Rq y kr (q2+6000)):=hE.r.up (by have h9:c≤16:=hc; omega)
   have HE3:=hidP hE.e
   clear hx hE
   obtain ⟨f,ha,hf⟩:=frameZ 78 15 hdf hsz hout rfl
   clear hf hout hgood hdf hsz
   subst ha
   rw [show (List.range 15).map f=[f 0,f 1,f 2,f 3,f 4,f 5,f 6,f 7,f 8,f 9,f 10,f 11,f 12,f 13,f 14] from rfl]
   simp only [tkd,Nat.reduceAdd]
   skip
 case' inr.inr.inr.inr.inl =>
  by_cases hg:qs=[]
  case' pos =>
   have hgi:¬ ((0:Int) < (qs.length:Int)):=by rw [hg]; simp
   clear hg
   have HR3:Hid (Rq w2 kr (q2+6000)):=HR2.out.up (by omega)
   have HE3:=hidP HE2.out
   skip
  case' neg =>
   obtain ⟨p,rs,rfl⟩:=List.exists_cons_of_ne_nil hg
   have HR:Hid ((p :: rs)[0]?=some p):=rfl
   obtain ⟨gk,cap,hv,hgz,-⟩:=(HC.out w2 (Ex.refl _ _)).l.p.o.row (m:=0) (r:=Pr.raw p) rfl
   rw [List.length_map] at hv
   cases hv
   have hn:0 < (p :: rs).length:=by simp
   have hni:(0:Int) < ((p :: rs).length:Int):=by omega
   obtain ⟨Z,hZ⟩:∃ Z,Z=w2.heap.size:=⟨_,rfl⟩
   have hkZ:kr < Z:=by omega
   have hD:∀ i c S y,Dv kr q2 w w2 9 c S y→Dv kr q2 w w2 9 (c+1) (sset S i) y:=fun i c S y h=>h.up
   have hnx:∀ {ops:Array Oper} i,Nx kr q2 ops (Dv kr q2 w w2 9) i:=fun i=>Dv.nx i
   have hZs:∀ c S y,Dv kr q2 w w2 9 c S y→Z≤y.heap.size:=fun c S y h=>by rw [hZ]; exact h.s
   have hRx:∀ i,i≠9→∀ y,Fv kr Z 9 i y y:=fun i h y=>by unfold Fv; rw [if_neg h]; exact Ex.refl _ _
   have hFx:∀ i,i≠9→∀ y y',Ex kr y y'→Fv kr Z 9 i y y':=fun i h y y' he=>by unfold Fv; rw [if_neg h]; exact he
   have hq1:q2+200 * (LS4.length:Int) < 1000000:=by show q2+200 * ((10:Nat):Int) < 1000000; omega
   go_wp2_with fail
   refine wp_region_any (by kernel_rfl) ?_
   refine reg_invZ LS4 (GS4 Z kr lb (w.heap.size+1) B gk (p :: rs).length k2) (Dv kr q2 w w2 9) (Fv kr Z 9) (by kernel_rfl) (fun i j y y' V S hne hY hj hf h=>GS4.keep hkZ hkB hlk hbk hf j hne h) ⟨(HR2.out.below bD).up (by omega),HE2.out.trans (Ex.of_below bD),bD.size,fun _=>Ex.of_below bD⟩ ?ctS4 ?doneS4
   case ctS4 =>
    intro i hi
    match i,hi with
    | 0,_ =>
     refine ctp (hD _) (hRx _ (by decide)) rfl rfl rfl fun x y c S yy g oo dd K hK=>?_
     have o5:x.tmps[5]?.getD undef=.pointer (some ⟨lb,0,none⟩):=ev_tmp (oo.out 5 rfl)
     clear g oo dd yy
     go_simp
     exact hK.out _ rfl
    | 1,_ =>
     refine ctp (hD _) (hRx _ (by decide)) rfl rfl rfl fun x y c S yy g oo dd K hK=>?_
     have e1:x.tmps[99]?.getD undef=_:=ev_tmp (g.out 0 rfl)
     obtain ⟨-,-,k1⟩:=(HC.out y (dd.out.o (yy.out.no [8,7,1] 9 rfl rfl))).cs
     clear g oo dd yy
     go_simp
     exact hK.out _ rfl
    | 2,_ =>
     exact ctTab (hnx _) hZs #[.int .i64 0,.int .i64 1000000,.int .i64 1000001] rfl rfl rfl (fun _ _=>by kernel_rfl) (nmAll (a:=0) (b:=1000001) (by kernel_rfl)) (hFx _ (by decide)) (fun _ _ h=>h)
    | 3,_ =>
     exact ctOut (hD _) (hRx _ (by decide)) rfl rfl rfl rfl rfl rfl (fun _ _ e=>e)
    | 4,_ =>
     exact ctPick (hnx _) 3 (by omega) (by omega) hq1 3 rfl rfl rfl rfl rfl rfl (fun _ _ h=>h) (hFx _ (by decide)) (fun _ _ h=>h)
    | 5,_ =>
     exact ctIxI (hD _) (hRx _ (by decide)) 2 4 rfl rfl rfl rfl rfl rfl rfl rfl (fun _ _ h=>h) (fun _ _ h=>nm_nat h (by omega) (by omega)) (fun _ _ h=>h)
    | 6,_ =>
     exact ctLdI (hD _) (hRx _ (by decide)) 5 rfl rfl rfl rfl rfl rfl (fun _ _ h=>h) (fun _ _ h=>h)
    | 7,_ =>
     refine ctp (hD _) (hRx _ (by decide)) rfl rfl rfl fun x y c S yy g oo dd K hK=>?_
     have e1:x.tmps[100]?.getD undef=_:=ev_tmp (g.out 1 rfl)
     clear g oo dd yy
     go_simp
     exact hK.out _ rfl
    | 8,_ =>
     refine ctp (hD _) (hRx _ (by decide)) rfl rfl rfl fun x y c S yy g oo dd K hK=>?_
     have e1:x.tmps[106]?.getD undef=_:=ev_tmp (g.out 7 rfl)
     clear g oo dd yy
     go_simp
     exact hK.out _ rfl
    | 9,_ =>
     refine ctn rfl rfl fun x y c S hc yy g oo dd K hK=>?_
     obtain ⟨z,e1,-,-⟩:=g.out 6 rfl
     have e1:x.tmps[105]?.getD undef=_:=ev_tmp e1
     have e2:x.tmps[107]?.getD undef=_:=ev_tmp (g.out 8 rfl)
     have HE:Hid (Ex kr w2 y):=dd.out.o yy.out.n
     have HY:Hid _:=HC.out y HE.out
     obtain ⟨gb,cap,hv,hlt,hrw,hfz⟩:=HY.out.l.p.o.row (m:=0) (r:=Pr.raw p) (by rw [List.getElem?_map,HR.out]; rfl)
     rw [List.length_map] at hv
     cases hv
     have c4:=(hrw.at (k:=0) (r:=Pr.raw p) (by rw [List.getElem?_map,HR.out]; rfl)).2.1
     have f4:=hfz 1 (by omega)
     simp only [Nat.zero_mul,Nat.zero_add] at c4 f4
     clear hrw hfz g oo
     go_simp
     have he:Ex gk y (y.setCell ⟨gk,1,none⟩ (.int .i64 z)):=(Ex.refl _ _).set _ _
     have hl:=HY.out.l.putP (q':=⟨p.b,z,p.a,p.c,p.ws⟩) (v:=.int .i64 z) (m:=0) (j:=1) HR.out (by omega) rfl ⟨0,p,HR.out,rfl,rfl,rfl⟩
     rw [Nat.zero_mul,Nat.zero_add] at hl
     obtain ⟨h1,h2,h3⟩:=dvEnd (Z:=Z) dd.out HY.out (HT.out y HE.out) he (Or.inr (Or.inl rfl)) (by rw [hZ]; exact hgz) hl (fit_setP HF.out (HF.out.p p (List.mem_of_getElem? HR.out)) (HF.out.k p (List.mem_of_getElem? HR.out))) hkB hbB hwB
     exact hK.out _ h1 h2 h3
    | _+10,h=>exact absurd h (by show ¬ (_ < 10); omega)
   case' doneS4 =>
    intro a y c hdf hsz hout hgood hc hE
    obtain ⟨t,gs,qs,v1,v2,hx⟩:=(hgood 9 (by decide):Fe lb (w.heap.size+1) B y)
    obtain ⟨d1,k1,rfl⟩:=G.Sl.shape hx.l.g
    obtain ⟨d2,k2,hs2⟩:=Pr.Sl.shape hx.l.o
    rw [List.length_map] at hs2
    subst hs2
    have HX:=hidP hx
    have HR3:Hid (Rq y kr (q2+6000)):=hE.r.up (by have h9:c≤10:=hc; omega)
    have HE3:=hidP hE.e
    clear hx hE
    obtain ⟨f,ha,hf⟩:=frameZ 99 9 hdf hsz hout rfl
    clear hf hout hgood hdf hsz
    subst ha
    rw [show (List.range 9).map f=[f 0,f 1,f 2,f 3,f 4,f 5,f 6,f 7,f 8] from rfl]
    simp only [tkd,Nat.reduceAdd]
    skip
 case' inr.inr.inr.inr.inr.inl =>
  by_cases hg:qs=[]
  case' pos =>
   have hgi:¬ ((0:Int) < (qs.length:Int)):=by rw [hg]; simp
   clear hg
   have HR3:Hid (Rq w2 kr (q2+6000)):=HR2.out.up (by omega)
   have HE3:=hidP HE2.out
   skip
  case' neg =>
   obtain ⟨p,rs,rfl⟩:=List.exists_cons_of_ne_nil hg
   have HR:Hid ((p :: rs)[0]?=some p):=rfl
   obtain ⟨gk,cap,hv,hgz,hrw,-⟩:=(HC.out w2 (Ex.refl _ _)).l.p.o.row (m:=0) (r:=Pr.raw p) rfl
   rw [List.length_map] at hv
   cases hv
   have pc:w2.cell? ⟨gk,2,none⟩=some (.slice p.a p.ws.length p.c):=by simpa [Pr.raw] using (hrw.at (k:=0) (r:=Pr.raw p) rfl).2.2
   have hn:0 < (p :: rs).length:=by simp
   have hni:(0:Int) < ((p :: rs).length:Int):=by omega
   clear hrw
   by_cases hw:p.ws=[]
   case' pos =>
    have hgi:¬ ((0:Int) < (p.ws.length:Int)):=by rw [hw]; simp
    clear hw
    have HR3:Hid (Rq w2 kr (q2+6000)):=HR2.out.up (by omega)
    have HE3:=hidP HE2.out
    skip
   case' neg =>
    obtain ⟨r0,ws,hws⟩:=List.exists_cons_of_ne_nil hw
    have HWS:=hidP hws
    have hwn:(0:Int) < (p.ws.length:Int):=by rw [hws]; simp
    have hwn0:0 < p.ws.length:=by omega
    obtain ⟨wg,x9,hpa,hx9,-⟩:=(HC.out w2 (Ex.refl _ _)).l.p.want (k:=0) (j:=0) rfl (by rw [hws]; simp)
    rw [hws] at hx9
    cases hx9
    have HWA:=hidP hpa
    have hw0:r0.fits:=(HF.out.p p (List.mem_cons_self ..)).2 r0 (by rw [hws]; exact List.mem_cons_self ..)
    have HS:∀ y,Ex kr w2 y→W.RowsAt y wg 0 (r0 :: ws)∧y.there wg 0 ((r0 :: ws).length * 7)∧wg < y.heap.size:=fun y hy=>by
     have h9:=(HC.out y hy).l.p.k 0 p rfl
     rw [hpa,hws] at h9
     rcases h9 with ⟨e,-⟩ | ⟨g,cap,e,-,h2,h3,h4⟩
     · cases e
     cases e; exact ⟨h3,h4,h2⟩
    have hwz:=(HS w2 (Ex.refl _ _)).2.2
    have HW:Hid (∀ y,Ex kr w2 y→y.there wg 0 7):=fun y hy j hj=>(HS y hy).2.1 j (by simp only [List.length_cons]; omega)
    have HP:Hid (∀ y,Ex kr w2 y→y.cell? ⟨gk,2,none⟩=some (.slice (some ⟨wg,0,none⟩) p.ws.length p.c)∧y.cell? ⟨wg,0,none⟩=some (.string r0.c)∧y.cell? ⟨wg,1,none⟩=some (.int .i64 r0.v)∧y.cell? ⟨wg,2,none⟩=some (.string r0.h)∧y.cell? ⟨wg,3,none⟩=some (.int .i64 r0.p)∧y.cell? ⟨wg,4,none⟩=some (.int .i64 r0.s)∧y.cell? ⟨wg,5,none⟩=some (.int .i64 r0.d)∧y.cell? ⟨wg,6,none⟩=some (.int .i64 r0.g)):=fun y hy=>by
     have h8:=(HS y hy).1.at (k:=0) (r:=r0) rfl
     simp only [Nat.zero_mul,Nat.zero_add] at h8
     refine ⟨?_,h8⟩
     rw [he_cell hy hgz (by have:=((HC.out w2 (Ex.refl _ _)).l.p.o.lt gk rfl).1; omega),pc,hpa]
    have hinfw:(Tryz.prog.info? 56).map (·.size)=some 7:=by kernel_rfl
    rw [hpa] at pc
    clear hws hw HS hpa
    obtain ⟨Z,hZ⟩:∃ Z,Z=w2.heap.size:=⟨_,rfl⟩
    have hkZ:kr < Z:=by omega
    have hD:∀ i c S y,Dv kr q2 w w2 15 c S y→Dv kr q2 w w2 15 (c+1) (sset S i) y:=fun i c S y h=>h.up
    have hnx:∀ {ops:Array Oper} i,Nx kr q2 ops (Dv kr q2 w w2 15) i:=fun i=>Dv.nx i
    have hZs:∀ c S y,Dv kr q2 w w2 15 c S y→Z≤y.heap.size:=fun c S y h=>by rw [hZ]; exact h.s
    have hRx:∀ i,i≠15→∀ y,Fv kr Z 15 i y y:=fun i h y=>by unfold Fv; rw [if_neg h]; exact Ex.refl _ _
    have hFx:∀ i,i≠15→∀ y y',Ex kr y y'→Fv kr Z 15 i y y':=fun i h y y' he=>by unfold Fv; rw [if_neg h]; exact he
    have hq1:q2+200 * (LS5.length:Int) < 1000000:=by show q2+200 * ((16:Nat):Int) < 1000000; omega
    go_wp2_with fail
    refine wp_region_any (by kernel_rfl) ?_
    refine reg_invZ LS5 (GS5 Z kr lb (w.heap.size+1) B gk (p :: rs).length k2 wg p.ws.length p.c r0) (Dv kr q2 w w2 15) (Fv kr Z 15) (by kernel_rfl) (fun i j y y' V S hne hY hj hf h=>GS5.keep hkZ hkB hlk hbk hf j hne h) ⟨(HR2.out.below bD).up (by omega),HE2.out.trans (Ex.of_below bD),bD.size,fun _=>Ex.of_below bD⟩ ?ctS5 ?doneS5
    case ctS5 =>
     intro i hi
     match i,hi with
     | 0,_ =>
      refine ctp (hD _) (hRx _ (by decide)) rfl rfl rfl fun x y c S yy g oo dd K hK=>?_
      have o5:x.tmps[5]?.getD undef=.pointer (some ⟨lb,0,none⟩):=ev_tmp (oo.out 5 rfl)
      clear g oo dd yy
      go_simp
      exact hK.out _ rfl
     | 1,_ =>
      refine ctp (hD _) (hRx _ (by decide)) rfl rfl rfl fun x y c S yy g oo dd K hK=>?_
      have e1:x.tmps[123]?.getD undef=_:=ev_tmp (g.out 0 rfl)
      obtain ⟨-,-,k1⟩:=(HC.out y (dd.out.o (yy.out.no [14,4,3,2,1] 15 rfl rfl))).cs
      clear g oo dd yy
      go_simp
      exact hK.out _ rfl
     | 2,_ =>
      refine ctp (hD _) (hRx _ (by decide)) rfl rfl rfl fun x y c S yy g oo dd K hK=>?_
      have e1:x.tmps[124]?.getD undef=_:=ev_tmp (g.out 1 rfl)
      clear g oo dd yy
      go_simp
      exact hK.out _ rfl
     | 3,_ =>
      refine ctp (hD _) (hRx _ (by decide)) rfl rfl rfl fun x y c S yy g oo dd K hK=>?_
      have e1:x.tmps[125]?.getD undef=_:=ev_tmp (g.out 2 rfl)
      clear g oo dd yy
      go_simp
      exact hK.out _ rfl
     | 4,_ =>
      refine ctp (hD _) (hRx _ (by decide)) rfl rfl rfl fun x y c S yy g oo dd K hK=>?_
      have e1:x.tmps[126]?.getD undef=_:=ev_tmp (g.out 3 rfl)
      obtain ⟨k1,-⟩:=HP.out y (dd.out.o (yy.out.no [14,4] 15 rfl rfl))
      clear g oo dd yy
      go_simp
      exact hK.out _ rfl
     | 5,_ =>
      exact ctOut (hD _) (hRx _ (by decide)) rfl rfl rfl rfl rfl rfl (fun _ _ e=>e)
     | 6,_ =>
      refine ctp (hD _) (hRx _ (by decide)) rfl rfl rfl fun x y c S yy g oo dd K hK=>?_
      have o5:x.tmps[5]?.getD undef=.pointer (some ⟨lb,0,none⟩):=ev_tmp (oo.out 5 rfl)
      clear g oo dd yy
      go_simp
      exact hK.out _ rfl
     | 7,_ =>
      refine ctp (hD _) (hRx _ (by decide)) rfl rfl rfl fun x y c S yy g oo dd K hK=>?_
      have e1:x.tmps[129]?.getD undef=_:=ev_tmp (g.out 6 rfl)
      obtain ⟨-,-,k1⟩:=(HC.out y (dd.out.o (yy.out.no [13,12,11,10,9,8,7] 15 rfl rfl))).cs
      clear g oo dd yy
      go_simp
      exact hK.out _ rfl
     | 8,_ =>
      refine ctp (hD _) (hRx _ (by decide)) rfl rfl rfl fun x y c S yy g oo dd K hK=>?_
      have e1:x.tmps[130]?.getD undef=_:=ev_tmp (g.out 7 rfl)
      clear g oo dd yy
      go_simp
      exact hK.out _ rfl
     | 9,_ =>
      refine ctp (hD _) (hRx _ (by decide)) rfl rfl rfl fun x y c S yy g oo dd K hK=>?_
      have e1:x.tmps[131]?.getD undef=_:=ev_tmp (g.out 8 rfl)
      clear g oo dd yy
      go_simp
      exact hK.out _ rfl
     | 10,_ =>
      refine ctp (hD _) (hRx _ (by decide)) rfl rfl rfl fun x y c S yy g oo dd K hK=>?_
      have e1:x.tmps[132]?.getD undef=_:=ev_tmp (g.out 9 rfl)
      obtain ⟨k1,-⟩:=HP.out y (dd.out.o (yy.out.no [13,12,11,10] 15 rfl rfl))
      clear g oo dd yy
      go_simp
      exact hK.out _ rfl
     | 11,_ =>
      refine ctp (hD _) (hRx _ (by decide)) rfl rfl rfl fun x y c S yy g oo dd K hK=>?_
      have e1:x.tmps[133]?.getD undef=_:=ev_tmp (g.out 10 rfl)
      clear g oo dd yy
      go_simp
      exact hK.out _ rfl
     | 12,_ =>
      refine ctp (hD _) (hRx _ (by decide)) rfl rfl rfl fun x y c S yy g oo dd K hK=>?_
      have e1:x.tmps[134]?.getD undef=_:=ev_tmp (g.out 11 rfl)
      obtain ⟨-,k0,k1,k2,k3,k4,k5,k6⟩:=HP.out y (dd.out.o (yy.out.no [13,12] 15 rfl rfl))
      clear g oo dd yy
      go_simp
      exact hK.out _ rfl
     | 13,_ =>
      refine ct rfl rfl rfl fun x y c S hc yy g oo dd K hK=>?_
      have e1:x.tmps[128]?.getD undef=_:=ev_tmp (g.out 5 rfl)
      have e2:x.tmps[135]?.getD undef=_:=ev_tmp (g.out 12 rfl)
      clear g oo
      go_simp
      refine (spoilWantQ kr _ r0.c r0.h r0.v r0.p r0.s r0.d r0.g y dd.out.r (by have h9:c < 16:=hc; omega) hw0.1 hw0.2).mono ?_
      rintro e y' ⟨xc,xh,xv,xp,xs,xd,xg,rfl,f1,f2,r,ex⟩
      exact hK.out _ _ ⟨⟨xc,xh,xv,xp,xs,xd,xg⟩,rfl,f1,f2⟩ ((hnx _).ex c S y y' 100 yy.out dd.out r (by omega) ex) (hFx _ (by decide) _ _ ex)
     | 14,_ =>
      refine ctp (hD _) (hRx _ (by decide)) rfl rfl rfl fun x y c S yy g oo dd K hK=>?_
      have e1:x.tmps[127]?.getD undef=_:=ev_tmp (g.out 4 rfl)
      clear g oo dd yy
      go_simp
      exact hK.out _ rfl
     | 15,_ =>
      refine ctn rfl rfl fun x y c S hc yy g oo dd K hK=>?_
      obtain ⟨r,e1,hrf⟩:=g.out 13 rfl
      have e2:x.tmps.getD 137 undef=_:=g.out 14 rfl
      have HE:Hid (Ex kr w2 y):=dd.out.o yy.out.n
      have HY:Hid _:=HC.out y HE.out
      have hth:y.there wg 0 7:=HW.out y HE.out
      refine wp_store_mid 56 _ _ rfl wg 0 #[.string r.c,.int .i64 r.v,.string r.h,.int .i64 r.p,.int .i64 r.s,.int .i64 r.d,.int .i64 r.g] e2 e1 hth hinfw (by simp [Value.oneCell']) ?_
      have he:Ex wg y (y.setCells wg 0 r.cells):=(Ex.refl _ _).cells _ _
      have hl:=HY.out.l.putW (r:=r) HR.out HWA.out HWS.out
      obtain ⟨h1,h2,h3⟩:=dvEnd (Z:=Z) dd.out HY.out (HT.out y HE.out) he (Or.inr (Or.inr ⟨0,p,HR.out,by rw [HWA.out]; rfl⟩)) (by rw [hZ]; exact hwz) hl (fit_setP HF.out ⟨(HF.out.p p (List.mem_of_getElem? HR.out)).1,fun x hx=>by rcases List.mem_cons.1 hx with rfl | hx; exact hrf; exact (HF.out.p p (List.mem_of_getElem? HR.out)).2 x (by rw [HWS.out]; exact List.mem_cons_of_mem _ hx)⟩ (by have:=HF.out.k p (List.mem_of_getElem? HR.out); rw [HWS.out] at this; exact this)) hkB hbB hwB
      exact hK.out _ h1 h2 h3
     | _+16,h=>exact absurd h (by show ¬ (_ < 16); omega)
    case' doneS5 =>
     intro a y c hdf hsz hout hgood hc hE
     obtain ⟨t,gs,qs,v1,v2,hx⟩:=(hgood 15 (by decide):Fe lb (w.heap.size+1) B y)
     obtain ⟨d1,k1,rfl⟩:=G.Sl.shape hx.l.g
     obtain ⟨d2,k2,hs2⟩:=Pr.Sl.shape hx.l.o
     rw [List.length_map] at hs2
     subst hs2
     have HX:=hidP hx
     have HR3:Hid (Rq y kr (q2+6000)):=hE.r.up (by have h9:c≤16:=hc; omega)
     have HE3:=hidP hE.e
     clear hx hE
     obtain ⟨f,ha,hf⟩:=frameZ 123 15 hdf hsz hout rfl
     clear hf hout hgood hdf hsz
     subst ha
     rw [show (List.range 15).map f=[f 0,f 1,f 2,f 3,f 4,f 5,f 6,f 7,f 8,f 9,f 10,f 11,f 12,f 13,f 14] from rfl]
     simp only [tkd,Nat.reduceAdd]
     skip
 case' inr.inr.inr.inr.inr.inr =>
  by_cases hg:1 < qs.length
  case' neg =>
   have hgi:¬ ((1:Int) < (qs.length:Int)):=by omega
   clear hg
   have HR3:Hid (Rq w2 kr (q2+6000)):=HR2.out.up (by omega)
   have HE3:=hidP HE2.out
   skip
  case' pos =>
   obtain ⟨p,p2,rs,rfl⟩:∃ p p2 rs,qs=p :: p2 :: rs:=by
    match qs,hg with
    | p :: p2 :: rs,_=>exact ⟨p,p2,rs,rfl⟩
   obtain ⟨gk,cap,hv,hgz,hrw,hfz⟩:=(HC.out w2 (Ex.refl _ _)).l.p.o.row (m:=1) (r:=Pr.raw p2) rfl
   rw [List.length_map] at hv
   cases hv
   have pc:w2.cell? ⟨gk,2,none⟩=some (.slice p.a p.ws.length p.c):=by simpa [Pr.raw] using (hrw.at (k:=0) (r:=Pr.raw p) rfl).2.2
   have pd:w2.cell? ⟨gk,5,none⟩=some (.slice p2.a p2.ws.length p2.c):=by simpa [Pr.raw] using (hrw.at (k:=1) (r:=Pr.raw p2) rfl).2.2
   have pf:=hfz 2 (by omega)
   simp only [Nat.one_mul] at pf
   have hni:(1:Int) < ((p :: p2 :: rs).length:Int):=by omega
   clear hrw hfz
   have KX:Hid (Fe lb (w.heap.size+1) B (w2.setCell ⟨gk,5,none⟩ (.slice p.a p.ws.length p.c))∧Rq (w2.setCell ⟨gk,5,none⟩ (.slice p.a p.ws.length p.c)) kr (q2+6000)∧Ex kr w (w2.setCell ⟨gk,5,none⟩ (.slice p.a p.ws.length p.c))):=by
    have hb:=HC.out w2 (Ex.refl _ _)
    have hl:=hb.l.putP (q':=⟨p2.b,p2.s,p.a,p.c,p.ws⟩) (v:=.slice p.a p.ws.length p.c) (m:=1) (j:=2) (q:=p2) rfl (by omega) rfl ⟨0,p,rfl,rfl,rfl,rfl⟩
    obtain ⟨h1,h2,-⟩:=dvEnd (Z:=w2.heap.size) (iS:=0) (S:=fun _=>false) (c:=0) (q:=q2) (V0:=w2) ⟨HR2.out.up (by omega),HE2.out,Nat.le_refl _,fun _=>Ex.refl _ _⟩ hb (HT.out w2 (Ex.refl _ _)) ((Ex.refl _ _).set _ _) (Or.inr (Or.inl rfl)) hgz hl (fit_setP HF.out ⟨(HF.out.p p2 (List.mem_cons_of_mem _ (List.mem_cons_self ..))).1,(HF.out.p p (List.mem_cons_self ..)).2⟩ (HF.out.k p (List.mem_cons_self ..))) hkB hbB hwB
    exact ⟨h1,h2.r.up (by omega),h2.e⟩
   go_wp2_with fail
   go_region
   obtain ⟨W3,hW3⟩:∃ W3,W3=(w2.setCell ⟨gk,5,none⟩ (.slice p.a p.ws.length p.c)).drew:=⟨_,rfl⟩
   obtain ⟨h1,h2,h3⟩:=KX.out
   have h1:=h1.ex (Ex.of_below bD) hkB hlk hbk
   have h2:=h2.below bD
   have h3:=h3.trans (Ex.of_below bD)
   rw [← hW3] at h1 h2 h3 ⊢
   obtain ⟨t,gs,qs,v1,v2,hx⟩:=h1
   obtain ⟨d1,k1,rfl⟩:=G.Sl.shape hx.l.g
   obtain ⟨d2,k2,hs2⟩:=Pr.Sl.shape hx.l.o
   rw [List.length_map] at hs2
   subst hs2
   have HX:=hidP hx
   have HR3:=hidP h2
   have HE3:=hidP h3
   clear hx h2 h3 KX hW3 pc pd pf
 all_goals
  have TB:=hidP HX.out.b
  have x0:=HX.out.c 0 _ rfl
  have x1:=HX.out.c 1 _ rfl
  have x2:=HX.out.c 2 _ rfl
  simp only [Nat.zero_add] at x0 x1 x2
  try clear l0 l1 l2
  go_wp2_with (refine wpList_store_mid (by rfl) 26 _ _ (by rfl) (w.heap.size+1) 0 #[_,_,_] (by rfl) (by rfl) (by exact TB.out) hinfo (by simp [Value.oneCell']) ?_)
  obtain ⟨⟨d0,d3,d4⟩,h1,h2,h3⟩:=HX.out.fin hbB HR3.out HE3.out (by omega) hkr
  try simp only [List.length_cons] at d0 d3 d4
  refine bodyPost_ret (v:=.agg #[.int .i64 _,_,_]) ?_ rfl ⟨t,_,_,_,_,rfl,h1,HX.out.f,h2.up (by omega),h3⟩
  simp [results,Tryz.results46,go_sem,d0,d3,d4]
end Go.Proofs.YtcjhlhijdacinaaGreatDoor
