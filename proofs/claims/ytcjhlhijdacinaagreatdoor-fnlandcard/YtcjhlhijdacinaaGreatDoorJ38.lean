import Derived.Test.YtcjhlhijdacinaaGreatDoorJ37
import Derived.Test.YtcjhlhijdacinaaGreatDoorJ33
import Derived.Test.YtcjhlhijdacinaaGreatDoorJ21
namespace Go.Proofs.YtcjhlhijdacinaaGreatDoor
open Go.RowKit Go.Maps Go.WideMaps
set_option linter.unusedVariables false
def pcOf (x:SaysC):Pc.PcD:=⟨x.1,x.2.1,x.2.2.1,none,0,[],x.2.2.2.2.1,x.2.2.2.2.2.1,x.2.2.2.2.2.2⟩
theorem pcOf_says {x:SaysC} (h:x.2.2.2.1=[]):(pcOf x).says=x:=by
 obtain ⟨a,b,c,d,e,f,g⟩:=x
 simp only at h
 subst h
 rfl
theorem tko_one {w:World} {B B' g9:Nat} {gs:List G.GrantD} {qs:List P.PlaceD} {s1 s2:Value} {x:SaysC} (hL:LdO w B gs qs s1 s2) (h1:g9 < B) (h2:B'≤g9) (hr:w.heap[g9]?=some (.cells (arrS x) 29 (0,0))) (hx:x.2.2.2.1=[]):TkO w B' gs qs [pcOf x] s1 s2 (.slice (some ⟨g9,0,none⟩) 1 1):=by
 have hlt:g9 < w.heap.size:=(Array.getElem?_eq_some_iff.1 hr).1
 have hc:∀ j v,(arrS x).toList[j]?=some v→w.cell? ⟨g9,j,none⟩=some v:=fun j v hj=>by
  have:=blk_cells hr j v hj
  rw [Addr.add_mid,Nat.zero_add] at this
  exact this
 refine ⟨hL.low (by omega),⟨Or.inr ⟨g9,1,rfl,h2,hlt, ?_, ?_⟩, ?_, ?_, ?_⟩, ?_⟩
 ·
  intro k r hk
  cases k with
  | zero =>
   cases hk
   intro j v hj
   rw [Nat.zero_add]
   exact hc j v hj
  | succ k=>simp at hk
 ·
  intro j hj
  have hj7:j < 7:=by simpa using hj
  refine ⟨?_, ?_⟩
  ·
   rw [Nat.zero_add]
   have:j < (arrS x).toList.length:=hj7
   rw [hc j _ (List.getElem?_eq_getElem this)]
   rfl
  simp [World.frozen?,hr]
 ·
  intro j q hq
  cases j with
  | zero=>cases hq; exact Or.inl ⟨rfl,rfl⟩
  | succ j=>simp at hq
 ·
  intro j q g hq hg
  cases j with
  | zero=>cases hq; cases hg
  | succ j=>simp at hq
 ·
  intro i j q r g hij hq hr'
  cases j with
  | zero=>omega
  | succ j=>simp at hr'
 rintro g hg (e | ⟨j,q,hq,e⟩)
 ·
  have h3:=(hL.lt g hg).1
  have e':g9=g:=Option.some.inj e
  omega
 cases j with
 | zero=>cases hq; cases e
 | succ j=>simp at hq
theorem work_take (d qb:Nat) (p:TakeP) (s:Int) (a:Option Addr) (nw cw:Nat) (w:World) (R:Value→Value→World→Prop) (hc:∀ j,w.cell? ⟨qb,j,none⟩=(#[.int .i64 p.k,.string p.b,.int .i64 s,.slice a nw cw,.string p.h,.string p.c,.int .i64 p.t]:Array Value)[j]?) (h:Calls Tryz.prog 23 #[.pointer (some ⟨d,0,none⟩),.agg #[.int .i64 p.k,.string p.b,.int .i64 s,.slice a nw cw,.string p.h,.string p.c,.int .i64 p.t]] w fun e w'=>∃ v er,e=.returned (.tuple #[v,er])∧R v er w') :
  Calls Tryz.prog 22 #[.pointer (some ⟨d,0,none⟩),.pointer (some ⟨qb,0,none⟩)] w fun e w'=>∃ v er,e=.returned (.tuple #[v,er])∧R v er w':=by
 have H:=hidP h
 have k0:w.cell? ⟨qb,0,none⟩=some (.int .i64 p.k):=hc 0
 have k1:w.cell? ⟨qb,1,none⟩=some (.string p.b):=hc 1
 have k2:w.cell? ⟨qb,2,none⟩=some (.int .i64 s):=hc 2
 have k3:w.cell? ⟨qb,3,none⟩=some (.slice a nw cw):=hc 3
 have k4:w.cell? ⟨qb,4,none⟩=some (.string p.h):=hc 4
 have k5:w.cell? ⟨qb,5,none⟩=some (.string p.c):=hc 5
 have k6:w.cell? ⟨qb,6,none⟩=some (.int .i64 p.t):=hc 6
 clear h hc
 go_enter Tryz.func22,Tryz.ntmps22
 go_wp2_with fail
 refine H.out.mono ?_
 rintro e w1 ⟨v,er,rfl,hR⟩
 have HR:=hidP hR
 clear hR H k0 k1 k2 k3 k4 k5 k6
 go_wp2_with fail
 exact bodyPost_ret (v:=.tuple #[v,er]) (by simp [results,Tryz.results22,go_sem]) rfl ⟨v,er,rfl,HR.out⟩
end Go.Proofs.YtcjhlhijdacinaaGreatDoor
namespace Go.Proofs.YtcjhlhijdacinaaGreatDoor
open Go.RowKit Go.Maps Go.WideMaps
set_option linter.unusedVariables false
theorem takeF_cases (t:Int) (gs:List G.GrantD) (ps:List P.PlaceD) (p:TakeP):takeF t gs ps p=(gs,[])∨∃ x:SaysC,(takeF t gs ps p).2=[x]∧x.2.2.2.1=[]:=by
 unfold takeF
 split
 ·
  split
  ·
   split
   · exact Or.inr ⟨_,rfl,rfl⟩
   exact Or.inl rfl
  split
  · exact Or.inr ⟨_,rfl,rfl⟩
  exact Or.inl rfl
 exact Or.inl rfl
theorem takeF_srt {t:Int} {gs:List G.GrantD} {ps:List P.PlaceD} {p:TakeP} (hs:G.Srt gs):G.Srt (takeF t gs ps p).1:=by
 unfold takeF
 split
 ·
  split
  ·
   split
   · exact Ord.insS_srt G.keyV _ _ (left_srt hs)
   exact hs
  split
  · exact List.Pairwise.filter _ hs
  exact hs
 exact hs
theorem takeF_mem {t:Int} {gs:List G.GrantD} {ps:List P.PlaceD} {p:TakeP}:∀ g∈(takeF t gs ps p).1,g=newG t p∨g∈gs:=by
 unfold takeF
 split
 ·
  split
  ·
   split
   ·
    intro g hg
    rcases Ord.insS_mem G.keyV _ _ g hg with h | h
    · exact Or.inl h
    exact Or.inr (left_mem g h)
   exact fun g hg=>Or.inr hg
  split
  · exact fun g hg=>Or.inr (List.mem_filter.1 hg).1
  exact fun g hg=>Or.inr hg
 exact fun g hg=>Or.inr hg
theorem takeF_len {t:Int} {gs:List G.GrantD} {ps:List P.PlaceD} {p:TakeP}:(takeF t gs ps p).1.length≤gs.length+1:=by
 unfold takeF
 split
 ·
  split
  ·
   split
   · exact Nat.le_trans (Ord.insS_len G.keyV _ _) (Nat.succ_le_succ left_len)
   exact Nat.le_succ _
  split
  · exact Nat.le_trans (List.length_filter_le ..) (Nat.le_succ _)
  exact Nat.le_succ _
 exact Nat.le_succ _
def ErrZ (w:World) (n:Nat):Prop:=ErrAt w n∧n < w.heap.size
theorem ErrZ.keep {w w':World} {n:Nat} (h:ErrZ w n) (hb:Below w.heap.size w w'):ErrZ w' n:=by
 obtain ⟨⟨te,pe,hc⟩,hz⟩:=h
 exact ⟨⟨te,pe,(hb.cell (p:=⟨n,0,none⟩) hz).trans hc⟩,Nat.lt_of_lt_of_le hz hb.size⟩
theorem ErrZ.grown {w y z:World} {n m:Nat} (h:ErrZ w n) (hb:Below w.heap.size w y) (hm:w.heap.size≤m) (hg:y.grownBy z (some m)):ErrAt z n:=by
 obtain ⟨⟨te,pe,hc⟩,hz⟩:=h.keep hb
 have h2:=h.2
 exact ⟨te,pe,grown_cell hg hz (by omega) hc⟩
structure Er6 (w:World):Prop where
 e0:ErrZ w 0
 e1:ErrZ w 1
 e2:ErrZ w 2
 e3:ErrZ w 6
 e4:ErrZ w 7
 e5:ErrZ w 8
theorem Er6.keep {w w':World} (h:Er6 w) (hb:Below w.heap.size w w'):Er6 w':=⟨h.e0.keep hb,h.e1.keep hb,h.e2.keep hb,h.e3.keep hb,h.e4.keep hb,h.e5.keep hb⟩
end Go.Proofs.YtcjhlhijdacinaaGreatDoor
namespace Go.Proofs.YtcjhlhijdacinaaGreatDoor
open Go.RowKit Go.Maps Go.WideMaps
set_option linter.unusedVariables false
set_option maxRecDepth 4000 in
set_option maxHeartbeats 2000000 in
theorem change_tno_z (t:Int) (gs:List G.GrantD) (ps:List P.PlaceD) (b1 b2:Option Addr) (kk1 kk2:Nat) (w:World) (f:Value) (hA:P.LandZ w gs ps b1 b2 kk1) (hF:P.Fit gs ps) (hno:¬ P.LandSay t gs ps) (ev:Value) (hev:w.cell? ⟨0,0,none⟩=some ev) (hev0:0 < w.heap.size) (hv:∃ te pe,ev=.iface te pe) :
  Calls Tryz.prog 21 #[.agg #[.int .i64 t,.slice b1 gs.length kk1,.slice b2 ps.length kk2],f] w fun e w'=>e=.returned (.tuple #[.agg #[.int .i64 0,.slice none 0 0,.slice none 0 0],.slice none 0 0,ev])∧Below w.heap.size w w':=by
 obtain ⟨te,pe,rfl⟩:=hv
 obtain ⟨W1,hW1⟩:∃ W1,W1=(w.alloc (.cells #[.int .i64 t,.slice b1 gs.length kk1,.slice b2 ps.length kk2] 26)).alloc (.cells #[.int .i64 0,.slice none 0 0,.slice none 0 0] 26):=⟨_,rfl⟩
 have HW1:=hidP hW1
 have B1:Hid (Below w.heap.size w W1):=by rw [hW1]; exact bl_alloc (bl_alloc bR _) _
 have OK:Hid (Calls Tryz.prog 12 #[.agg #[.int .i64 t,.slice b1 gs.length kk1,.slice b2 ps.length kk2]] W1 fun e w'=>e=.returned (.bool false)∧Below W1.heap.size W1 w'):=by
  refine (P.implLandOk_z t gs ps b1 b2 kk1 kk2 W1 (hA.keep B1.out) hF).mono ?_
  rintro e w' ⟨⟨q,rfl,hq⟩,hb⟩
  refine ⟨?_,hb⟩
  cases q with
  | false=>rfl
  | true=>exact (hno (hq.1 rfl)).elim
 have hz1:W1.heap.size=w.heap.size+2:=by rw [hW1]; simp
 have T1:Hid (W1.heap[w.heap.size+1]?=some (.cells #[.int .i64 0,.slice none 0 0,.slice none 0 0] 26 (0,0))):=by
  rw [hW1]
  have h:=heap_alloc_newL (w.alloc (.cells #[.int .i64 t,.slice b1 gs.length kk1,.slice b2 ps.length kk2] 26)) (.cells #[.int .i64 0,.slice none 0 0,.slice none 0 0] 26)
  rw [World.size_alloc] at h
  exact h
 clear hA hF hno hW1
 go_enter Tryz.func21,Tryz.ntmps21
 go_wp2_with fail
 rw [← HW1.out]
 refine OK.out.mono ?_
 rintro e w2 ⟨rfl,b2'⟩
 have he2:w2.cell? ⟨0,0,none⟩=some (.iface te pe):=((bl_trans B1.out b2').cell (p:=⟨0,0,none⟩) hev0).trans hev
 have T3:Hid (w2.heap[w.heap.size+1]?=some (.cells #[.int .i64 0,.slice none 0 0,.slice none 0 0] 26 (0,0))):=(b2'.block _ (by omega)).trans T1.out
 have T2:Hid (w2.there (w.heap.size+1) 0 3):=there_land ((b2'.block _ (by omega)).trans T1.out)
 have B2:=hidP (bl_trans B1.out b2')
 clear b2' hev
 have hT:=(T3.out)
 have t0:w2.cell? ⟨w.heap.size+1,0,none⟩=some (.int .i64 0):=by simp [World.cell?,hT]
 have t1:w2.cell? ⟨w.heap.size+1,1,none⟩=some (.slice none 0 0):=by simp [World.cell?,hT]
 have t2:w2.cell? ⟨w.heap.size+1,2,none⟩=some (.slice none 0 0):=by simp [World.cell?,hT]
 have z0:w2.frozen? ⟨w.heap.size+1,0,none⟩=false:=by simp [World.frozen?,hT]
 have z1:w2.frozen? ⟨w.heap.size+1,1,none⟩=false:=by simp [World.frozen?,hT]
 have z2:w2.frozen? ⟨w.heap.size+1,2,none⟩=false:=by simp [World.frozen?,hT]
 have BF:Hid (∀ n,Below w.heap.size w ((((w2.drewN n).setCell ⟨w.heap.size+1,0,none⟩ (.int .i64 0)).setCell ⟨w.heap.size+1,1,none⟩ (.slice none 0 0)).setCell ⟨w.heap.size+1,2,none⟩ (.slice none 0 0))):=fun n=>bl_set (bl_set (bl_set (⟨B2.out.os,B2.out.tape,B2.out.output,B2.out.size,B2.out.block⟩:Below w.heap.size w (w2.drewN n)) (by show w.heap.size≤w.heap.size+1; omega) _) (by show w.heap.size≤w.heap.size+1; omega) _) (by show w.heap.size≤w.heap.size+1; omega) _
 clear hT T2
 go_wp2_with fail
 go_region
 all_goals go_wp2
 all_goals exact bodyPost_ret (v:=.tuple #[.agg #[.int .i64 0,.slice none 0 0,.slice none 0 0],.slice none 0 0,.iface te pe]) (by simp [results,Tryz.results21,go_sem,t0,t1,t2]) rfl ⟨rfl,BF.out _⟩
set_option maxRecDepth 4000 in
set_option maxHeartbeats 4000000 in
theorem change_terr_z (hK1:G.KeysSay) (hS1:G.SortedSay) (hK2:Pr.KeysSay) (hS2:Pr.SortedSay) (t:Int) (gs:List G.GrantD) (ps:List P.PlaceD) (b1 b2:Option Addr) (kk1 kk2:Nat) (w:World) (f:Value) (hA:P.LandZ w gs ps b1 b2 kk1) (hF:P.Fit gs ps) (hok:P.LandSay t gs ps) (bb:Nat) (hwk:∀ y d m1 m2,Below w.heap.size w y→w.heap.size+2≤d→w.heap.size+2≤m1→d≠m1→Book y d t m1 m2 gs (ps.map Pr.raw)→(∃ n,n≤1048576∧y.ownsMap Tryz.prog 9 G.RV m1 n (G.dec gs))→Calls Tryz.prog 22 #[.pointer (some ⟨d,0,none⟩),.pointer (some ⟨bb,0,none⟩)] y fun e w'=>(∃ te pe,e=.returned (.tuple #[.slice none 0 0,.iface te pe]))∧Off (fun j=>j=m1) y w') (hf:f=.func (.func 22) #[] #[.pointer (some ⟨bb,0,none⟩)]) :
  Calls Tryz.prog 21 #[.agg #[.int .i64 t,.slice b1 gs.length kk1,.slice b2 ps.length kk2],f] w fun e w'=>(∃ qs s1 s2 te pe,e=.returned (.tuple #[.agg #[.int .i64 t,s1,s2],.slice none 0 0,.iface te pe])∧P.Like qs ps∧LdO w' w.heap.size gs qs s1 s2)∧Below w.heap.size w w':=by
 subst hf
 have hinfo:(Tryz.prog.info? 26).map (·.size)=some 3:=by kernel_rfl
 obtain ⟨W1,hW1⟩:∃ W1,W1=(w.alloc (.cells #[.int .i64 t,.slice b1 gs.length kk1,.slice b2 ps.length kk2] 26)).alloc (.cells #[.int .i64 0,.slice none 0 0,.slice none 0 0] 26):=⟨_,rfl⟩
 have HW1:=hidP hW1
 have B1:Hid (Below w.heap.size w W1):=by rw [hW1]; exact bl_alloc (bl_alloc bR _) _
 have HA:=hidP hA
 have HF:=hidP hF
 have HK:=hidP hok
 have OK:Hid (Calls Tryz.prog 12 #[.agg #[.int .i64 t,.slice b1 gs.length kk1,.slice b2 ps.length kk2]] W1 fun e w'=>e=.returned (.bool true)∧Below W1.heap.size W1 w'):=by
  refine (P.implLandOk_z t gs ps b1 b2 kk1 kk2 W1 (hA.keep B1.out) hF).mono ?_
  rintro e w' ⟨⟨q,rfl,hq⟩,hb⟩
  exact ⟨by rw [hq.2 hok],hb⟩
 have hz1:W1.heap.size=w.heap.size+2:=by rw [hW1]; simp
 have Z1:=hidP hz1
 have T1:Hid (∀ y,Below W1.heap.size W1 y→y.heap[w.heap.size+1]?=some (.cells #[.int .i64 0,.slice none 0 0,.slice none 0 0] 26 (0,0))):=by
  intro y hy
  refine (hy.block _ (by omega)).trans ?_
  rw [hW1]
  have h:=heap_alloc_newL (w.alloc (.cells #[.int .i64 t,.slice b1 gs.length kk1,.slice b2 ps.length kk2] 26)) (.cells #[.int .i64 0,.slice none 0 0,.slice none 0 0] 26)
  rw [World.size_alloc] at h
  exact h
 have K0:Hid (∀ y,Below W1.heap.size W1 y→∀ j,y.cell? ⟨w.heap.size,j,none⟩=(#[.int .i64 t,.slice b1 gs.length kk1,.slice b2 ps.length kk2]:Array Value)[j]?):=by
  intro y hy j
  rw [hy.cell (p:=⟨w.heap.size,j,none⟩) (by show w.heap.size < _; omega),hW1]
  simp [go_sem]
 have BO:Hid (∀ y,Below W1.heap.size W1 y→Calls Tryz.prog 47 #[.agg #[.int .i64 t,.slice b1 gs.length kk1,.slice b2 ps.length kk2]] y fun e w'=>(∃ d m1 m2,e=.returned (.pointer (some ⟨d,0,none⟩))∧(y.heap.size≤d∧y.heap.size≤m1∧y.heap.size≤m2∧d≠m1∧d≠m2)∧Book w' d t m1 m2 gs (ps.map Pr.raw)∧∃ n,n≤1048576∧w'.ownsMap Tryz.prog 9 G.RV m1 n (G.dec gs))∧Below y.heap.size y w'):=by
  intro y hy
  have hy2:=bl_trans B1.out hy
  have h:=bookOf_zm t gs ps b1 b2 kk1 kk2 y (hA.keep hy2) hF (G.srt_asc hok.2.1.2.1) (srtP_raw (srtP hok.2.2.1.2.1))
  exact h.mono (by rintro e w' ⟨⟨d,m1,m2,h1,h2,h3,-,h5⟩,h4⟩; exact ⟨⟨d,m1,m2,h1,h2,h3,h5⟩,h4⟩)
 have TO:Hid (∀ y d u m1 m2,Below w.heap.size w y→Book y d u m1 m2 gs (ps.map Pr.raw)→Calls Tryz.prog 48 #[.pointer (some ⟨d,0,none⟩)] y fun e w'=>(∃ B Z lb qs s1 a2 c2,e=.returned (.agg #[.int .i64 u,s1,.slice a2 ps.length c2])∧y.heap.size < B∧Pt w' B Z lb u gs ps qs ps.length s1 a2 c2)∧Below y.heap.size y w'):=by
  intro y d u m1 m2 hy hB
  exact told_any hK1 hS1 hK2 hS2 d m1 m2 u gs ps (ps.map Pr.raw) rfl y hB (G.srt_asc hok.2.1.2.1) (srtP_raw (srtP hok.2.2.1.2.1)) (fun r hr=>(hF.g r hr).1) (fun r hr=>by obtain ⟨p,hp,rfl⟩:=List.mem_map.1 hr; exact (hF.p p hp).1) hF.gl (by rw [List.length_map]; exact hF.pl) (fun q hq=>⟨((hA.k q hq).keep hy),hF.ln q hq⟩)
 have WK:=hidP hwk
 clear hA hF hok hW1 hz1 hK1 hS1 hK2 hS2 hwk
 go_enter Tryz.func21,Tryz.ntmps21
 go_wp2_with fail
 rw [← HW1.out]
 refine OK.out.mono ?_
 rintro e w2 ⟨rfl,c2⟩
 have D2:=hidP c2
 clear c2
 have t0:w2.cell? ⟨w.heap.size,0,none⟩=some (.int .i64 t):=K0.out w2 D2.out 0
 have t1:w2.cell? ⟨w.heap.size,1,none⟩=some (.slice b1 gs.length kk1):=K0.out w2 D2.out 1
 have t2:w2.cell? ⟨w.heap.size,2,none⟩=some (.slice b2 ps.length kk2):=K0.out w2 D2.out 2
 go_wp2_with fail
 clear t0 t1 t2
 refine (BO.out w2 D2.out).mono ?_
 rintro e w3 ⟨⟨d,m1,m2,rfl,hd,hB,hNB⟩,c3⟩
 have D3:=hidP (bl_trans D2.out c3)
 have HD:Hid (W1.heap.size≤d∧W1.heap.size≤m1∧d≠m1):=⟨Nat.le_trans D2.out.size hd.1,Nat.le_trans D2.out.size hd.2.1,hd.2.2.2.1⟩
 have HNB:=hidP hNB
 clear hNB
 have HB:=hidP hB
 clear hd hB c3
 go_wp2_with fail
 refine (WK.out w3 d m1 m2 (bl_trans B1.out D3.out) (by have h1:=HD.out.1; have h2:=Z1.out; omega) (by have h1:=HD.out.2.1; have h2:=Z1.out; omega) HD.out.2.2 HB.out HNB.out).mono ?_
 rintro e w4 ⟨⟨te,pe,rfl⟩,o4⟩
 have D4:Hid (Below W1.heap.size W1 w4):=D3.out.trans (o4.below (fun j hj=>by rw [hj]; exact HD.out.2.1) D3.out.size)
 clear o4
 have t0:w4.cell? ⟨w.heap.size,0,none⟩=some (.int .i64 t):=K0.out w4 D4.out 0
 have t1:w4.cell? ⟨w.heap.size,1,none⟩=some (.slice b1 gs.length kk1):=K0.out w4 D4.out 1
 have t2:w4.cell? ⟨w.heap.size,2,none⟩=some (.slice b2 ps.length kk2):=K0.out w4 D4.out 2
 go_wp2_with fail
 clear t0 t1 t2
 refine (BO.out w4 D4.out).mono ?_
 rintro e w6 ⟨⟨d',m1',m2',rfl,hd,hB,-⟩,c6⟩
 have D6:=hidP (bl_trans D4.out c6)
 have HB':Hid (Book w6 d' t m1' m2' gs (ps.map Pr.raw)):=hB
 clear hd hB c6
 go_wp2_with fail
 refine (TO.out w6 d' t m1' m2' (bl_trans B1.out D6.out) HB'.out).mono ?_
 rintro e w5 ⟨⟨B,Zz,lb,qs,s1,a2,c2,rfl,hBz,hP⟩,c5⟩
 obtain ⟨a1,c1,rfl⟩:=OG.shape hP.g
 have HBz:=hidP hBz
 have HP:=hidP hP
 have C5:=hidP c5
 have D5:=hidP (bl_trans D6.out c5)
 have T5:=hidP (there_land (T1.out w5 D5.out))
 clear hBz hP c5
 go_wp2_with (refine wpList_store_mid (by rfl) 26 _ _ (by rfl) (w.heap.size+1) 0 #[.int .i64 t,.slice a1 gs.length c1,.slice a2 ps.length c2] (by rfl) (by rfl) (by exact T5.out) hinfo (by simp [Value.oneCell']) ?_)
 have RG:=World.rangeAt_setCells_same w5 (w.heap.size+1) 0 [.int .i64 t,.slice a1 gs.length c1,.slice a2 ps.length c2] T5.out
 have hx:Ex (w.heap.size+1) w5 (World.setCells w5 (w.heap.size+1) 0 [.int .i64 t,.slice a1 gs.length c1,.slice a2 ps.length c2]):=(Ex.refl _ _).cells _ _
 have BE:Below w.heap.size w (World.setCells w5 (w.heap.size+1) 0 [.int .i64 t,.slice a1 gs.length c1,.slice a2 ps.length c2]):=Ex.mono (bl_trans B1.out D5.out) hx (Nat.le_succ _)
 have d0:=RG 0 _ rfl
 have d1:=RG 1 _ rfl
 have d2:=RG 2 _ rfl
 simp only [Nat.zero_add] at d0 d1 d2
 refine bodyPost_ret (v:=.tuple #[.agg #[.int .i64 t,.slice a1 gs.length c1,.slice a2 ps.length c2],.slice none 0 0,.iface te pe]) (by simp [results,Tryz.results21,go_sem,d0,d1,d2]) rfl ⟨?_,BE⟩
 have hs:w.heap.size+2≤w6.heap.size:=by have h1:=D6.out.size; have h2:=Z1.out; omega
 have hBB:=HBz.out
 exact ⟨qs,_,_,te,pe,rfl,HP.out.like,(pt_ldo (pt_other HP.out hx (by omega))).low (by omega)⟩
set_option maxRecDepth 4000 in
set_option maxHeartbeats 4000000 in
theorem change_tgo_z (hK1:G.KeysSay) (hS1:G.SortedSay) (hK2:Pr.KeysSay) (hS2:Pr.SortedSay) (t:Int) (gs:List G.GrantD) (ps:List P.PlaceD) (b1 b2:Option Addr) (kk1 kk2:Nat) (w:World) (f:Value) (hA:P.LandZ w gs ps b1 b2 kk1) (hF:P.Fit gs ps) (hok:P.LandSay t gs ps) (bb:Nat) (gs':List G.GrantD) (x:SaysC) (hx0:x.2.2.2.1=[]) (hto:∀ y d m1 m2,Below w.heap.size w y→Book y d t m1 m2 gs' (ps.map Pr.raw)→Calls Tryz.prog 48 #[.pointer (some ⟨d,0,none⟩)] y fun e w'=>(∃ B Z lb qs s1 a2 c2,e=.returned (.agg #[.int .i64 t,s1,.slice a2 ps.length c2])∧y.heap.size < B∧Pt w' B Z lb t gs' ps qs ps.length s1 a2 c2)∧Below y.heap.size y w') (hwk:∀ y d m1 m2,Below w.heap.size w y→w.heap.size+2≤d→w.heap.size+2≤m1→d≠m1→Book y d t m1 m2 gs (ps.map Pr.raw)→(∃ n,n≤1048576∧y.ownsMap Tryz.prog 9 G.RV m1 n (G.dec gs))→Calls Tryz.prog 22 #[.pointer (some ⟨d,0,none⟩),.pointer (some ⟨bb,0,none⟩)] y fun e w'=>(∃ g9,e=.returned (.tuple #[.slice (some ⟨g9,0,none⟩) 1 1,.nilIface])∧y.heap.size≤g9∧w'.heap[g9]?=some (.cells (arrS x) 29 (0,0)))∧Book w' d t m1 m2 gs' (ps.map Pr.raw)∧Off (fun j=>j=m1) y w') (hf:f=.func (.func 22) #[] #[.pointer (some ⟨bb,0,none⟩)]) :
  Calls Tryz.prog 21 #[.agg #[.int .i64 t,.slice b1 gs.length kk1,.slice b2 ps.length kk2],f] w fun e w'=>(∃ qs s1 s2 v,e=.returned (.tuple #[.agg #[.int .i64 t,s1,s2],v,.nilIface])∧P.Like qs ps∧TkO w' w.heap.size gs' qs [pcOf x] s1 s2 v)∧Below w.heap.size w w':=by
 subst hf
 have hinfo:(Tryz.prog.info? 26).map (·.size)=some 3:=by kernel_rfl
 obtain ⟨W1,hW1⟩:∃ W1,W1=(w.alloc (.cells #[.int .i64 t,.slice b1 gs.length kk1,.slice b2 ps.length kk2] 26)).alloc (.cells #[.int .i64 0,.slice none 0 0,.slice none 0 0] 26):=⟨_,rfl⟩
 have HW1:=hidP hW1
 have B1:Hid (Below w.heap.size w W1):=by rw [hW1]; exact bl_alloc (bl_alloc bR _) _
 have HA:=hidP hA
 have HF:=hidP hF
 have HK:=hidP hok
 have OK:Hid (Calls Tryz.prog 12 #[.agg #[.int .i64 t,.slice b1 gs.length kk1,.slice b2 ps.length kk2]] W1 fun e w'=>e=.returned (.bool true)∧Below W1.heap.size W1 w'):=by
  refine (P.implLandOk_z t gs ps b1 b2 kk1 kk2 W1 (hA.keep B1.out) hF).mono ?_
  rintro e w' ⟨⟨q,rfl,hq⟩,hb⟩
  exact ⟨by rw [hq.2 hok],hb⟩
 have hz1:W1.heap.size=w.heap.size+2:=by rw [hW1]; simp
 have Z1:=hidP hz1
 have T1:Hid (∀ y,Below W1.heap.size W1 y→y.heap[w.heap.size+1]?=some (.cells #[.int .i64 0,.slice none 0 0,.slice none 0 0] 26 (0,0))):=by
  intro y hy
  refine (hy.block _ (by omega)).trans ?_
  rw [hW1]
  have h:=heap_alloc_newL (w.alloc (.cells #[.int .i64 t,.slice b1 gs.length kk1,.slice b2 ps.length kk2] 26)) (.cells #[.int .i64 0,.slice none 0 0,.slice none 0 0] 26)
  rw [World.size_alloc] at h
  exact h
 have K0:Hid (∀ y,Below W1.heap.size W1 y→∀ j,y.cell? ⟨w.heap.size,j,none⟩=(#[.int .i64 t,.slice b1 gs.length kk1,.slice b2 ps.length kk2]:Array Value)[j]?):=by
  intro y hy j
  rw [hy.cell (p:=⟨w.heap.size,j,none⟩) (by show w.heap.size < _; omega),hW1]
  simp [go_sem]
 have BO:Hid (∀ y,Below W1.heap.size W1 y→Calls Tryz.prog 47 #[.agg #[.int .i64 t,.slice b1 gs.length kk1,.slice b2 ps.length kk2]] y fun e w'=>(∃ d m1 m2,e=.returned (.pointer (some ⟨d,0,none⟩))∧(y.heap.size≤d∧y.heap.size≤m1∧y.heap.size≤m2∧d≠m1∧d≠m2)∧Book w' d t m1 m2 gs (ps.map Pr.raw)∧∃ n,n≤1048576∧w'.ownsMap Tryz.prog 9 G.RV m1 n (G.dec gs))∧Below y.heap.size y w'):=by
  intro y hy
  have hy2:=bl_trans B1.out hy
  have h:=bookOf_zm t gs ps b1 b2 kk1 kk2 y (hA.keep hy2) hF (G.srt_asc hok.2.1.2.1) (srtP_raw (srtP hok.2.2.1.2.1))
  exact h.mono (by rintro e w' ⟨⟨d,m1,m2,h1,h2,h3,-,h5⟩,h4⟩; exact ⟨⟨d,m1,m2,h1,h2,h3,h5⟩,h4⟩)
 have TO:Hid (∀ y d u m1 m2,Below w.heap.size w y→Book y d u m1 m2 gs (ps.map Pr.raw)→Calls Tryz.prog 48 #[.pointer (some ⟨d,0,none⟩)] y fun e w'=>(∃ B Z lb qs s1 a2 c2,e=.returned (.agg #[.int .i64 u,s1,.slice a2 ps.length c2])∧y.heap.size < B∧Pt w' B Z lb u gs ps qs ps.length s1 a2 c2)∧Below y.heap.size y w'):=by
  intro y d u m1 m2 hy hB
  exact told_any hK1 hS1 hK2 hS2 d m1 m2 u gs ps (ps.map Pr.raw) rfl y hB (G.srt_asc hok.2.1.2.1) (srtP_raw (srtP hok.2.2.1.2.1)) (fun r hr=>(hF.g r hr).1) (fun r hr=>by obtain ⟨p,hp,rfl⟩:=List.mem_map.1 hr; exact (hF.p p hp).1) hF.gl (by rw [List.length_map]; exact hF.pl) (fun q hq=>⟨((hA.k q hq).keep hy),hF.ln q hq⟩)
 have WK:=hidP hwk
 have TQ:=hidP hto
 clear hA hF hok hW1 hz1 hK1 hS1 hK2 hS2 hwk hto
 go_enter Tryz.func21,Tryz.ntmps21
 go_wp2_with fail
 rw [← HW1.out]
 refine OK.out.mono ?_
 rintro e w2 ⟨rfl,c2⟩
 have D2:=hidP c2
 clear c2
 have t0:w2.cell? ⟨w.heap.size,0,none⟩=some (.int .i64 t):=K0.out w2 D2.out 0
 have t1:w2.cell? ⟨w.heap.size,1,none⟩=some (.slice b1 gs.length kk1):=K0.out w2 D2.out 1
 have t2:w2.cell? ⟨w.heap.size,2,none⟩=some (.slice b2 ps.length kk2):=K0.out w2 D2.out 2
 go_wp2_with fail
 clear t0 t1 t2
 refine (BO.out w2 D2.out).mono ?_
 rintro e w3 ⟨⟨d,m1,m2,rfl,hd,hB,hNB⟩,c3⟩
 have D3:=hidP (bl_trans D2.out c3)
 have HD:Hid (W1.heap.size≤d∧W1.heap.size≤m1∧d≠m1):=⟨Nat.le_trans D2.out.size hd.1,Nat.le_trans D2.out.size hd.2.1,hd.2.2.2.1⟩
 have HNB:=hidP hNB
 clear hNB
 have HB:=hidP hB
 clear hd hB c3
 go_wp2_with fail
 refine (WK.out w3 d m1 m2 (bl_trans B1.out D3.out) (by have h1:=HD.out.1; have h2:=Z1.out; omega) (by have h1:=HD.out.2.1; have h2:=Z1.out; omega) HD.out.2.2 HB.out HNB.out).mono ?_
 rintro e w4 ⟨⟨g9,rfl,hg9,hrow⟩,hB4,o4⟩
 have HG9:Hid (w3.heap.size≤g9∧g9 < w4.heap.size):=⟨hg9,(Array.getElem?_eq_some_iff.1 hrow).1⟩
 have HRW:=hidP hrow
 have D4:Hid (Below W1.heap.size W1 w4):=D3.out.trans (o4.below (fun j hj=>by rw [hj]; exact HD.out.2.1) D3.out.size)
 have HB4:=hidP hB4
 clear o4 hB4 hg9 hrow
 go_wp2_with fail
 refine (TQ.out w4 d m1 m2 (bl_trans B1.out D4.out) HB4.out).mono ?_
 rintro e w5 ⟨⟨B,Zz,lb,qs,s1,a2,c2,rfl,hBz,hP⟩,c5⟩
 obtain ⟨a1,c1,rfl⟩:=OG.shape hP.g
 have HBz:=hidP hBz
 have HP:=hidP hP
 have C5:=hidP c5
 have D5:=hidP (bl_trans D4.out c5)
 have T5:=hidP (there_land (T1.out w5 D5.out))
 clear hBz hP c5
 go_wp2_with (refine wpList_store_mid (by rfl) 26 _ _ (by rfl) (w.heap.size+1) 0 #[.int .i64 t,.slice a1 gs'.length c1,.slice a2 ps.length c2] (by rfl) (by rfl) (by exact T5.out) hinfo (by simp [Value.oneCell']) ?_)
 have RG:=World.rangeAt_setCells_same w5 (w.heap.size+1) 0 [.int .i64 t,.slice a1 gs'.length c1,.slice a2 ps.length c2] T5.out
 have hx:Ex (w.heap.size+1) w5 (World.setCells w5 (w.heap.size+1) 0 [.int .i64 t,.slice a1 gs'.length c1,.slice a2 ps.length c2]):=(Ex.refl _ _).cells _ _
 have BE:Below w.heap.size w (World.setCells w5 (w.heap.size+1) 0 [.int .i64 t,.slice a1 gs'.length c1,.slice a2 ps.length c2]):=Ex.mono (bl_trans B1.out D5.out) hx (Nat.le_succ _)
 have d0:=RG 0 _ rfl
 have d1:=RG 1 _ rfl
 have d2:=RG 2 _ rfl
 simp only [Nat.zero_add] at d0 d1 d2
 refine bodyPost_ret (v:=.tuple #[.agg #[.int .i64 t,.slice a1 gs'.length c1,.slice a2 ps.length c2],.slice (some ⟨g9,0,none⟩) 1 1,.nilIface]) (by simp [results,Tryz.results21,go_sem,d0,d1,d2]) rfl ⟨?_,BE⟩
 have hs:w.heap.size+2≤w4.heap.size:=by have h1:=D4.out.size; have h2:=Z1.out; omega
 have hBB:=HBz.out
 have h3:=D3.out.size
 have h9:=HG9.out
 have hz2:=Z1.out
 have hr5:(World.setCells w5 (w.heap.size+1) 0 [.int .i64 t,.slice a1 gs'.length c1,.slice a2 ps.length c2]).heap[g9]?=some (.cells (arrS x) 29 (0,0)):=(hx.block g9 (Nat.lt_of_lt_of_le h9.2 C5.out.size) (by omega)).trans ((C5.out.block g9 h9.2).trans HRW.out)
 exact ⟨qs,_,_,_,rfl,HP.out.like,tko_one (pt_ldo (pt_other HP.out hx (by omega))) (by omega) (by omega) hr5 hx0⟩
theorem change_take_z (hK1:G.KeysSay) (hS1:G.SortedSay) (hK2:Pr.KeysSay) (hS2:Pr.SortedSay) (t:Int) (gs:List G.GrantD) (ps:List P.PlaceD) (b1 b2:Option Addr) (kk1 kk2:Nat) (p:TakeP) (s:Int) (a:Option Addr) (nw cw:Nat) (w:World) (hA:P.LandZ w gs ps b1 b2 kk1) (hF:P.Fit gs ps) (hf:p.fits) (qb:Nat) (zq:qb < w.heap.size) (hc:∀ j,w.cell? ⟨qb,j,none⟩=(#[.int .i64 p.k,.string p.b,.int .i64 s,.slice a nw cw,.string p.h,.string p.c,.int .i64 p.t]:Array Value)[j]?) (hE:Er6 w) :
  Calls Tryz.prog 21 #[.agg #[.int .i64 t,.slice b1 gs.length kk1,.slice b2 ps.length kk2],.func (.func 22) #[] #[.pointer (some ⟨qb,0,none⟩)]] w fun e w'=>(∃ t' gs' qs ds s1 s2 v er,e=.returned (.tuple #[.agg #[.int .i64 t',s1,s2],v,er])∧TakeLSay t gs ps p t' gs' qs ds∧TkO w' w.heap.size gs' qs ds s1 s2 v)∧Below w.heap.size w w':=by
 by_cases hok:P.LandSay t gs ps
 ·
  have hsg:G.Srt gs:=G.srt_asc hok.2.1.2.1
  have hsp:Ord.Srt keyP ps:=srtP hok.2.2.1.2.1
  have htm:0≤t∧t≤2000000:=by
   have h:=hok.1
   unfold P.timeB inB at h
   simp only [Bool.and_eq_true,decide_eq_true_eq] at h
   exact h.1
  have TA:∀ y d m1 m2,Below w.heap.size w y→w.heap.size+2≤d→w.heap.size+2≤m1→d≠m1→Book y d t m1 m2 gs (ps.map Pr.raw)→(∃ n,n≤1048576∧y.ownsMap Tryz.prog 9 G.RV m1 n (G.dec gs))→Calls Tryz.prog 22 #[.pointer (some ⟨d,0,none⟩),.pointer (some ⟨qb,0,none⟩)] y fun e w'=>∃ v er,e=.returned (.tuple #[v,er])∧TakeEnds t p gs ps y w' d m1 m2 v er∧y.grownBy w' (some m1):=by
   rintro y d m1 m2 hy hd hm hdm hB ⟨n,hn,hown⟩
   refine work_take d qb p s a nw cw y (fun v er w'=>TakeEnds t p gs ps y w' d m1 m2 v er∧y.grownBy w' (some m1)) (fun j=>(hy.cell (p:=⟨qb,j,none⟩) zq).trans (hc j)) ?_
   refine (take_any d m1 m2 n t p s a nw cw gs ps y hB hn hown hdm hsg hF.gl (fun r hr=>(hF.g r hr).1) hsp (fun q hq=>((hA.k q hq).keep hy)) (fun q hq=>hF.ln q hq) hf htm (fun z hz=>hE.e1.grown hy (by omega) hz) (fun z hz=>hE.e2.grown hy (by omega) hz) (fun z hz=>hE.e3.grown hy (by omega) hz) (fun z hz=>hE.e4.grown hy (by omega) hz) (fun z hz=>hE.e5.grown hy (by omega) hz)).mono ?_
   rintro e w' ⟨⟨v,er,rfl,h1⟩,h2⟩
   exact ⟨v,er,rfl,h1,h2⟩
  rcases takeF_cases t gs ps p with hnone | ⟨x,hx,hx0⟩
  ·
   refine (change_terr_z hK1 hS1 hK2 hS2 t gs ps b1 b2 kk1 kk2 w _ hA hF hok qb ?_ rfl).mono ?_
   ·
    intro y d m1 m2 hy hd hm hdm hB hnb
    refine (TA y d m1 m2 hy hd hm hdm hB hnb).mono ?_
    rintro e w' ⟨v,er,rfl,hends,hg⟩
    refine ⟨?_,Off.of_grown hg (fun j hj=>(Option.some.inj hj).symm)⟩
    rcases hends with ⟨-,g9,x,hx,-⟩ | ⟨-,rfl,te,pe,rfl⟩
    ·
     rw [hnone] at hx
     cases hx
    exact ⟨te,pe,rfl⟩
   rintro e w' ⟨⟨qs,s1,s2,te,pe,rfl,hl,hL⟩,hbl⟩
   exact ⟨⟨t,gs,qs,[],s1,s2,_,_,rfl,Or.inr ⟨hok,rfl,hl,by rw [hnone],by rw [hnone]; rfl⟩,tko_none hL⟩,hbl⟩
  refine (change_tgo_z hK1 hS1 hK2 hS2 t gs ps b1 b2 kk1 kk2 w _ hA hF hok qb (takeF t gs ps p).1 x hx0 ?_ ?_ rfl).mono ?_
  ·
   intro y d m1 m2 hy hB
   refine told_any hK1 hS1 hK2 hS2 d m1 m2 t _ ps _ rfl y hB (takeF_srt hsg) (srtP_raw hsp) (fun r hr=>?_) (fun r hr=>by obtain ⟨p,hp,rfl⟩:=List.mem_map.1 hr; exact (hF.p p hp).1) ?_ (by rw [List.length_map]; exact hF.pl) (fun q hq=>⟨((hA.k q hq).keep hy),hF.ln q hq⟩)
   ·
    rcases takeF_mem r hr with rfl | h
    · exact hf.h
    exact (hF.g r h).1
   have h1:=takeF_len (t:=t) (gs:=gs) (ps:=ps) (p:=p)
   have h2:=hok.2.1.1
   omega
  ·
   intro y d m1 m2 hy hd hm hdm hB hnb
   refine (TA y d m1 m2 hy hd hm hdm hB hnb).mono ?_
   rintro e w' ⟨v,er,rfl,hends,hg⟩
   rcases hends with ⟨rfl,g9,x',hx',-,rfl,h9,hrow,hbk⟩ | ⟨hnone,-⟩
   ·
    rw [hx] at hx'
    cases hx'
    exact ⟨⟨g9,rfl,h9,hrow⟩,hbk,Off.of_grown hg (fun j hj=>(Option.some.inj hj).symm)⟩
   rw [hnone] at hx
   cases hx
  rintro e w' ⟨⟨qs,s1,s2,v,rfl,hl,hT⟩,hbl⟩
  exact ⟨⟨t,_,qs,_,s1,s2,v,_,rfl,Or.inr ⟨hok,rfl,hl,rfl,by rw [hx]; show [_]=[_]; rw [pcOf_says hx0]⟩,hT⟩,hbl⟩
 ·
  obtain ⟨⟨te,pe,hcell⟩,hz⟩:=hE.e0
  refine (change_tno_z t gs ps b1 b2 kk1 kk2 w _ hA hF hok _ hcell hz ⟨te,pe,rfl⟩).mono ?_
  rintro e w' ⟨rfl,hbl⟩
  exact ⟨⟨0,[],[],[],_,_,_,_,rfl,Or.inl ⟨hok,rfl,rfl,rfl,rfl⟩,tko_none (LdO.nil _ _)⟩,hbl⟩
set_option maxRecDepth 4000 in
set_option maxHeartbeats 4000000 in
theorem implLandTake_z (hK1:G.KeysSay) (hS1:G.SortedSay) (hK2:Pr.KeysSay) (hS2:Pr.SortedSay) (t:Int) (gs:List G.GrantD) (ps:List P.PlaceD) (b1 b2:Option Addr) (kk1 kk2:Nat) (p:TakeP) (s:Int) (a:Option Addr) (nw cw:Nat) (w:World) (hA:P.LandZ w gs ps b1 b2 kk1) (hF:P.Fit gs ps) (hf:p.fits) (hE:Er6 w) :
  Calls Tryz.prog 5 #[.agg #[.int .i64 t,.slice b1 gs.length kk1,.slice b2 ps.length kk2],.agg #[.int .i64 p.k,.string p.b,.int .i64 s,.slice a nw cw,.string p.h,.string p.c,.int .i64 p.t]] w fun e w'=>(∃ t' gs' qs ds s1 s2 v,e=.returned (.tuple #[.agg #[.int .i64 t',s1,s2],v])∧TakeLSay t gs ps p t' gs' qs ds∧TkO w' w.heap.size gs' qs ds s1 s2 v)∧Below w.heap.size w w':=by
 have hinfo:(Tryz.prog.info? 26).map (·.size)=some 3:=by kernel_rfl
 obtain ⟨W1,hW1⟩:∃ W1,W1=((w.alloc (.cells #[.int .i64 t,.slice b1 gs.length kk1,.slice b2 ps.length kk2] 26)).alloc (.cells #[.int .i64 p.k,.string p.b,.int .i64 s,.slice a nw cw,.string p.h,.string p.c,.int .i64 p.t] 29)).alloc (.cells #[.int .i64 0,.slice none 0 0,.slice none 0 0] 26):=⟨_,rfl⟩
 have HW1:=hidP hW1
 have B1:Hid (Below w.heap.size w W1):=by rw [hW1]; exact bl_alloc (bl_alloc (bl_alloc bR _) _) _
 have Z1:Hid (W1.heap.size=w.heap.size+3):=by rw [hW1]; show _=_; simp
 have T1:Hid (∀ y,Below W1.heap.size W1 y→y.there (w.heap.size+1+1) 0 3):=by
  intro y hy
  refine there_land ((hy.block _ (by have:=Z1.out; omega)).trans ?_)
  rw [hW1]
  have h:=heap_alloc_newL ((w.alloc (.cells #[.int .i64 t,.slice b1 gs.length kk1,.slice b2 ps.length kk2] 26)).alloc (.cells #[.int .i64 p.k,.string p.b,.int .i64 s,.slice a nw cw,.string p.h,.string p.c,.int .i64 p.t] 29)) (.cells #[.int .i64 0,.slice none 0 0,.slice none 0 0] 26)
  simp only [World.size_alloc] at h
  exact h
 have KQ:Hid (∀ j,W1.cell? ⟨w.heap.size+1,j,none⟩=(#[.int .i64 p.k,.string p.b,.int .i64 s,.slice a nw cw,.string p.h,.string p.c,.int .i64 p.t]:Array Value)[j]?):=by
  intro j
  rw [hW1]
  simp [go_sem,World.cell?_alloc_past]
 have CH:Hid (Calls Tryz.prog 21 #[.agg #[.int .i64 t,.slice b1 gs.length kk1,.slice b2 ps.length kk2],.func (.func 22) #[] #[.pointer (some ⟨w.heap.size+1,0,none⟩)]] W1 fun e w'=>(∃ t' gs' qs ds s1 s2 v er,e=.returned (.tuple #[.agg #[.int .i64 t',s1,s2],v,er])∧TakeLSay t gs ps p t' gs' qs ds∧TkO w' W1.heap.size gs' qs ds s1 s2 v)∧Below W1.heap.size W1 w'):=change_take_z hK1 hS1 hK2 hS2 t gs ps b1 b2 kk1 kk2 p s a nw cw W1 (hA.keep B1.out) hF hf (w.heap.size+1) (by have:=Z1.out; omega) KQ.out (hE.keep B1.out)
 clear hK1 hS1 hK2 hS2 hA hF hE hW1 hf KQ
 go_enter Tryz.func5,Tryz.ntmps5
 go_wp2_with fail
 rw [← HW1.out]
 refine CH.out.mono ?_
 rintro e w2 ⟨⟨t',gs',qs,ds,s1,s2,v,er,rfl,hS,hT⟩,c2⟩
 obtain ⟨a1,p1,rfl⟩:=G.Sl.shape hT.l.g
 obtain ⟨a2,p2,hs2⟩:=Pr.Sl.shape hT.l.p.o
 rw [List.length_map] at hs2
 subst hs2
 have HS:=hidP hS
 have HT:=hidP hT
 have D2:=hidP c2
 have T3:Hid ((w2.alloc (.cells #[.int .i64 t',.slice a1 gs'.length p1,.slice a2 qs.length p2] 26)).there (w.heap.size+1+1) 0 3):=T1.out _ (bl_trans c2 (bl_alloc bR _))
 clear hS hT c2 CH
 go_wp2_with (refine wpList_store_mid (by rfl) 26 _ _ (by rfl) (w.heap.size+1+1) 0 #[.int .i64 t',.slice a1 gs'.length p1,.slice a2 qs.length p2] (by rfl) (by rfl) (by exact T3.out) hinfo (by simp [Value.oneCell']) ?_)
 have hrg:=World.rangeAt_setCells_same (w2.alloc (.cells #[.int .i64 t',.slice a1 gs'.length p1,.slice a2 qs.length p2] 26)) (w.heap.size+1+1) 0 [.int .i64 t',.slice a1 gs'.length p1,.slice a2 qs.length p2] (by exact T3.out)
 have d0:=hrg 0 _ rfl
 have d1:=hrg 1 _ rfl
 have d2:=hrg 2 _ rfl
 simp only [Nat.zero_add] at d0 d1 d2
 have hb:Below w2.heap.size w2 (w2.alloc (.cells #[.int .i64 t',.slice a1 gs'.length p1,.slice a2 qs.length p2] 26)):=bl_alloc bR _
 have hx:Ex (w.heap.size+1+1) (w2.alloc (.cells #[.int .i64 t',.slice a1 gs'.length p1,.slice a2 qs.length p2] 26)) ((w2.alloc (.cells #[.int .i64 t',.slice a1 gs'.length p1,.slice a2 qs.length p2] 26)).setCells (w.heap.size+1+1) 0 [.int .i64 t',.slice a1 gs'.length p1,.slice a2 qs.length p2]):=(Ex.refl _ _).cells _ _
 have hz:=Z1.out
 exact bodyPost_ret (v:=.tuple #[.agg #[.int .i64 t',.slice a1 gs'.length p1,.slice a2 qs.length p2],v]) (by simp [results,Tryz.results5,go_sem,d0,d1,d2]) rfl ⟨⟨t',gs',qs,ds,_,_,v,rfl,HS.out,((HT.out.keep hb).off (off_of_ex hx) (fun g hg e=>by have:=(HT.out.lt g hg).1; omega)).low (by omega)⟩,Ex.mono (bl_trans B1.out (bl_trans D2.out hb)) hx (by omega)⟩
end Go.Proofs.YtcjhlhijdacinaaGreatDoor
