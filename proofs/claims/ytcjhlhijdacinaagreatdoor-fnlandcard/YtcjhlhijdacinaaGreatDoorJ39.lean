import Derived.Test.YtcjhlhijdacinaaGreatDoorJ21
import Derived.Test.YtcjhlhijdacinaaGreatDoorJ24
import Derived.Deep.RegionWith
namespace Go.Proofs.YtcjhlhijdacinaaGreatDoor
open Go.RowKit Go.Maps Go.WideMaps
set_option linter.unusedVariables false
set_option maxRecDepth 4000 in
set_option maxHeartbeats 2000000 in
theorem change_pno_z (t:Int) (gs:List G.GrantD) (ps:List P.PlaceD) (b1 b2:Option Addr) (kk1 kk2:Nat) (w:World) (f:Value) (hA:P.LandZ w gs ps b1 b2 kk1) (hF:P.Fit gs ps) (hno:¬ P.LandSay t gs ps) (ev:Value) (hev:w.cell? ⟨0,0,none⟩=some ev) (hev0:0 < w.heap.size) (hv:∃ te pe,ev=.iface te pe) :
  Calls Tryz.prog 21 #[.agg #[.int .i64 t,.slice b1 gs.length kk1,.slice b2 ps.length kk2],f] w fun e w'=>e=.returned (.tuple #[.agg #[.int .i64 0,.slice none 0 0,.slice none 0 0],.slice none 0 0,ev])∧Below w.heap.size w w':=by
 obtain ⟨te,pe,rfl⟩:=hv
 obtain ⟨W1,hW1⟩:∃ W1,W1=(w.alloc (.cells #[.int .i64 t,.slice b1 gs.length kk1,.slice b2 ps.length kk2] 26)).alloc (.cells #[.int .i64 0,.slice none 0 0,.slice none 0 0] 26):=⟨_,rfl⟩
 have HW1:=hidP hW1
 have B1:Hid (Below w.heap.size w W1):=by rw [hW1]; exact bl_alloc (bl_alloc bR _) _
 have OK:Hid (Calls Tryz.prog 12 #[.agg #[.int .i64 t,.slice b1 gs.length kk1,.slice b2 ps.length kk2]] W1 fun e w'=>e=.returned (.bool false)∧Below W1.heap.size W1 w'):=by
  refine (P.implLandOk_z t gs ps b1 b2 kk1 kk2 W1 (hA.keep B1.out) hF).mono ?_
  rintro e w' ⟨⟨q,rfl,hq⟩,hb⟩
  refine ⟨?_,hb⟩
  cases q with
  | false=>rfl
  | true=>exact (hno (hq.1 rfl)).elim
 have hz1:W1.heap.size=w.heap.size+2:=by rw [hW1]; simp
 have T1:Hid (W1.heap[w.heap.size+1]?=some (.cells #[.int .i64 0,.slice none 0 0,.slice none 0 0] 26 (0,0))):=by
  rw [hW1]
  have h:=heap_alloc_newL (w.alloc (.cells #[.int .i64 t,.slice b1 gs.length kk1,.slice b2 ps.length kk2] 26)) (.cells #[.int .i64 0,.slice none 0 0,.slice none 0 0] 26)
  rw [World.size_alloc] at h
  exact h
 clear hA hF hno hW1
 go_enter Tryz.func21,Tryz.ntmps21
 go_wp2_with fail
 rw [← HW1.out]
 refine OK.out.mono ?_
 rintro e w2 ⟨rfl,b2'⟩
 have he2:w2.cell? ⟨0,0,none⟩=some (.iface te pe):=((bl_trans B1.out b2').cell (p:=⟨0,0,none⟩) hev0).trans hev
 have T3:Hid (w2.heap[w.heap.size+1]?=some (.cells #[.int .i64 0,.slice none 0 0,.slice none 0 0] 26 (0,0))):=(b2'.block _ (by omega)).trans T1.out
 have T2:Hid (w2.there (w.heap.size+1) 0 3):=there_land ((b2'.block _ (by omega)).trans T1.out)
 have B2:=hidP (bl_trans B1.out b2')
 clear b2' hev
 have hT:=(T3.out)
 have t0:w2.cell? ⟨w.heap.size+1,0,none⟩=some (.int .i64 0):=by simp [World.cell?,hT]
 have t1:w2.cell? ⟨w.heap.size+1,1,none⟩=some (.slice none 0 0):=by simp [World.cell?,hT]
 have t2:w2.cell? ⟨w.heap.size+1,2,none⟩=some (.slice none 0 0):=by simp [World.cell?,hT]
 have z0:w2.frozen? ⟨w.heap.size+1,0,none⟩=false:=by simp [World.frozen?,hT]
 have z1:w2.frozen? ⟨w.heap.size+1,1,none⟩=false:=by simp [World.frozen?,hT]
 have z2:w2.frozen? ⟨w.heap.size+1,2,none⟩=false:=by simp [World.frozen?,hT]
 have BF:Hid (∀ n,Below w.heap.size w ((((w2.drewN n).setCell ⟨w.heap.size+1,0,none⟩ (.int .i64 0)).setCell ⟨w.heap.size+1,1,none⟩ (.slice none 0 0)).setCell ⟨w.heap.size+1,2,none⟩ (.slice none 0 0))):=fun n=>bl_set (bl_set (bl_set (⟨B2.out.os,B2.out.tape,B2.out.output,B2.out.size,B2.out.block⟩:Below w.heap.size w (w2.drewN n)) (by show w.heap.size≤w.heap.size+1; omega) _) (by show w.heap.size≤w.heap.size+1; omega) _) (by show w.heap.size≤w.heap.size+1; omega) _
 clear hT T2
 go_wp2_with fail
 go_region
 all_goals go_wp2
 all_goals exact bodyPost_ret (v:=.tuple #[.agg #[.int .i64 0,.slice none 0 0,.slice none 0 0],.slice none 0 0,.iface te pe]) (by simp [results,Tryz.results21,go_sem,t0,t1,t2]) rfl ⟨rfl,BF.out _⟩
set_option maxRecDepth 4000 in
set_option maxHeartbeats 4000000 in
theorem change_perr_z (hK1:G.KeysSay) (hS1:G.SortedSay) (hK2:Pr.KeysSay) (hS2:Pr.SortedSay) (t:Int) (gs:List G.GrantD) (ps:List P.PlaceD) (b1 b2:Option Addr) (kk1 kk2:Nat) (w:World) (f:Value) (hA:P.LandZ w gs ps b1 b2 kk1) (hF:P.Fit gs ps) (hok:P.LandSay t gs ps) (bb wb:Nat) (te:TypeId) (pe:Value) (hwk:∀ y d m1 m2,Below w.heap.size w y→w.heap.size+2≤d→w.heap.size+2≤m2→d≠m2→Book y d t m1 m2 gs (ps.map Pr.raw)→(∃ n,n≤1048576∧y.ownsMap Tryz.prog 9 Pr.RV m2 n (Pr.dec (ps.map Pr.raw)))→Calls Tryz.prog 41 #[.pointer (some ⟨d,0,none⟩),.pointer (some ⟨bb,0,none⟩),.pointer (some ⟨wb,0,none⟩)] y fun e w'=>e=.returned (.tuple #[.slice none 0 0,.iface te pe])∧Off (fun j=>j=m2) y w') (hf:f=.func (.func 41) #[] #[.pointer (some ⟨bb,0,none⟩),.pointer (some ⟨wb,0,none⟩)]) :
  Calls Tryz.prog 21 #[.agg #[.int .i64 t,.slice b1 gs.length kk1,.slice b2 ps.length kk2],f] w fun e w'=>(∃ qs s1 s2,e=.returned (.tuple #[.agg #[.int .i64 t,s1,s2],.slice none 0 0,.iface te pe])∧P.Like qs ps∧LdO w' w.heap.size gs qs s1 s2)∧Below w.heap.size w w':=by
 subst hf
 have hinfo:(Tryz.prog.info? 26).map (·.size)=some 3:=by kernel_rfl
 obtain ⟨W1,hW1⟩:∃ W1,W1=(w.alloc (.cells #[.int .i64 t,.slice b1 gs.length kk1,.slice b2 ps.length kk2] 26)).alloc (.cells #[.int .i64 0,.slice none 0 0,.slice none 0 0] 26):=⟨_,rfl⟩
 have HW1:=hidP hW1
 have B1:Hid (Below w.heap.size w W1):=by rw [hW1]; exact bl_alloc (bl_alloc bR _) _
 have HA:=hidP hA
 have HF:=hidP hF
 have HK:=hidP hok
 have OK:Hid (Calls Tryz.prog 12 #[.agg #[.int .i64 t,.slice b1 gs.length kk1,.slice b2 ps.length kk2]] W1 fun e w'=>e=.returned (.bool true)∧Below W1.heap.size W1 w'):=by
  refine (P.implLandOk_z t gs ps b1 b2 kk1 kk2 W1 (hA.keep B1.out) hF).mono ?_
  rintro e w' ⟨⟨q,rfl,hq⟩,hb⟩
  exact ⟨by rw [hq.2 hok],hb⟩
 have hz1:W1.heap.size=w.heap.size+2:=by rw [hW1]; simp
 have Z1:=hidP hz1
 have T1:Hid (∀ y,Below W1.heap.size W1 y→y.heap[w.heap.size+1]?=some (.cells #[.int .i64 0,.slice none 0 0,.slice none 0 0] 26 (0,0))):=by
  intro y hy
  refine (hy.block _ (by omega)).trans ?_
  rw [hW1]
  have h:=heap_alloc_newL (w.alloc (.cells #[.int .i64 t,.slice b1 gs.length kk1,.slice b2 ps.length kk2] 26)) (.cells #[.int .i64 0,.slice none 0 0,.slice none 0 0] 26)
  rw [World.size_alloc] at h
  exact h
 have K0:Hid (∀ y,Below W1.heap.size W1 y→∀ j,y.cell? ⟨w.heap.size,j,none⟩=(#[.int .i64 t,.slice b1 gs.length kk1,.slice b2 ps.length kk2]:Array Value)[j]?):=by
  intro y hy j
  rw [hy.cell (p:=⟨w.heap.size,j,none⟩) (by show w.heap.size < _; omega),hW1]
  simp [go_sem]
 have BO:Hid (∀ y,Below W1.heap.size W1 y→Calls Tryz.prog 47 #[.agg #[.int .i64 t,.slice b1 gs.length kk1,.slice b2 ps.length kk2]] y fun e w'=>(∃ d m1 m2,e=.returned (.pointer (some ⟨d,0,none⟩))∧(y.heap.size≤d∧y.heap.size≤m1∧y.heap.size≤m2∧d≠m1∧d≠m2)∧Book w' d t m1 m2 gs (ps.map Pr.raw)∧∃ n,n≤1048576∧w'.ownsMap Tryz.prog 9 Pr.RV m2 n (Pr.dec (ps.map Pr.raw)))∧Below y.heap.size y w'):=by
  intro y hy
  have hy2:=bl_trans B1.out hy
  have h:=bookOf_zn t gs ps b1 b2 kk1 kk2 y (hA.keep hy2) hF (G.srt_asc hok.2.1.2.1) (srtP_raw (srtP hok.2.2.1.2.1))
  exact h
 have TO:Hid (∀ y d u m1 m2,Below w.heap.size w y→Book y d u m1 m2 gs (ps.map Pr.raw)→Calls Tryz.prog 48 #[.pointer (some ⟨d,0,none⟩)] y fun e w'=>(∃ B Z lb qs s1 a2 c2,e=.returned (.agg #[.int .i64 u,s1,.slice a2 ps.length c2])∧y.heap.size < B∧Pt w' B Z lb u gs ps qs ps.length s1 a2 c2)∧Below y.heap.size y w'):=by
  intro y d u m1 m2 hy hB
  exact told_any hK1 hS1 hK2 hS2 d m1 m2 u gs ps (ps.map Pr.raw) rfl y hB (G.srt_asc hok.2.1.2.1) (srtP_raw (srtP hok.2.2.1.2.1)) (fun r hr=>(hF.g r hr).1) (fun r hr=>by obtain ⟨p,hp,rfl⟩:=List.mem_map.1 hr; exact (hF.p p hp).1) hF.gl (by rw [List.length_map]; exact hF.pl) (fun q hq=>⟨((hA.k q hq).keep hy),hF.ln q hq⟩)
 have WK:=hidP hwk
 clear hA hF hok hW1 hz1 hK1 hS1 hK2 hS2 hwk
 go_enter Tryz.func21,Tryz.ntmps21
 go_wp2_with fail
 rw [← HW1.out]
 refine OK.out.mono ?_
 rintro e w2 ⟨rfl,c2⟩
 have D2:=hidP c2
 clear c2
 have t0:w2.cell? ⟨w.heap.size,0,none⟩=some (.int .i64 t):=K0.out w2 D2.out 0
 have t1:w2.cell? ⟨w.heap.size,1,none⟩=some (.slice b1 gs.length kk1):=K0.out w2 D2.out 1
 have t2:w2.cell? ⟨w.heap.size,2,none⟩=some (.slice b2 ps.length kk2):=K0.out w2 D2.out 2
 go_wp2_with fail
 clear t0 t1 t2
 refine (BO.out w2 D2.out).mono ?_
 rintro e w3 ⟨⟨d,m1,m2,rfl,hd,hB,hNB⟩,c3⟩
 have D3:=hidP (bl_trans D2.out c3)
 have HD:Hid (W1.heap.size≤d∧W1.heap.size≤m2∧d≠m2):=⟨Nat.le_trans D2.out.size hd.1,Nat.le_trans D2.out.size hd.2.2.1,hd.2.2.2.2⟩
 have HNB:=hidP hNB
 clear hNB
 have HB:=hidP hB
 clear hd hB c3
 go_wp2_with fail
 refine (WK.out w3 d m1 m2 (bl_trans B1.out D3.out) (by have h1:=HD.out.1; have h2:=Z1.out; omega) (by have h1:=HD.out.2.1; have h2:=Z1.out; omega) HD.out.2.2 HB.out HNB.out).mono ?_
 rintro e w4 ⟨rfl,o4⟩
 have D4:Hid (Below W1.heap.size W1 w4):=D3.out.trans (o4.below (fun j hj=>by rw [hj]; exact HD.out.2.1) D3.out.size)
 clear o4
 have t0:w4.cell? ⟨w.heap.size,0,none⟩=some (.int .i64 t):=K0.out w4 D4.out 0
 have t1:w4.cell? ⟨w.heap.size,1,none⟩=some (.slice b1 gs.length kk1):=K0.out w4 D4.out 1
 have t2:w4.cell? ⟨w.heap.size,2,none⟩=some (.slice b2 ps.length kk2):=K0.out w4 D4.out 2
 go_wp2_with fail
 clear t0 t1 t2
 refine (BO.out w4 D4.out).mono ?_
 rintro e w6 ⟨⟨d',m1',m2',rfl,hd,hB,-⟩,c6⟩
 have D6:=hidP (bl_trans D4.out c6)
 have HB':Hid (Book w6 d' t m1' m2' gs (ps.map Pr.raw)):=hB
 clear hd hB c6
 go_wp2_with fail
 refine (TO.out w6 d' t m1' m2' (bl_trans B1.out D6.out) HB'.out).mono ?_
 rintro e w5 ⟨⟨B,Zz,lb,qs,s1,a2,c2,rfl,hBz,hP⟩,c5⟩
 obtain ⟨a1,c1,rfl⟩:=OG.shape hP.g
 have HBz:=hidP hBz
 have HP:=hidP hP
 have C5:=hidP c5
 have D5:=hidP (bl_trans D6.out c5)
 have T5:=hidP (there_land (T1.out w5 D5.out))
 clear hBz hP c5
 go_wp2_with (refine wpList_store_mid (by rfl) 26 _ _ (by rfl) (w.heap.size+1) 0 #[.int .i64 t,.slice a1 gs.length c1,.slice a2 ps.length c2] (by rfl) (by rfl) (by exact T5.out) hinfo (by simp [Value.oneCell']) ?_)
 have RG:=World.rangeAt_setCells_same w5 (w.heap.size+1) 0 [.int .i64 t,.slice a1 gs.length c1,.slice a2 ps.length c2] T5.out
 have hx:Ex (w.heap.size+1) w5 (World.setCells w5 (w.heap.size+1) 0 [.int .i64 t,.slice a1 gs.length c1,.slice a2 ps.length c2]):=(Ex.refl _ _).cells _ _
 have BE:Below w.heap.size w (World.setCells w5 (w.heap.size+1) 0 [.int .i64 t,.slice a1 gs.length c1,.slice a2 ps.length c2]):=Ex.mono (bl_trans B1.out D5.out) hx (Nat.le_succ _)
 have d0:=RG 0 _ rfl
 have d1:=RG 1 _ rfl
 have d2:=RG 2 _ rfl
 simp only [Nat.zero_add] at d0 d1 d2
 refine bodyPost_ret (v:=.tuple #[.agg #[.int .i64 t,.slice a1 gs.length c1,.slice a2 ps.length c2],.slice none 0 0,.iface te pe]) (by simp [results,Tryz.results21,go_sem,d0,d1,d2]) rfl ⟨?_,BE⟩
 have hs:w.heap.size+2≤w6.heap.size:=by have h1:=D6.out.size; have h2:=Z1.out; omega
 have hBB:=HBz.out
 exact ⟨qs,_,_,rfl,HP.out.like,(pt_ldo (pt_other HP.out hx (by omega))).low (by omega)⟩
set_option maxRecDepth 4000 in
set_option maxHeartbeats 4000000 in
theorem change_pgo_z (hK1:G.KeysSay) (hS1:G.SortedSay) (hK2:Pr.KeysSay) (hS2:Pr.SortedSay) (t:Int) (gs:List G.GrantD) (ps:List P.PlaceD) (b1 b2:Option Addr) (kk1 kk2:Nat) (w:World) (f:Value) (hA:P.LandZ w gs ps b1 b2 kk1) (hF:P.Fit gs ps) (hok:P.LandSay t gs ps) (bb wb:Nat) (qs0:List P.PlaceD) (hto:∀ y d m1 m2,Below w.heap.size w y→Book y d t m1 m2 gs (qs0.map Pr.raw)→Calls Tryz.prog 48 #[.pointer (some ⟨d,0,none⟩)] y fun e w'=>(∃ B Z lb qs s1 a2 c2,e=.returned (.agg #[.int .i64 t,s1,.slice a2 qs0.length c2])∧y.heap.size < B∧Pt w' B Z lb t gs qs0 qs qs0.length s1 a2 c2)∧Below y.heap.size y w') (hwk:∀ y d m1 m2,Below w.heap.size w y→w.heap.size+2≤d→w.heap.size+2≤m2→d≠m2→Book y d t m1 m2 gs (ps.map Pr.raw)→(∃ n,n≤1048576∧y.ownsMap Tryz.prog 9 Pr.RV m2 n (Pr.dec (ps.map Pr.raw)))→Calls Tryz.prog 41 #[.pointer (some ⟨d,0,none⟩),.pointer (some ⟨bb,0,none⟩),.pointer (some ⟨wb,0,none⟩)] y fun e w'=>e=.returned (.tuple #[.slice none 0 0,.nilIface])∧Book w' d t m1 m2 gs (qs0.map Pr.raw)∧Off (fun j=>j=m2) y w') (hf:f=.func (.func 41) #[] #[.pointer (some ⟨bb,0,none⟩),.pointer (some ⟨wb,0,none⟩)]) :
  Calls Tryz.prog 21 #[.agg #[.int .i64 t,.slice b1 gs.length kk1,.slice b2 ps.length kk2],f] w fun e w'=>(∃ qs s1 s2,e=.returned (.tuple #[.agg #[.int .i64 t,s1,s2],.slice none 0 0,.nilIface])∧P.Like qs qs0∧LdO w' w.heap.size gs qs s1 s2)∧Below w.heap.size w w':=by
 subst hf
 have hinfo:(Tryz.prog.info? 26).map (·.size)=some 3:=by kernel_rfl
 obtain ⟨W1,hW1⟩:∃ W1,W1=(w.alloc (.cells #[.int .i64 t,.slice b1 gs.length kk1,.slice b2 ps.length kk2] 26)).alloc (.cells #[.int .i64 0,.slice none 0 0,.slice none 0 0] 26):=⟨_,rfl⟩
 have HW1:=hidP hW1
 have B1:Hid (Below w.heap.size w W1):=by rw [hW1]; exact bl_alloc (bl_alloc bR _) _
 have HA:=hidP hA
 have HF:=hidP hF
 have HK:=hidP hok
 have OK:Hid (Calls Tryz.prog 12 #[.agg #[.int .i64 t,.slice b1 gs.length kk1,.slice b2 ps.length kk2]] W1 fun e w'=>e=.returned (.bool true)∧Below W1.heap.size W1 w'):=by
  refine (P.implLandOk_z t gs ps b1 b2 kk1 kk2 W1 (hA.keep B1.out) hF).mono ?_
  rintro e w' ⟨⟨q,rfl,hq⟩,hb⟩
  exact ⟨by rw [hq.2 hok],hb⟩
 have hz1:W1.heap.size=w.heap.size+2:=by rw [hW1]; simp
 have Z1:=hidP hz1
 have T1:Hid (∀ y,Below W1.heap.size W1 y→y.heap[w.heap.size+1]?=some (.cells #[.int .i64 0,.slice none 0 0,.slice none 0 0] 26 (0,0))):=by
  intro y hy
  refine (hy.block _ (by omega)).trans ?_
  rw [hW1]
  have h:=heap_alloc_newL (w.alloc (.cells #[.int .i64 t,.slice b1 gs.length kk1,.slice b2 ps.length kk2] 26)) (.cells #[.int .i64 0,.slice none 0 0,.slice none 0 0] 26)
  rw [World.size_alloc] at h
  exact h
 have K0:Hid (∀ y,Below W1.heap.size W1 y→∀ j,y.cell? ⟨w.heap.size,j,none⟩=(#[.int .i64 t,.slice b1 gs.length kk1,.slice b2 ps.length kk2]:Array Value)[j]?):=by
  intro y hy j
  rw [hy.cell (p:=⟨w.heap.size,j,none⟩) (by show w.heap.size < _; omega),hW1]
  simp [go_sem]
 have BO:Hid (∀ y,Below W1.heap.size W1 y→Calls Tryz.prog 47 #[.agg #[.int .i64 t,.slice b1 gs.length kk1,.slice b2 ps.length kk2]] y fun e w'=>(∃ d m1 m2,e=.returned (.pointer (some ⟨d,0,none⟩))∧(y.heap.size≤d∧y.heap.size≤m1∧y.heap.size≤m2∧d≠m1∧d≠m2)∧Book w' d t m1 m2 gs (ps.map Pr.raw)∧∃ n,n≤1048576∧w'.ownsMap Tryz.prog 9 Pr.RV m2 n (Pr.dec (ps.map Pr.raw)))∧Below y.heap.size y w'):=by
  intro y hy
  have hy2:=bl_trans B1.out hy
  have h:=bookOf_zn t gs ps b1 b2 kk1 kk2 y (hA.keep hy2) hF (G.srt_asc hok.2.1.2.1) (srtP_raw (srtP hok.2.2.1.2.1))
  exact h
 have TO:Hid (∀ y d u m1 m2,Below w.heap.size w y→Book y d u m1 m2 gs (ps.map Pr.raw)→Calls Tryz.prog 48 #[.pointer (some ⟨d,0,none⟩)] y fun e w'=>(∃ B Z lb qs s1 a2 c2,e=.returned (.agg #[.int .i64 u,s1,.slice a2 ps.length c2])∧y.heap.size < B∧Pt w' B Z lb u gs ps qs ps.length s1 a2 c2)∧Below y.heap.size y w'):=by
  intro y d u m1 m2 hy hB
  exact told_any hK1 hS1 hK2 hS2 d m1 m2 u gs ps (ps.map Pr.raw) rfl y hB (G.srt_asc hok.2.1.2.1) (srtP_raw (srtP hok.2.2.1.2.1)) (fun r hr=>(hF.g r hr).1) (fun r hr=>by obtain ⟨p,hp,rfl⟩:=List.mem_map.1 hr; exact (hF.p p hp).1) hF.gl (by rw [List.length_map]; exact hF.pl) (fun q hq=>⟨((hA.k q hq).keep hy),hF.ln q hq⟩)
 have WK:=hidP hwk
 have TQ:=hidP hto
 clear hA hF hok hW1 hz1 hK1 hS1 hK2 hS2 hwk hto
 go_enter Tryz.func21,Tryz.ntmps21
 go_wp2_with fail
 rw [← HW1.out]
 refine OK.out.mono ?_
 rintro e w2 ⟨rfl,c2⟩
 have D2:=hidP c2
 clear c2
 have t0:w2.cell? ⟨w.heap.size,0,none⟩=some (.int .i64 t):=K0.out w2 D2.out 0
 have t1:w2.cell? ⟨w.heap.size,1,none⟩=some (.slice b1 gs.length kk1):=K0.out w2 D2.out 1
 have t2:w2.cell? ⟨w.heap.size,2,none⟩=some (.slice b2 ps.length kk2):=K0.out w2 D2.out 2
 go_wp2_with fail
 clear t0 t1 t2
 refine (BO.out w2 D2.out).mono ?_
 rintro e w3 ⟨⟨d,m1,m2,rfl,hd,hB,hNB⟩,c3⟩
 have D3:=hidP (bl_trans D2.out c3)
 have HD:Hid (W1.heap.size≤d∧W1.heap.size≤m2∧d≠m2):=⟨Nat.le_trans D2.out.size hd.1,Nat.le_trans D2.out.size hd.2.2.1,hd.2.2.2.2⟩
 have HNB:=hidP hNB
 clear hNB
 have HB:=hidP hB
 clear hd hB c3
 go_wp2_with fail
 refine (WK.out w3 d m1 m2 (bl_trans B1.out D3.out) (by have h1:=HD.out.1; have h2:=Z1.out; omega) (by have h1:=HD.out.2.1; have h2:=Z1.out; omega) HD.out.2.2 HB.out HNB.out).mono ?_
 rintro e w4 ⟨rfl,hB4,o4⟩
 have D4:Hid (Below W1.heap.size W1 w4):=D3.out.trans (o4.below (fun j hj=>by rw [hj]; exact HD.out.2.1) D3.out.size)
 have HB4:=hidP hB4
 clear o4 hB4
 go_wp2_with fail
 refine (TQ.out w4 d m1 m2 (bl_trans B1.out D4.out) HB4.out).mono ?_
 rintro e w5 ⟨⟨B,Zz,lb,qs,s1,a2,c2,rfl,hBz,hP⟩,c5⟩
 obtain ⟨a1,c1,rfl⟩:=OG.shape hP.g
 have HBz:=hidP hBz
 have HP:=hidP hP
 have C5:=hidP c5
 have D5:=hidP (bl_trans D4.out c5)
 have T5:=hidP (there_land (T1.out w5 D5.out))
 clear hBz hP c5
 go_wp2_with (refine wpList_store_mid (by rfl) 26 _ _ (by rfl) (w.heap.size+1) 0 #[.int .i64 t,.slice a1 gs.length c1,.slice a2 qs0.length c2] (by rfl) (by rfl) (by exact T5.out) hinfo (by simp [Value.oneCell']) ?_)
 have RG:=World.rangeAt_setCells_same w5 (w.heap.size+1) 0 [.int .i64 t,.slice a1 gs.length c1,.slice a2 qs0.length c2] T5.out
 have hx:Ex (w.heap.size+1) w5 (World.setCells w5 (w.heap.size+1) 0 [.int .i64 t,.slice a1 gs.length c1,.slice a2 qs0.length c2]):=(Ex.refl _ _).cells _ _
 have BE:Below w.heap.size w (World.setCells w5 (w.heap.size+1) 0 [.int .i64 t,.slice a1 gs.length c1,.slice a2 qs0.length c2]):=Ex.mono (bl_trans B1.out D5.out) hx (Nat.le_succ _)
 have d0:=RG 0 _ rfl
 have d1:=RG 1 _ rfl
 have d2:=RG 2 _ rfl
 simp only [Nat.zero_add] at d0 d1 d2
 refine bodyPost_ret (v:=.tuple #[.agg #[.int .i64 t,.slice a1 gs.length c1,.slice a2 qs0.length c2],.slice none 0 0,.nilIface]) (by simp [results,Tryz.results21,go_sem,d0,d1,d2]) rfl ⟨?_,BE⟩
 have hs:w.heap.size+2≤w4.heap.size:=by have h1:=D4.out.size; have h2:=Z1.out; omega
 have hBB:=HBz.out
 exact ⟨qs,_,_,rfl,HP.out.like,(pt_ldo (pt_other HP.out hx (by omega))).low (by omega)⟩
theorem change_put_z (hK1:G.KeysSay) (hS1:G.SortedSay) (hK2:Pr.KeysSay) (hS2:Pr.SortedSay) (t:Int) (gs:List G.GrantD) (ps:List P.PlaceD) (b1 b2:Option Addr) (kk1 kk2:Nat) (b:ByteArray) (aw:Option Addr) (cw:Nat) (ws:List W.WantD) (bb wb:Nat) (w:World) (hA:P.LandZ w gs ps b1 b2 kk1) (hF:P.Fit gs ps) (hW:W.Src w aw cw ws) (hb:b.size≤maxLen) (hcw:ws.length≤cw) (hwf:∀ r∈ws,r.fits) (hwl:ws.length≤1048576)
  (k1:w.cell? ⟨bb,0,none⟩=some (.string b)) (zb:bb < w.heap.size) (k2:w.cell? ⟨wb,0,none⟩=some (.slice aw ws.length cw)) (zw:wb < w.heap.size) (a0 a1 a2:Addr) (hE:Er3 w a0 a1 a2) :
  Calls Tryz.prog 21 #[.agg #[.int .i64 t,.slice b1 gs.length kk1,.slice b2 ps.length kk2],.func (.func 41) #[] #[.pointer (some ⟨bb,0,none⟩),.pointer (some ⟨wb,0,none⟩)]] w fun e w'=>(∃ t' gs' qs s1 s2 er code,e=.returned (.tuple #[.agg #[.int .i64 t',s1,s2],.slice none 0 0,er])∧PutSay t gs ps b ws t' gs' qs code∧LdO w' w.heap.size gs' qs s1 s2∧CodeOf a0 a1 a2 er code)∧Below w.heap.size w w':=by
 by_cases hok:P.LandSay t gs ps
 ·
  have hpl:=hok.2.2.1.1
  by_cases hn:nameB b=true∧(ws.length≤10∧W.AllW ws ws.length)
  ·
   have PY:∀ y d m1 m2,Below w.heap.size w y→w.heap.size+2≤d→w.heap.size+2≤m2→d≠m2→Book y d t m1 m2 gs (ps.map Pr.raw)→(∃ n,n≤1048576∧y.ownsMap Tryz.prog 9 Pr.RV m2 n (Pr.dec (ps.map Pr.raw)))→Calls Tryz.prog 42 #[.pointer (some ⟨d,0,none⟩),.string b,.slice aw ws.length cw] y fun e w'=>(∃ er,e=.returned er∧((P.LandSay t gs (putP b none 0 ws ps)∧er=.nilIface)∨(¬ P.LandSay t gs (putP b none 0 ws ps)∧er=.iface 173 (.pointer (some a2)))))∧Book w' d t m1 m2 gs ((putP b aw cw ws ps).map Pr.raw)∧Off (fun j=>j=m2) y w':=fun y d m1 m2 hy hd hm hdm hB hnb =>
    put_yes hK1 hS1 hK2 hS2 d m1 m2 t gs ps b aw cw ws y hB hdm hnb hok hF (fun z hz q hq=>src_off ((hA.k q hq)) hy hz (by omega)) (fun z hz=>src_off hW hy hz (by omega)) hb hcw hwf hn _ _ (fun z hz=>cell_off hE.c2 hE.z2 hy hz (by omega))
   have C1:∀ y,Below w.heap.size w y→y.cell? ⟨bb,0,none⟩=some (.string b)∧y.cell? ⟨wb,0,none⟩=some (.slice aw ws.length cw):=fun y hy=>⟨(hy.cell (p:=⟨bb,0,none⟩) zb).trans k1,(hy.cell (p:=⟨wb,0,none⟩) zw).trans k2⟩
   by_cases hfine:P.LandSay t gs (putP b none 0 ws ps)
   ·
    refine (change_pgo_z hK1 hS1 hK2 hS2 t gs ps b1 b2 kk1 kk2 w _ hA hF hok bb wb (putP b aw cw ws ps) ?_ ?_ rfl).mono ?_
    ·
     intro y d m1 m2 hy hB
     have hfit':=fit_put (aw:=aw) (cw:=cw) hF hb hwf hwl hpl
     have hsrt':Ord.Srt keyP (putP b aw cw ws ps):=Ord.insS_srt keyP _ ps (srtP hok.2.2.1.2.1)
     exact told_any hK1 hS1 hK2 hS2 d m1 m2 t gs _ _ rfl y hB (G.srt_asc hok.2.1.2.1) (srtP_raw hsrt') (fun r hr=>(hfit'.g r hr).1) (fun r hr=>by obtain ⟨p,hp,rfl⟩:=List.mem_map.1 hr; exact (hfit'.p p hp).1) hfit'.gl (by rw [List.length_map]; exact hfit'.pl) (fun q hq=>by
      rcases Ord.insS_mem keyP _ ps q hq with rfl | h
      · exact ⟨hW.keep hy,hwl⟩
      exact ⟨(hA.k q h).keep hy,hF.ln q h⟩)
    ·
     intro y d m1 m2 hy hd hm hdm hB hnb
     refine (work_put d bb wb b _ y (fun er w'=>er=.nilIface∧Book w' d t m1 m2 gs ((putP b aw cw ws ps).map Pr.raw)∧Off (fun j=>j=m2) y w') (C1 y hy).1 (C1 y hy).2 ⟨_,_,_,rfl⟩ ((PY y d m1 m2 hy hd hm hdm hB hnb).mono ?_)).mono ?_
     ·
      rintro e w' ⟨⟨er,rfl,h⟩,h2,h3⟩
      rcases h with ⟨-,rfl⟩ | ⟨h,-⟩
      · exact ⟨_,rfl,rfl,h2,h3⟩
      exact (h hfine).elim
     rintro e w' ⟨er,rfl,rfl,h2,h3⟩
     exact ⟨rfl,h2,h3⟩
    rintro e w' ⟨⟨qs,s1,s2,rfl,hl,hL⟩,hbl⟩
    exact ⟨⟨t,gs,qs,s1,s2,_,0,rfl,Or.inr ⟨hok,rfl,rfl,Or.inr (Or.inr ⟨hn,hfine,hl.trans (putP_like rfl),rfl⟩)⟩,hL,Or.inl ⟨rfl,rfl⟩⟩,hbl⟩
   refine (change_perr_z hK1 hS1 hK2 hS2 t gs ps b1 b2 kk1 kk2 w _ hA hF hok bb wb 173 (.pointer (some a2)) ?_ rfl).mono ?_
   ·
    intro y d m1 m2 hy hd hm hdm hB hnb
    refine (work_put d bb wb b _ y (fun er w'=>er=.iface 173 (.pointer (some a2))∧Off (fun j=>j=m2) y w') (C1 y hy).1 (C1 y hy).2 ⟨_,_,_,rfl⟩ ((PY y d m1 m2 hy hd hm hdm hB hnb).mono ?_)).mono ?_
    ·
     rintro e w' ⟨⟨er,rfl,h⟩,h2,h3⟩
     rcases h with ⟨h,-⟩ | ⟨-,rfl⟩
     · exact (hfine h).elim
     exact ⟨_,rfl,rfl,h3⟩
    rintro e w' ⟨er,rfl,rfl,h3⟩
    exact ⟨rfl,h3⟩
   rintro e w' ⟨⟨qs,s1,s2,rfl,hl,hL⟩,hbl⟩
   exact ⟨⟨t,gs,qs,s1,s2,_,3,rfl,Or.inr ⟨hok,rfl,rfl,Or.inr (Or.inl ⟨hn,hfine,hl,rfl⟩)⟩,hL,Or.inr (Or.inr (Or.inr ⟨rfl,rfl⟩))⟩,hbl⟩
  refine (change_perr_z hK1 hS1 hK2 hS2 t gs ps b1 b2 kk1 kk2 w _ hA hF hok bb wb 173 (.pointer (some a1)) ?_ rfl).mono ?_
  ·
   intro y d m1 m2 hy hd hm hdm hB hnb
   have C1:y.cell? ⟨bb,0,none⟩=some (.string b)∧y.cell? ⟨wb,0,none⟩=some (.slice aw ws.length cw):=⟨(hy.cell (p:=⟨bb,0,none⟩) zb).trans k1,(hy.cell (p:=⟨wb,0,none⟩) zw).trans k2⟩
   have hEy:=hE.keep hy
   refine (work_put d bb wb b _ y (fun er w'=>er=.iface 173 (.pointer (some a1))∧Below y.heap.size y w') C1.1 C1.2 ⟨_,_,_,rfl⟩ ((put_no d b aw cw ws y hb (hW.keep hy).gv hcw hwf hwl hn _ _ hEy.c1 hEy.z1).mono ?_)).mono ?_
   ·
    rintro e w' ⟨rfl,h3⟩
    exact ⟨_,rfl,rfl,h3⟩
   rintro e w' ⟨er,rfl,rfl,h3⟩
   exact ⟨rfl,Off.of_below h3⟩
  rintro e w' ⟨⟨qs,s1,s2,rfl,hl,hL⟩,hbl⟩
  exact ⟨⟨t,gs,qs,s1,s2,_,2,rfl,Or.inr ⟨hok,rfl,rfl,Or.inl ⟨hn,hl,rfl⟩⟩,hL,Or.inr (Or.inr (Or.inl ⟨rfl,rfl⟩))⟩,hbl⟩
 ·
  refine (change_pno_z t gs ps b1 b2 kk1 kk2 w _ hA hF hok _ hE.c0 hE.z0 ⟨_,_,rfl⟩).mono ?_
  rintro e w' ⟨rfl,hbl⟩
  exact ⟨⟨0,[],[],_,_,_,1,rfl,Or.inl ⟨hok,rfl,rfl,rfl,rfl⟩,LdO.nil _ _,Or.inr (Or.inl ⟨rfl,rfl⟩)⟩,hbl⟩
set_option maxRecDepth 4000 in
set_option maxHeartbeats 4000000 in
theorem implPut_z (hK1:G.KeysSay) (hS1:G.SortedSay) (hK2:Pr.KeysSay) (hS2:Pr.SortedSay) (t:Int) (gs:List G.GrantD) (ps:List P.PlaceD) (b1 b2:Option Addr) (kk1 kk2:Nat) (b:ByteArray) (aw:Option Addr) (cw:Nat) (ws:List W.WantD) (w:World) (hA:P.LandZ w gs ps b1 b2 kk1) (hF:P.Fit gs ps) (hW:W.Src w aw cw ws) (hb:b.size≤maxLen) (hcw:ws.length≤cw) (hwf:∀ r∈ws,r.fits) (hwl:ws.length≤1048576) (a0 a1 a2:Addr) (hE:Er3 w a0 a1 a2) :
  Calls Tryz.prog 14 #[.agg #[.int .i64 t,.slice b1 gs.length kk1,.slice b2 ps.length kk2],.string b,.slice aw ws.length cw] w fun e w'=>(∃ t' gs' qs s1 s2 code,e=.returned (.tuple #[.agg #[.int .i64 t',s1,s2],.int .i64 code])∧PutSay t gs ps b ws t' gs' qs code∧LdO w' w.heap.size gs' qs s1 s2)∧Below w.heap.size w w':=by
 obtain ⟨W1,hW1⟩:∃ W1,W1=(((w.alloc (.cells #[.int .i64 t,.slice b1 gs.length kk1,.slice b2 ps.length kk2] 26)).alloc (.cells #[.string b] 9)).alloc (.cells #[.slice aw ws.length cw] 27)).alloc (.cells #[.int .i64 0,.slice none 0 0,.slice none 0 0] 26):=⟨_,rfl⟩
 have HW1:=hidP hW1
 have B1:Hid (Below w.heap.size w W1):=by rw [hW1]; exact bl_alloc (bl_alloc (bl_alloc (bl_alloc bR _) _) _) _
 have Z1:Hid (W1.heap.size=w.heap.size+4):=by rw [hW1]; show _=_; simp
 have kb:W1.cell? ⟨w.heap.size+1,0,none⟩=some (.string b):=by rw [hW1]; simp [go_sem,World.cell?_alloc_past]
 have kw:W1.cell? ⟨w.heap.size+1+1,0,none⟩=some (.slice aw ws.length cw):=by rw [hW1]; simp [go_sem,World.cell?_alloc_past]
 have T1:Hid (∀ y,Below W1.heap.size W1 y→y.heap[w.heap.size+1+1+1]?=some (.cells #[.int .i64 0,.slice none 0 0,.slice none 0 0] 26 (0,0))):=by
  intro y hy
  refine (hy.block _ (by have:=Z1.out; omega)).trans ?_
  rw [hW1]
  have h:=heap_alloc_newL (((w.alloc (.cells #[.int .i64 t,.slice b1 gs.length kk1,.slice b2 ps.length kk2] 26)).alloc (.cells #[.string b] 9)).alloc (.cells #[.slice aw ws.length cw] 27)) (.cells #[.int .i64 0,.slice none 0 0,.slice none 0 0] 26)
  simp only [World.size_alloc] at h
  exact h
 have CH:Hid (Calls Tryz.prog 21 #[.agg #[.int .i64 t,.slice b1 gs.length kk1,.slice b2 ps.length kk2],.func (.func 41) #[] #[.pointer (some ⟨w.heap.size+1,0,none⟩),.pointer (some ⟨w.heap.size+1+1,0,none⟩)]] W1 fun e w'=>(∃ t' gs' qs s1 s2 er code,e=.returned (.tuple #[.agg #[.int .i64 t',s1,s2],.slice none 0 0,er])∧PutSay t gs ps b ws t' gs' qs code∧LdO w' W1.heap.size gs' qs s1 s2∧CodeOf a0 a1 a2 er code)∧Below W1.heap.size W1 w') :=
  change_put_z hK1 hS1 hK2 hS2 t gs ps b1 b2 kk1 kk2 b aw cw ws _ _ W1 (hA.keep B1.out) hF (hW.keep B1.out) hb hcw hwf hwl kb (by have:=Z1.out; omega) kw (by have:=Z1.out; omega) a0 a1 a2 (hE.keep B1.out)
 have ER:Hid (∀ y,Below w.heap.size w y→Er3 y a0 a1 a2):=fun y hy=>hE.keep hy
 clear hK1 hS1 hK2 hS2 hA hF hW hE hW1 kb kw hwf
 go_enter Tryz.func14,Tryz.ntmps14
 go_wp2_with fail
 rw [← HW1.out]
 refine CH.out.mono ?_
 rintro e w2 ⟨⟨t',gs',qs,s1,s2,er,code,rfl,hS,hL,hC⟩,c2⟩
 obtain ⟨x1,p1,rfl⟩:=G.Sl.shape hL.g
 obtain ⟨x2,p2,hs2⟩:=Pr.Sl.shape hL.p.o
 rw [List.length_map] at hs2
 subst hs2
 have HS:=hidP hS
 have HC:=hidP hC
 have HL:=hidP hL
 have D2:=hidP c2
 obtain ⟨W3,hW3⟩:∃ W3,W3=w2.alloc (.cells #[.int .i64 t',.slice x1 gs'.length p1,.slice x2 qs.length p2] 26):=⟨_,rfl⟩
 have HW3:=hidP hW3
 have D3:Hid (Below W1.heap.size W1 W3):=by rw [hW3]; exact bl_trans c2 (bl_alloc bR _)
 have B3:=hidP (bl_trans B1.out D3.out)
 have p0:W3.cell? ⟨w2.heap.size,0,none⟩=some (.int .i64 t'):=by rw [hW3]; simp [go_sem]
 have q1:W3.cell? ⟨w2.heap.size,1,none⟩=some (.slice x1 gs'.length p1):=by rw [hW3]; simp [go_sem]
 have q2:W3.cell? ⟨w2.heap.size,2,none⟩=some (.slice x2 qs.length p2):=by rw [hW3]; simp [go_sem]
 have hT:=T1.out W3 D3.out
 have t0:W3.cell? ⟨w.heap.size+1+1+1,0,none⟩=some (.int .i64 0):=by simp [World.cell?,hT]
 have t1:W3.cell? ⟨w.heap.size+1+1+1,1,none⟩=some (.slice none 0 0):=by simp [World.cell?,hT]
 have t2:W3.cell? ⟨w.heap.size+1+1+1,2,none⟩=some (.slice none 0 0):=by simp [World.cell?,hT]
 have z0:W3.frozen? ⟨w.heap.size+1+1+1,0,none⟩=false:=by simp [World.frozen?,hT]
 have z1:W3.frozen? ⟨w.heap.size+1+1+1,1,none⟩=false:=by simp [World.frozen?,hT]
 have z2:W3.frozen? ⟨w.heap.size+1+1+1,2,none⟩=false:=by simp [World.frozen?,hT]
 have hn1:¬ (w2.heap.size=w.heap.size+1+1+1):=by have h1:=c2.size; have h2:=Z1.out; omega
 have hn2:¬ (w.heap.size+1+1+1=w2.heap.size):=by have h1:=c2.size; have h2:=Z1.out; omega
 have HL3:Hid (LdO W3 W1.heap.size gs' qs (.slice x1 gs'.length p1) (.slice x2 qs.length p2)):=by rw [hW3]; exact hL.keep (bl_alloc bR _)
 have FIN:Hid (∀ n,LdO ((((W3.drewN n).setCell ⟨w.heap.size+1+1+1,0,none⟩ (.int .i64 t')).setCell ⟨w.heap.size+1+1+1,1,none⟩ (.slice x1 gs'.length p1)).setCell ⟨w.heap.size+1+1+1,2,none⟩ (.slice x2 qs.length p2)) w.heap.size gs' qs (.slice x1 gs'.length p1) (.slice x2 qs.length p2)∧Below w.heap.size w ((((W3.drewN n).setCell ⟨w.heap.size+1+1+1,0,none⟩ (.int .i64 t')).setCell ⟨w.heap.size+1+1+1,1,none⟩ (.slice x1 gs'.length p1)).setCell ⟨w.heap.size+1+1+1,2,none⟩ (.slice x2 qs.length p2))):=by
  intro n
  have hz:=Z1.out
  have hx:Ex (w.heap.size+1+1+1) (W3.drewN n) ((((W3.drewN n).setCell ⟨w.heap.size+1+1+1,0,none⟩ (.int .i64 t')).setCell ⟨w.heap.size+1+1+1,1,none⟩ (.slice x1 gs'.length p1)).setCell ⟨w.heap.size+1+1+1,2,none⟩ (.slice x2 qs.length p2)):=(((Ex.refl _ _).set _ _).set _ _).set _ _
  have hd:Below W3.heap.size W3 (W3.drewN n):=⟨rfl,rfl,rfl,Nat.le_refl _,fun _ _=>rfl⟩
  exact ⟨((HL3.out.keep hd).off (off_of_ex hx) (fun g hg e=>by have:=(HL3.out.lt g hg).1; omega)).low (by omega),Ex.mono (bl_trans B3.out hd) hx (by omega)⟩
 clear hS hL hC c2 CH hT hW3
 go_wp2_with fail
 rw [← HW3.out]
 go_region_with (first | (go_at_call 43; refine (code_any ?_ HC.out).mono ?_; exact ER.out _ (by repeat (first | exact B3.out | refine bl_set ?_ (by show w.heap.size≤_; omega) _ | refine bl_drew ?_)); rintro e w' ⟨rfl,hw⟩; have hw2:=hw.symm; subst hw2; clear hw))
 all_goals (try go_wp2)
 all_goals exact bodyPost_ret (v:=.tuple #[.agg #[.int .i64 t',.slice x1 gs'.length p1,.slice x2 qs.length p2],.int .i64 code]) (by simp [results,Tryz.results14,go_sem,t0,t1,t2]) rfl ⟨⟨t',gs',qs,_,_,code,rfl,HS.out,(FIN.out _).1⟩,(FIN.out _).2⟩
end Go.Proofs.YtcjhlhijdacinaaGreatDoor
