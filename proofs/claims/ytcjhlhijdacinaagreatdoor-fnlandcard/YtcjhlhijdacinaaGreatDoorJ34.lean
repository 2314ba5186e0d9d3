import Derived.Test.YtcjhlhijdacinaaGreatDoorJ21
import Derived.Test.YtcjhlhijdacinaaGreatDoorJ33
import Derived.Test.YtcjhlhijdacinaaGreatDoorJ12
import Derived.Test.YtcjhlhijdacinaaGreatDoorJ17
import Derived.Deep.RegionHeld3
import Derived.BigQuiet
import Derived.StillTactics
namespace Go.Proofs.YtcjhlhijdacinaaGreatDoor
open Go.RowKit Go.Maps Go.WideMaps
set_option linter.unusedVariables false
theorem src_exz {w y:World} {d:Nat} {q:P.PlaceD} (h:W.Src w q.a q.c q.ws) (hd:w.heap.size≤d) {x:World} (hb:Below w.heap.size w x) (he:Ex d x y):W.Src y q.a q.c q.ws:=by
 rcases h with h | ⟨g,h1,h4,h5⟩
 · exact Or.inl h
 refine Or.inr ⟨g,h1,Nat.lt_of_lt_of_le (Nat.lt_of_lt_of_le h4 hb.size) he.size, ?_⟩
 intro k r hk j v hj
 have hx:=h5.keep h4 hb
 exact (he.cell (p:=⟨g,0+k * 7+j,none⟩) (Nat.lt_of_lt_of_le h4 hb.size) (by show g≠d; omega)).trans (hx k r hk j v hj)
set_option maxRecDepth 4000 in
set_option maxHeartbeats 2000000 in
theorem change_no_z (t:Int) (gs:List G.GrantD) (ps:List P.PlaceD) (b1 b2:Option Addr) (kk1 kk2:Nat) (w:World) (f:Value) (hA:P.LandZ w gs ps b1 b2 kk1) (hF:P.Fit gs ps) (hno:¬ P.LandSay t gs ps) (ev:Value) (hev:w.cell? ⟨0,0,none⟩=some ev) (hev0:0 < w.heap.size) (hv:∃ te pe,ev=.iface te pe) (hf:f=.func (.func 31) #[] #[]) :
  Calls Tryz.prog 21 #[.agg #[.int .i64 t,.slice b1 gs.length kk1,.slice b2 ps.length kk2],f] w fun e w'=>e=.returned (.tuple #[.agg #[.int .i64 0,.slice none 0 0,.slice none 0 0],.slice none 0 0,ev])∧Below w.heap.size w w':=by
 obtain ⟨te,pe,rfl⟩:=hv
 subst hf
 obtain ⟨W1,hW1⟩:∃ W1,W1=(w.alloc (.cells #[.int .i64 t,.slice b1 gs.length kk1,.slice b2 ps.length kk2] 26)).alloc (.cells #[.int .i64 0,.slice none 0 0,.slice none 0 0] 26):=⟨_,rfl⟩
 have HW1:=hidP hW1
 have B1:Hid (Below w.heap.size w W1):=by rw [hW1]; exact bl_alloc (bl_alloc bR _) _
 have OK:Hid (Calls Tryz.prog 12 #[.agg #[.int .i64 t,.slice b1 gs.length kk1,.slice b2 ps.length kk2]] W1 fun e w'=>e=.returned (.bool false)∧Below W1.heap.size W1 w'):=by
  refine (P.implLandOk_z t gs ps b1 b2 kk1 kk2 W1 (hA.keep B1.out) hF).mono ?_
  rintro e w' ⟨⟨q,rfl,hq⟩,hb⟩
  refine ⟨?_,hb⟩
  cases q with
  | false=>rfl
  | true=>exact (hno (hq.1 rfl)).elim
 have hz1:W1.heap.size=w.heap.size+2:=by rw [hW1]; simp
 have T1:Hid (W1.heap[w.heap.size+1]?=some (.cells #[.int .i64 0,.slice none 0 0,.slice none 0 0] 26 (0,0))):=by
  rw [hW1]
  have h:=heap_alloc_newL (w.alloc (.cells #[.int .i64 t,.slice b1 gs.length kk1,.slice b2 ps.length kk2] 26)) (.cells #[.int .i64 0,.slice none 0 0,.slice none 0 0] 26)
  rw [World.size_alloc] at h
  exact h
 clear hA hF hno hW1
 go_enter Tryz.func21,Tryz.ntmps21
 go_wp2_with fail
 rw [← HW1.out]
 refine OK.out.mono ?_
 rintro e w2 ⟨rfl,b2'⟩
 have he2:w2.cell? ⟨0,0,none⟩=some (.iface te pe):=((bl_trans B1.out b2').cell (p:=⟨0,0,none⟩) hev0).trans hev
 have T3:Hid (w2.heap[w.heap.size+1]?=some (.cells #[.int .i64 0,.slice none 0 0,.slice none 0 0] 26 (0,0))):=(b2'.block _ (by omega)).trans T1.out
 have T2:Hid (w2.there (w.heap.size+1) 0 3):=there_land ((b2'.block _ (by omega)).trans T1.out)
 have B2:=hidP (bl_trans B1.out b2')
 clear b2' hev
 have hT:=(T3.out)
 have t0:w2.cell? ⟨w.heap.size+1,0,none⟩=some (.int .i64 0):=by simp [World.cell?,hT]
 have t1:w2.cell? ⟨w.heap.size+1,1,none⟩=some (.slice none 0 0):=by simp [World.cell?,hT]
 have t2:w2.cell? ⟨w.heap.size+1,2,none⟩=some (.slice none 0 0):=by simp [World.cell?,hT]
 have z0:w2.frozen? ⟨w.heap.size+1,0,none⟩=false:=by simp [World.frozen?,hT]
 have z1:w2.frozen? ⟨w.heap.size+1,1,none⟩=false:=by simp [World.frozen?,hT]
 have z2:w2.frozen? ⟨w.heap.size+1,2,none⟩=false:=by simp [World.frozen?,hT]
 have BF:Hid (∀ n,Below w.heap.size w ((((w2.drewN n).setCell ⟨w.heap.size+1,0,none⟩ (.int .i64 0)).setCell ⟨w.heap.size+1,1,none⟩ (.slice none 0 0)).setCell ⟨w.heap.size+1,2,none⟩ (.slice none 0 0))):=fun n=>bl_set (bl_set (bl_set (⟨B2.out.os,B2.out.tape,B2.out.output,B2.out.size,B2.out.block⟩:Below w.heap.size w (w2.drewN n)) (by show w.heap.size≤w.heap.size+1; omega) _) (by show w.heap.size≤w.heap.size+1; omega) _) (by show w.heap.size≤w.heap.size+1; omega) _
 clear hT T2
 go_wp2_with fail
 go_region
 all_goals go_wp2
 all_goals exact bodyPost_ret (v:=.tuple #[.agg #[.int .i64 0,.slice none 0 0,.slice none 0 0],.slice none 0 0,.iface te pe]) (by simp [results,Tryz.results21,go_sem,t0,t1,t2]) rfl ⟨rfl,BF.out _⟩
set_option maxRecDepth 4000 in
set_option maxHeartbeats 4000000 in
theorem change_over_z (hK1:G.KeysSay) (hS1:G.SortedSay) (hK2:Pr.KeysSay) (hS2:Pr.SortedSay) (t:Int) (gs:List G.GrantD) (ps:List P.PlaceD) (b1 b2:Option Addr) (kk1 kk2:Nat) (w:World) (f:Value) (hA:P.LandZ w gs ps b1 b2 kk1) (hF:P.Fit gs ps) (hok:P.LandSay t gs ps) (ht:2000000≤t) (ev:Value) (hev:w.cell? ⟨3,0,none⟩=some ev) (hev0:3 < w.heap.size) (hv:∃ te pe,ev=.iface te pe) (hf:f=.func (.func 31) #[] #[]) :
  Calls Tryz.prog 21 #[.agg #[.int .i64 t,.slice b1 gs.length kk1,.slice b2 ps.length kk2],f] w fun e w'=>(∃ qs s1 s2,e=.returned (.tuple #[.agg #[.int .i64 t,s1,s2],.slice none 0 0,ev])∧P.Like qs ps∧LdO w' w.heap.size gs qs s1 s2)∧Below w.heap.size w w':=by
 subst hf
 have hinfo:(Tryz.prog.info? 26).map (·.size)=some 3:=by kernel_rfl
 obtain ⟨W1,hW1⟩:∃ W1,W1=(w.alloc (.cells #[.int .i64 t,.slice b1 gs.length kk1,.slice b2 ps.length kk2] 26)).alloc (.cells #[.int .i64 0,.slice none 0 0,.slice none 0 0] 26):=⟨_,rfl⟩
 have HW1:=hidP hW1
 have B1:Hid (Below w.heap.size w W1):=by rw [hW1]; exact bl_alloc (bl_alloc bR _) _
 have HA:=hidP hA
 have HF:=hidP hF
 have HK:=hidP hok
 have ht0:0≤t:=by
  have h:=hok.1
  simp [P.timeB,inB] at h
  omega
 have OK:Hid (Calls Tryz.prog 12 #[.agg #[.int .i64 t,.slice b1 gs.length kk1,.slice b2 ps.length kk2]] W1 fun e w'=>e=.returned (.bool true)∧Below W1.heap.size W1 w'):=by
  refine (P.implLandOk_z t gs ps b1 b2 kk1 kk2 W1 (hA.keep B1.out) hF).mono ?_
  rintro e w' ⟨⟨q,rfl,hq⟩,hb⟩
  exact ⟨by rw [hq.2 hok],hb⟩
 have hz1:W1.heap.size=w.heap.size+2:=by rw [hW1]; simp
 have Z1:=hidP hz1
 have T1:Hid (∀ y,Below W1.heap.size W1 y→y.heap[w.heap.size+1]?=some (.cells #[.int .i64 0,.slice none 0 0,.slice none 0 0] 26 (0,0))):=by
  intro y hy
  refine (hy.block _ (by omega)).trans ?_
  rw [hW1]
  have h:=heap_alloc_newL (w.alloc (.cells #[.int .i64 t,.slice b1 gs.length kk1,.slice b2 ps.length kk2] 26)) (.cells #[.int .i64 0,.slice none 0 0,.slice none 0 0] 26)
  rw [World.size_alloc] at h
  exact h
 have K0:Hid (∀ y,Below W1.heap.size W1 y→∀ j,y.cell? ⟨w.heap.size,j,none⟩=(#[.int .i64 t,.slice b1 gs.length kk1,.slice b2 ps.length kk2]:Array Value)[j]?):=by
  intro y hy j
  rw [hy.cell (p:=⟨w.heap.size,j,none⟩) (by show w.heap.size < _; omega),hW1]
  simp [go_sem]
 have BO:Hid (∀ y,Below W1.heap.size W1 y→Calls Tryz.prog 47 #[.agg #[.int .i64 t,.slice b1 gs.length kk1,.slice b2 ps.length kk2]] y fun e w'=>(∃ d m1 m2,e=.returned (.pointer (some ⟨d,0,none⟩))∧(y.heap.size≤d∧y.heap.size≤m1∧y.heap.size≤m2∧d≠m1∧d≠m2)∧Book w' d t m1 m2 gs (ps.map Pr.raw))∧Below y.heap.size y w'):=by
  intro y hy
  have hy2:=bl_trans B1.out hy
  have h:=bookOf_za t gs ps b1 b2 kk1 kk2 y (hA.keep hy2) hF (G.srt_asc hok.2.1.2.1) (srt_raw hok.2.2.1.2.1)
  exact h
 have TO:Hid (∀ y d u m1 m2,Below w.heap.size w y→Book y d u m1 m2 gs (ps.map Pr.raw)→Calls Tryz.prog 48 #[.pointer (some ⟨d,0,none⟩)] y fun e w'=>(∃ B Z lb qs s1 a2 c2,e=.returned (.agg #[.int .i64 u,s1,.slice a2 ps.length c2])∧y.heap.size < B∧Pt w' B Z lb u gs ps qs ps.length s1 a2 c2)∧Below y.heap.size y w'):=by
  intro y d u m1 m2 hy hB
  exact told_any hK1 hS1 hK2 hS2 d m1 m2 u gs ps (ps.map Pr.raw) rfl y hB (G.srt_asc hok.2.1.2.1) (srt_raw hok.2.2.1.2.1) (fun r hr=>(hF.g r hr).1) (fun r hr=>by obtain ⟨p,hp,rfl⟩:=List.mem_map.1 hr; exact (hF.p p hp).1) hF.gl (by rw [List.length_map]; exact hF.pl) (fun q hq=>⟨((hA.k q hq).keep hy),hF.ln q hq⟩)
 obtain ⟨te,pe,rfl⟩:=hv
 have HEV:Hid (∀ y,Below w.heap.size w y→y.cell? ⟨3,0,none⟩=some (.iface te pe)):=fun y hy=>(hy.cell (p:=⟨3,0,none⟩) hev0).trans hev
 have HT:=hidP ht
 clear hA hF hok hW1 hz1 hev ht hK1 hS1 hK2 hS2
 go_enter Tryz.func21,Tryz.ntmps21
 go_wp2_with fail
 rw [← HW1.out]
 refine OK.out.mono ?_
 rintro e w2 ⟨rfl,c2⟩
 have D2:=hidP c2
 clear c2
 have t0:w2.cell? ⟨w.heap.size,0,none⟩=some (.int .i64 t):=K0.out w2 D2.out 0
 have t1:w2.cell? ⟨w.heap.size,1,none⟩=some (.slice b1 gs.length kk1):=K0.out w2 D2.out 1
 have t2:w2.cell? ⟨w.heap.size,2,none⟩=some (.slice b2 ps.length kk2):=K0.out w2 D2.out 2
 go_wp2_with fail
 clear t0 t1 t2
 refine (BO.out w2 D2.out).mono ?_
 rintro e w3 ⟨⟨d,m1,m2,rfl,hd,hB⟩,c3⟩
 have D3:=hidP (bl_trans D2.out c3)
 have HD:Hid (W1.heap.size≤d∧d≠m1∧d≠m2):=⟨Nat.le_trans D2.out.size hd.1,hd.2.2.2.1,hd.2.2.2.2⟩
 have HB:=hidP hB
 clear hd hB c3
 go_wp2_with fail
 refine (work_tick d w3 (fun v1 v2 w'=>v1=.slice none 0 0∧v2=.iface te pe∧Below w3.heap.size w3 w') ((tick_over d m1 m2 t gs (ps.map Pr.raw) w3 HB.out HT.out (.iface te pe) (HEV.out w3 (bl_trans B1.out D3.out)) ⟨te,pe,rfl⟩).mono (by rintro e w' ⟨rfl,hb⟩; exact ⟨_,_,rfl,rfl,rfl,hb⟩))).mono ?_
 rintro e w4 ⟨v1,v2,rfl,rfl,rfl,c4⟩
 have D4:=hidP (bl_trans D3.out c4)
 clear c4
 have t0:w4.cell? ⟨w.heap.size,0,none⟩=some (.int .i64 t):=K0.out w4 D4.out 0
 have t1:w4.cell? ⟨w.heap.size,1,none⟩=some (.slice b1 gs.length kk1):=K0.out w4 D4.out 1
 have t2:w4.cell? ⟨w.heap.size,2,none⟩=some (.slice b2 ps.length kk2):=K0.out w4 D4.out 2
 go_wp2_with fail
 clear t0 t1 t2
 refine (BO.out w4 D4.out).mono ?_
 rintro e w6 ⟨⟨d',m1',m2',rfl,hd,hB⟩,c6⟩
 have D6:=hidP (bl_trans D4.out c6)
 have HB':Hid (Book w6 d' t m1' m2' gs (ps.map Pr.raw)):=hB
 clear hd hB c6
 go_wp2_with fail
 refine (TO.out w6 d' t m1' m2' (bl_trans B1.out D6.out) HB'.out).mono ?_
 rintro e w5 ⟨⟨B,Zz,lb,qs,s1,a2,c2,rfl,hBz,hP⟩,c5⟩
 obtain ⟨a1,c1,rfl⟩:=OG.shape hP.g
 have HBz:=hidP hBz
 have HP:=hidP hP
 have C5:=hidP c5
 have D5:=hidP (bl_trans D6.out c5)
 have T5:=hidP (there_land (T1.out w5 D5.out))
 clear hBz hP c5
 go_wp2_with (refine wpList_store_mid (by rfl) 26 _ _ (by rfl) (w.heap.size+1) 0 #[.int .i64 t,.slice a1 gs.length c1,.slice a2 ps.length c2] (by rfl) (by rfl) (by exact T5.out) hinfo (by simp [Value.oneCell']) ?_)
 have RG:=World.rangeAt_setCells_same w5 (w.heap.size+1) 0 [.int .i64 t,.slice a1 gs.length c1,.slice a2 ps.length c2] T5.out
 have hx:Ex (w.heap.size+1) w5 (World.setCells w5 (w.heap.size+1) 0 [.int .i64 t,.slice a1 gs.length c1,.slice a2 ps.length c2]):=(Ex.refl _ _).cells _ _
 have BE:Below w.heap.size w (World.setCells w5 (w.heap.size+1) 0 [.int .i64 t,.slice a1 gs.length c1,.slice a2 ps.length c2]):=Ex.mono (bl_trans B1.out D5.out) hx (Nat.le_succ _)
 have d0:=RG 0 _ rfl
 have d1:=RG 1 _ rfl
 have d2:=RG 2 _ rfl
 simp only [Nat.zero_add] at d0 d1 d2
 refine bodyPost_ret (v:=.tuple #[.agg #[.int .i64 t,.slice a1 gs.length c1,.slice a2 ps.length c2],.slice none 0 0,.iface te pe]) (by simp [results,Tryz.results21,go_sem,d0,d1,d2]) rfl ⟨?_,BE⟩
 have hs:w.heap.size+2≤w6.heap.size:=by have h1:=D6.out.size; have h2:=Z1.out; omega
 have hBB:=HBz.out
 exact ⟨qs,_,_,rfl,HP.out.like,(pt_ldo (pt_other HP.out hx (by omega))).low (by omega)⟩
set_option maxRecDepth 4000 in
set_option maxHeartbeats 4000000 in
theorem change_go_z (hK1:G.KeysSay) (hS1:G.SortedSay) (hK2:Pr.KeysSay) (hS2:Pr.SortedSay) (t:Int) (gs:List G.GrantD) (ps:List P.PlaceD) (b1 b2:Option Addr) (kk1 kk2:Nat) (w:World) (f:Value) (hA:P.LandZ w gs ps b1 b2 kk1) (hF:P.Fit gs ps) (hok:P.LandSay t gs ps) (ht:t < 2000000) (hf:f=.func (.func 31) #[] #[]) :
  Calls Tryz.prog 21 #[.agg #[.int .i64 t,.slice b1 gs.length kk1,.slice b2 ps.length kk2],f] w fun e w'=>(∃ qs ds s1 s2 v,e=.returned (.tuple #[.agg #[.int .i64 (t+2),s1,s2],v,.nilIface])∧P.Like qs ps∧ds.map Pc.PcD.says=ps.map toldSay∧TkO w' w.heap.size gs qs ds s1 s2 v)∧Below w.heap.size w w':=by
 subst hf
 have hinfo:(Tryz.prog.info? 26).map (·.size)=some 3:=by kernel_rfl
 obtain ⟨W1,hW1⟩:∃ W1,W1=(w.alloc (.cells #[.int .i64 t,.slice b1 gs.length kk1,.slice b2 ps.length kk2] 26)).alloc (.cells #[.int .i64 0,.slice none 0 0,.slice none 0 0] 26):=⟨_,rfl⟩
 have HW1:=hidP hW1
 have B1:Hid (Below w.heap.size w W1):=by rw [hW1]; exact bl_alloc (bl_alloc bR _) _
 have HA:=hidP hA
 have HF:=hidP hF
 have HK:=hidP hok
 have ht0:0≤t:=by
  have h:=hok.1
  simp [P.timeB,inB] at h
  omega
 have OK:Hid (Calls Tryz.prog 12 #[.agg #[.int .i64 t,.slice b1 gs.length kk1,.slice b2 ps.length kk2]] W1 fun e w'=>e=.returned (.bool true)∧Below W1.heap.size W1 w'):=by
  refine (P.implLandOk_z t gs ps b1 b2 kk1 kk2 W1 (hA.keep B1.out) hF).mono ?_
  rintro e w' ⟨⟨q,rfl,hq⟩,hb⟩
  exact ⟨by rw [hq.2 hok],hb⟩
 have hz1:W1.heap.size=w.heap.size+2:=by rw [hW1]; simp
 have Z1:=hidP hz1
 have T1:Hid (∀ y,Below W1.heap.size W1 y→y.heap[w.heap.size+1]?=some (.cells #[.int .i64 0,.slice none 0 0,.slice none 0 0] 26 (0,0))):=by
  intro y hy
  refine (hy.block _ (by omega)).trans ?_
  rw [hW1]
  have h:=heap_alloc_newL (w.alloc (.cells #[.int .i64 t,.slice b1 gs.length kk1,.slice b2 ps.length kk2] 26)) (.cells #[.int .i64 0,.slice none 0 0,.slice none 0 0] 26)
  rw [World.size_alloc] at h
  exact h
 have K0:Hid (∀ y,Below W1.heap.size W1 y→∀ j,y.cell? ⟨w.heap.size,j,none⟩=(#[.int .i64 t,.slice b1 gs.length kk1,.slice b2 ps.length kk2]:Array Value)[j]?):=by
  intro y hy j
  rw [hy.cell (p:=⟨w.heap.size,j,none⟩) (by show w.heap.size < _; omega),hW1]
  simp [go_sem]
 have BO:Hid (∀ y,Below W1.heap.size W1 y→Calls Tryz.prog 47 #[.agg #[.int .i64 t,.slice b1 gs.length kk1,.slice b2 ps.length kk2]] y fun e w'=>(∃ d m1 m2,e=.returned (.pointer (some ⟨d,0,none⟩))∧(y.heap.size≤d∧y.heap.size≤m1∧y.heap.size≤m2∧d≠m1∧d≠m2)∧Book w' d t m1 m2 gs (ps.map Pr.raw))∧Below y.heap.size y w'):=by
  intro y hy
  have hy2:=bl_trans B1.out hy
  have h:=bookOf_za t gs ps b1 b2 kk1 kk2 y (hA.keep hy2) hF (G.srt_asc hok.2.1.2.1) (srt_raw hok.2.2.1.2.1)
  exact h
 have TO:Hid (∀ y d u m1 m2,Below w.heap.size w y→Book y d u m1 m2 gs (ps.map Pr.raw)→Calls Tryz.prog 48 #[.pointer (some ⟨d,0,none⟩)] y fun e w'=>(∃ B Z lb qs s1 a2 c2,e=.returned (.agg #[.int .i64 u,s1,.slice a2 ps.length c2])∧y.heap.size < B∧Pt w' B Z lb u gs ps qs ps.length s1 a2 c2)∧Below y.heap.size y w'):=by
  intro y d u m1 m2 hy hB
  exact told_any hK1 hS1 hK2 hS2 d m1 m2 u gs ps (ps.map Pr.raw) rfl y hB (G.srt_asc hok.2.1.2.1) (srt_raw hok.2.2.1.2.1) (fun r hr=>(hF.g r hr).1) (fun r hr=>by obtain ⟨p,hp,rfl⟩:=List.mem_map.1 hr; exact (hF.p p hp).1) hF.gl (by rw [List.length_map]; exact hF.pl) (fun q hq=>⟨((hA.k q hq).keep hy),hF.ln q hq⟩)
 have TI:Hid (∀ y d m1 m2,Below W1.heap.size W1 y→W1.heap.size≤d→d≠m1→d≠m2→Book y d t m1 m2 gs (ps.map Pr.raw)→Calls Tryz.prog 32 #[.pointer (some ⟨d,0,none⟩)] y fun e w'=>∃ v cs,e=.returned (.tuple #[v,.nilIface])∧cs.length=ps.length∧Sn w' y.heap.size ps cs v∧Book w' d (t+2) m1 m2 gs (ps.map Pr.raw)∧Ex d y w'):=by
  intro y d m1 m2 hy hd h1 h2 hB
  exact tick_any hK2 hS2 d m1 m2 t gs ps (ps.map Pr.raw) rfl y hB h1 h2 (srt_raw hok.2.2.1.2.1) (fun r hr=>by obtain ⟨p,hp,rfl⟩:=List.mem_map.1 hr; exact (hF.p p hp).1) (by rw [List.length_map]; exact hF.pl) ht0 ht (fun z he q hq=>⟨src_exz (hA.k q hq) (by omega) (bl_trans B1.out hy) he,hF.ln q hq⟩)
 clear hA hF hok hW1 hz1 ht hK1 hS1 hK2 hS2 ht0
 go_enter Tryz.func21,Tryz.ntmps21
 go_wp2_with fail
 rw [← HW1.out]
 refine OK.out.mono ?_
 rintro e w2 ⟨rfl,c2⟩
 have D2:=hidP c2
 clear c2
 have t0:w2.cell? ⟨w.heap.size,0,none⟩=some (.int .i64 t):=K0.out w2 D2.out 0
 have t1:w2.cell? ⟨w.heap.size,1,none⟩=some (.slice b1 gs.length kk1):=K0.out w2 D2.out 1
 have t2:w2.cell? ⟨w.heap.size,2,none⟩=some (.slice b2 ps.length kk2):=K0.out w2 D2.out 2
 go_wp2_with fail
 clear t0 t1 t2
 refine (BO.out w2 D2.out).mono ?_
 rintro e w3 ⟨⟨d,m1,m2,rfl,hd,hB⟩,c3⟩
 have D3:=hidP (bl_trans D2.out c3)
 have HD:Hid (W1.heap.size≤d∧d≠m1∧d≠m2):=⟨Nat.le_trans D2.out.size hd.1,hd.2.2.2.1,hd.2.2.2.2⟩
 have HB:=hidP hB
 clear hd hB c3
 go_wp2_with fail
 refine (work_tick d w3 (fun v1 v2 w'=>v2=.nilIface∧∃ cs:List Pc.PcRaw,cs.length=ps.length∧Sn w' w3.heap.size ps cs v1∧Book w' d (t+2) m1 m2 gs (ps.map Pr.raw)∧Ex d w3 w') ((TI.out w3 d m1 m2 D3.out HD.out.1 HD.out.2.1 HD.out.2.2 HB.out).mono (by rintro e w' ⟨v,cs,rfl,h1,h2,h3,h4⟩; exact ⟨_,_,rfl,rfl,cs,h1,h2,h3,h4⟩))).mono ?_
 rintro e w4 ⟨v1,v2,rfl,rfl,cs,hcl,hSn,hB4,hE4⟩
 have D4:=hidP (Ex.mono D3.out hE4 HD.out.1)
 have HB4:=hidP hB4
 have HS:Hid (cs.length=ps.length∧Sn w4 w3.heap.size ps cs v1):=⟨hcl,hSn⟩
 clear hcl hSn hB4 hE4
 go_wp2_with fail
 refine (TO.out w4 d (t+2) m1 m2 (bl_trans B1.out D4.out) HB4.out).mono ?_
 rintro e w5 ⟨⟨B,Zz,lb,qs,s1,a2,c2,rfl,hBz,hP⟩,c5⟩
 obtain ⟨a1,c1,rfl⟩:=OG.shape hP.g
 have HBz:=hidP hBz
 have HP:=hidP hP
 have C5:=hidP c5
 have D5:=hidP (bl_trans D4.out c5)
 have T5:=hidP (there_land (T1.out w5 D5.out))
 clear hBz hP c5
 go_wp2_with (refine wpList_store_mid (by rfl) 26 _ _ (by rfl) (w.heap.size+1) 0 #[.int .i64 (t+2),.slice a1 gs.length c1,.slice a2 ps.length c2] (by rfl) (by rfl) (by exact T5.out) hinfo (by simp [Value.oneCell']) ?_)
 have RG:=World.rangeAt_setCells_same w5 (w.heap.size+1) 0 [.int .i64 (t+2),.slice a1 gs.length c1,.slice a2 ps.length c2] T5.out
 have hx:Ex (w.heap.size+1) w5 (World.setCells w5 (w.heap.size+1) 0 [.int .i64 (t+2),.slice a1 gs.length c1,.slice a2 ps.length c2]):=(Ex.refl _ _).cells _ _
 have BE:Below w.heap.size w (World.setCells w5 (w.heap.size+1) 0 [.int .i64 (t+2),.slice a1 gs.length c1,.slice a2 ps.length c2]):=Ex.mono (bl_trans B1.out D5.out) hx (Nat.le_succ _)
 have d0:=RG 0 _ rfl
 have d1:=RG 1 _ rfl
 have d2:=RG 2 _ rfl
 simp only [Nat.zero_add] at d0 d1 d2
 refine bodyPost_ret (v:=.tuple #[.agg #[.int .i64 (t+2),.slice a1 gs.length c1,.slice a2 ps.length c2],v1,.nilIface]) (by simp [results,Tryz.results21,go_sem,d0,d1,d2]) rfl ⟨?_,BE⟩
 obtain ⟨ds,hc,hsay,hraw⟩:=sn_pco (HS.out.2.keep C5.out) HS.out.1
 have hs:w.heap.size+2≤w3.heap.size:=by have h1:=D3.out.size; have h2:=Z1.out; omega
 have h34:w.heap.size+2≤w4.heap.size:=by have h1:=D4.out.size; have h2:=Z1.out; omega
 have hBB:=HBz.out
 have hL:LdO (World.setCells w5 (w.heap.size+1) 0 [.int .i64 (t+2),.slice a1 gs.length c1,.slice a2 ps.length c2]) B gs qs (.slice a1 gs.length c1) (.slice a2 ps.length c2):=pt_ldo (pt_other HP.out hx (by omega))
 have hC:=hc.off (off_of_ex hx) (fun g hg e=>by have:=(hc.lt g hg).1; omega)
 refine ⟨qs,ds,_,_,v1,rfl,HP.out.like,hsay,hL.low (by omega),hC.low (by omega),fun g hg hg'=>?_⟩
 have h1:=(hL.lt g hg).1
 have h2:g < w4.heap.size:=sn_lt HS.out.2 hraw g hg'
 omega
theorem change_tick_z (hK1:G.KeysSay) (hS1:G.SortedSay) (hK2:Pr.KeysSay) (hS2:Pr.SortedSay) (t:Int) (gs:List G.GrantD) (ps:List P.PlaceD) (b1 b2:Option Addr) (kk1 kk2:Nat) (w:World) (hA:P.LandZ w gs ps b1 b2 kk1) (hF:P.Fit gs ps) (e0 e1:Value) (hE:Errs w e0 e1) :
  Calls Tryz.prog 21 #[.agg #[.int .i64 t,.slice b1 gs.length kk1,.slice b2 ps.length kk2],.func (.func 31) #[] #[]] w fun e w'=>(∃ t' gs' qs ds s1 s2 v er,e=.returned (.tuple #[.agg #[.int .i64 t',s1,s2],v,er])∧TickSay t gs ps t' gs' qs ds∧TkO w' w.heap.size gs' qs ds s1 s2 v)∧Below w.heap.size w w':=by
 by_cases hok:P.LandSay t gs ps
 ·
  by_cases ht:2000000≤t
  ·
   refine (change_over_z hK1 hS1 hK2 hS2 t gs ps b1 b2 kk1 kk2 w _ hA hF hok ht e1 hE.c1 hE.z1 hE.i1 rfl).mono ?_
   rintro e w' ⟨⟨qs,s1,s2,rfl,hl,hL⟩,hb⟩
   exact ⟨⟨t,gs,qs,[],s1,s2,_,_,rfl,Or.inr ⟨hok,rfl,hl,Or.inl ⟨ht,rfl,rfl⟩⟩,tko_none hL⟩,hb⟩
  refine (change_go_z hK1 hS1 hK2 hS2 t gs ps b1 b2 kk1 kk2 w _ hA hF hok (by omega) rfl).mono ?_
  rintro e w' ⟨⟨qs,ds,s1,s2,v,rfl,hl,hd,hT⟩,hb⟩
  exact ⟨⟨t+2,gs,qs,ds,s1,s2,v,_,rfl,Or.inr ⟨hok,rfl,hl,Or.inr ⟨by omega,rfl,hd⟩⟩,hT⟩,hb⟩
 ·
  refine (change_no_z t gs ps b1 b2 kk1 kk2 w _ hA hF hok e0 hE.c0 hE.z0 hE.i0 rfl).mono ?_
  rintro e w' ⟨rfl,hb⟩
  exact ⟨⟨0,[],[],[],_,_,_,_,rfl,Or.inl ⟨hok,rfl,rfl,rfl,rfl⟩,tko_none (LdO.nil _ _)⟩,hb⟩
set_option maxRecDepth 4000 in
set_option maxHeartbeats 4000000 in
theorem implTick_z (hK1:G.KeysSay) (hS1:G.SortedSay) (hK2:Pr.KeysSay) (hS2:Pr.SortedSay) (t:Int) (gs:List G.GrantD) (ps:List P.PlaceD) (b1 b2:Option Addr) (kk1 kk2:Nat) (w:World) (hA:P.LandZ w gs ps b1 b2 kk1) (hF:P.Fit gs ps) (e0 e1:Value) (hE:Errs w e0 e1) :
  Calls Tryz.prog 9 #[.agg #[.int .i64 t,.slice b1 gs.length kk1,.slice b2 ps.length kk2]] w fun e w'=>(∃ t' gs' qs ds s1 s2 v,e=.returned (.tuple #[.agg #[.int .i64 t',s1,s2],v])∧TickSay t gs ps t' gs' qs ds∧TkO w' w.heap.size gs' qs ds s1 s2 v)∧Below w.heap.size w w':=by
 have hinfo:(Tryz.prog.info? 26).map (·.size)=some 3:=by kernel_rfl
 obtain ⟨W1,hW1⟩:∃ W1,W1=(w.alloc (.cells #[.int .i64 t,.slice b1 gs.length kk1,.slice b2 ps.length kk2] 26)).alloc (.cells #[.int .i64 0,.slice none 0 0,.slice none 0 0] 26):=⟨_,rfl⟩
 have HW1:=hidP hW1
 have B1:Hid (Below w.heap.size w W1):=by rw [hW1]; exact bl_alloc (bl_alloc bR _) _
 have Z1:Hid (W1.heap.size=w.heap.size+2):=by rw [hW1]; show _=_; simp
 have T1:Hid (∀ y,Below W1.heap.size W1 y→y.there (w.heap.size+1) 0 3):=by
  intro y hy
  refine there_land ((hy.block _ (by have:=Z1.out; omega)).trans ?_)
  rw [hW1]
  have h:=heap_alloc_newL (w.alloc (.cells #[.int .i64 t,.slice b1 gs.length kk1,.slice b2 ps.length kk2] 26)) (.cells #[.int .i64 0,.slice none 0 0,.slice none 0 0] 26)
  rw [World.size_alloc] at h
  exact h
 have CH:=hidP (change_tick_z hK1 hS1 hK2 hS2 t gs ps b1 b2 kk1 kk2 W1 (hA.keep B1.out) hF e0 e1 (hE.keep B1.out))
 clear hK1 hS1 hK2 hS2 hA hF hE hW1
 go_enter Tryz.func9,Tryz.ntmps9
 go_wp2_with fail
 rw [← HW1.out]
 refine CH.out.mono ?_
 rintro e w2 ⟨⟨t',gs',qs,ds,s1,s2,v,er,rfl,hS,hT⟩,c2⟩
 obtain ⟨a1,p1,rfl⟩:=G.Sl.shape hT.l.g
 obtain ⟨a2,p2,hs2⟩:=Pr.Sl.shape hT.l.p.o
 rw [List.length_map] at hs2
 subst hs2
 have HS:=hidP hS
 have HT:=hidP hT
 have D2:=hidP c2
 have T3:Hid ((w2.alloc (.cells #[.int .i64 t',.slice a1 gs'.length p1,.slice a2 qs.length p2] 26)).there (w.heap.size+1) 0 3):=T1.out _ (bl_trans c2 (bl_alloc bR _))
 clear hS hT c2 CH
 go_wp2_with (refine wpList_store_mid (by rfl) 26 _ _ (by rfl) (w.heap.size+1) 0 #[.int .i64 t',.slice a1 gs'.length p1,.slice a2 qs.length p2] (by rfl) (by rfl) (by exact T3.out) hinfo (by simp [Value.oneCell']) ?_)
 have hrg:=World.rangeAt_setCells_same (w2.alloc (.cells #[.int .i64 t',.slice a1 gs'.length p1,.slice a2 qs.length p2] 26)) (w.heap.size+1) 0 [.int .i64 t',.slice a1 gs'.length p1,.slice a2 qs.length p2] (by exact T3.out)
 have d0:=hrg 0 _ rfl
 have d1:=hrg 1 _ rfl
 have d2:=hrg 2 _ rfl
 simp only [Nat.zero_add] at d0 d1 d2
 have hb:Below w2.heap.size w2 (w2.alloc (.cells #[.int .i64 t',.slice a1 gs'.length p1,.slice a2 qs.length p2] 26)):=bl_alloc bR _
 have hx:Ex (w.heap.size+1) (w2.alloc (.cells #[.int .i64 t',.slice a1 gs'.length p1,.slice a2 qs.length p2] 26)) ((w2.alloc (.cells #[.int .i64 t',.slice a1 gs'.length p1,.slice a2 qs.length p2] 26)).setCells (w.heap.size+1) 0 [.int .i64 t',.slice a1 gs'.length p1,.slice a2 qs.length p2]):=(Ex.refl _ _).cells _ _
 have hz:=Z1.out
 exact bodyPost_ret (v:=.tuple #[.agg #[.int .i64 t',.slice a1 gs'.length p1,.slice a2 qs.length p2],v]) (by simp [results,Tryz.results9,go_sem,d0,d1,d2]) rfl ⟨⟨t',gs',qs,ds,_,_,v,rfl,HS.out,((HT.out.keep hb).off (off_of_ex hx) (fun g hg e=>by have:=(HT.out.lt g hg).1; omega)).low (by omega)⟩,Ex.mono (bl_trans B1.out (bl_trans D2.out hb)) hx (by omega)⟩
end Go.Proofs.YtcjhlhijdacinaaGreatDoor
namespace Go.Proofs.YtcjhlhijdacinaaGreatDoor
open Go.RowKit Go.Maps Go.WideMaps
set_option linter.unusedVariables false
set_option maxRecDepth 4000 in
set_option maxHeartbeats 1000000 in
theorem namesHold_any (p:TakeP) (s:Int) (a:Option Addr) (n cw:Nat) (w:World) (hf:p.fits) :
  Calls Tryz.prog 49 #[.agg #[.int .i64 p.k,.string p.b,.int .i64 s,.slice a n cw,.string p.h,.string p.c,.int .i64 p.t]] w fun e w'=>e=.returned (.bool p.good)∧Below w.heap.size w w':=by
 have h1:=hf.b
 have h2:=hf.h
 have h3:=hf.c
 have hb:Below w.heap.size w (w.alloc (.cells #[.int .i64 p.k,.string p.b,.int .i64 s,.slice a n cw,.string p.h,.string p.c,.int .i64 p.t] 29)):=bl_alloc bR _
 have HB:=hidP hb
 clear hb hf
 unfold TakeP.good
 cases q1:nameB p.b
 ·
  go_enter Tryz.func49,Tryz.ntmps49
  go_wp2_with (go_at_call 68; refine (implName_any _ _ (by assumption)).mono ?_; rintro e w' ⟨rfl,hw⟩; have hw2:=hw.symm; subst hw2; clear hw)
  go_ret
  exact ⟨rfl,HB.out⟩
 ·
  cases q2:nameB p.c
  ·
   go_enter Tryz.func49,Tryz.ntmps49
   go_wp2_with (go_at_call 68; refine (implName_any _ _ (by assumption)).mono ?_; rintro e w' ⟨rfl,hw⟩; have hw2:=hw.symm; subst hw2; clear hw)
   go_ret
   exact ⟨rfl,HB.out⟩
  cases q3:holdB p.h
  ·
   go_enter Tryz.func49,Tryz.ntmps49
   go_wp2_with (first | (go_at_call 68; refine (implName_any _ _ (by assumption)).mono ?_; rintro e w' ⟨rfl,hw⟩; have hw2:=hw.symm; subst hw2; clear hw) | (go_at_call 75; refine (implHold_any _ _ (by assumption)).mono ?_; rintro e w' ⟨rfl,hw⟩; have hw2:=hw.symm; subst hw2; clear hw))
   go_ret
   exact ⟨rfl,HB.out⟩
  go_enter Tryz.func49,Tryz.ntmps49
  go_wp2_with (first | (go_at_call 68; refine (implName_any _ _ (by assumption)).mono ?_; rintro e w' ⟨rfl,hw⟩; have hw2:=hw.symm; subst hw2; clear hw) | (go_at_call 75; refine (implHold_any _ _ (by assumption)).mono ?_; rintro e w' ⟨rfl,hw⟩; have hw2:=hw.symm; subst hw2; clear hw) | (go_at_call 55; refine (within_any _ _ _ _).mono ?_; rintro e w' ⟨rfl,hw⟩; have hw2:=hw.symm; subst hw2; clear hw))
  go_ret
  exact ⟨rfl,HB.out⟩
set_option maxRecDepth 4000 in
theorem isOver_any (d:Nat) (t:Int) (g:G.GrantD) (w:World) (h0:w.cell? ⟨d,0,none⟩=some (.int .i64 t)) (hd:d < w.heap.size) :
  Calls Tryz.prog 90 #[.pointer (some ⟨d,0,none⟩),.agg #[.string g.h,.string g.b,.string g.c,.int .i64 g.t,.int .i64 g.u]] w fun e w'=>e=.returned (.bool (overG t g))∧Below w.heap.size w w':=by
 have h0':(w.alloc (.cells #[.string g.h,.string g.b,.string g.c,.int .i64 g.t,.int .i64 g.u] 40)).cell? ⟨d,0,none⟩=some (.int .i64 t):=((bl_alloc (Below.refl w.heap.size w) _).cell (p:=⟨d,0,none⟩) hd).trans h0
 unfold overG
 go_enter Tryz.func90,Tryz.ntmps90
 go_wp2_with fail
 go_quiet (fail)
 go_wp2
 go_ret
 have hb:Below w.heap.size w (w.alloc (.cells #[.string g.h,.string g.b,.string g.c,.int .i64 g.t,.int .i64 g.u] 40)):=bl_alloc bR _
 exact ⟨rfl,⟨hb.os,hb.tape,hb.output,hb.size,hb.block⟩⟩
set_option maxRecDepth 4000 in
theorem isWanted1_any (p:TakeP) (r:W.WantD) (pb:Nat) (w:World) (h4:w.cell? ⟨pb,4,none⟩=some (.string p.h)) (h5:w.cell? ⟨pb,5,none⟩=some (.string p.c)) (hp:pb < w.heap.size) :
  Calls Tryz.prog 89 #[.agg #[.string r.c,.int .i64 r.v,.string r.h,.int .i64 r.p,.int .i64 r.s,.int .i64 r.d,.int .i64 r.g],.pointer (some ⟨pb,0,none⟩)] w fun e w'=>e=.returned (.bool (askW p r))∧Below w.heap.size w w':=by
 have h4':(w.alloc (.cells #[.string r.c,.int .i64 r.v,.string r.h,.int .i64 r.p,.int .i64 r.s,.int .i64 r.d,.int .i64 r.g] 56)).cell? ⟨pb,4,none⟩=some (.string p.h):=((bl_alloc (Below.refl w.heap.size w) _).cell (p:=⟨pb,4,none⟩) hp).trans h4
 have h5':(w.alloc (.cells #[.string r.c,.int .i64 r.v,.string r.h,.int .i64 r.p,.int .i64 r.s,.int .i64 r.d,.int .i64 r.g] 56)).cell? ⟨pb,5,none⟩=some (.string p.c):=((bl_alloc (Below.refl w.heap.size w) _).cell (p:=⟨pb,5,none⟩) hp).trans h5
 unfold askW eqT
 cases q:(r.c.toList == p.c.toList)
 ·
  go_enter Tryz.func89,Tryz.ntmps89
  go_wp2
  go_ret
  exact ⟨rfl,bl_alloc bR _⟩
 ·
  go_enter Tryz.func89,Tryz.ntmps89
  go_wp2
  go_ret
  exact ⟨rfl,bl_alloc bR _⟩
set_option maxRecDepth 4000 in
set_option maxHeartbeats 1000000 in
theorem indexW (p:TakeP) (a:Option Addr) (cap:Nat) (rs:List W.WantD) (pb:Nat) (w:World) (hR:W.Gv w a rs) (hl:rs.length≤1048576) (h4:w.cell? ⟨pb,4,none⟩=some (.string p.h)) (h5:w.cell? ⟨pb,5,none⟩=some (.string p.c)) (hp:pb < w.heap.size) :
  Calls Tryz.prog 102 #[.slice a rs.length cap,.func (.func 89) #[] #[.pointer (some ⟨pb,0,none⟩)]] w fun e w'=>(∃ n:Int,e=.returned (.int .i64 n)∧decide (0≤n)=wantedW p rs)∧Below w.heap.size w w':=by
 have HW:Hid (∀ y,Below w.heap.size w y→∀ r:W.WantD,Calls Tryz.prog 89 #[.agg #[.string r.c,.int .i64 r.v,.string r.h,.int .i64 r.p,.int .i64 r.s,.int .i64 r.d,.int .i64 r.g],.pointer (some ⟨pb,0,none⟩)] y fun e w'=>e=.returned (.bool (askW p r))∧Below y.heap.size y w'):=fun y hy r =>
  isWanted1_any p r pb y ((hy.cell (p:=⟨pb,4,none⟩) hp).trans h4) ((hy.cell (p:=⟨pb,5,none⟩) hp).trans h5) (Nat.lt_of_lt_of_le hp hy.size)
 have HR:=hidP hR
 clear hR h4 h5
 go_enter Tryz.func102,Tryz.ntmps102
 go_wp2
 go_loopw [8] (fun i wx=>∃ (k:Nat),k≤rs.length∧i=.int .i64 k∧Hid (∀ (j:Nat) r,j < k→rs[j]?=some r→askW p r=false)∧Below w.heap.size w wx) (fun i _=>rs.length - (intOf i).toNat)
 case atStart=>exact ⟨0,Nat.zero_le _,rfl,fun j r h=>by omega,Below.refl _ _⟩
 case round =>
  obtain ⟨k,hk,rfl,Ha,hB⟩:=hrel
  have HB:=hidP hB
  by_cases hlt:k < rs.length
  ·
   obtain ⟨r,hr⟩:∃ r,rs[k]?=some r:=⟨rs[k],List.getElem?_eq_getElem hlt⟩
   obtain ⟨g,rfl,hg,hrow⟩:∃ g,a=some ⟨g,0,none⟩∧g < wr.heap.size∧W.RowsAt wr g 0 rs:=by
    rcases HR.out.keep hB with h | h
    · rw [h] at hlt; cases hlt
    exact h
   obtain ⟨c0,c1,c2,c3,c4,c5,c6⟩:=hrow.at hr
   have Hr:=hidP hr
   simp only [Nat.zero_add] at c0 c1 c2 c3 c4 c5 c6
   clear hr hrow hB
   go_wp2_with fail
   refine (HW.out wr HB.out r).mono ?_
   rintro e w1 ⟨rfl,hb⟩
   have Hb1:=hidP (bl_trans HB.out hb)
   clear hb c0 c1 c2 c3 c4 c5 c6
   cases hP:askW p r
   ·
    go_wp2
    exact ⟨⟨k+1,by omega,by go_num,(fun j q hj hq=>by
     by_cases e:j=k
     · subst e; have hh:=Hr.out; rw [hh] at hq; cases hq; exact hP
     exact Ha.out j q (by omega) hq),Hb1.out⟩,by simp [intOf]; omega⟩
   go_wp2
   go_ret
   refine ⟨⟨k,rfl, ?_⟩,Hb1.out⟩
   have h1:wantedW p rs=true:=by
    unfold wantedW
    rw [List.any_eq_true]
    exact ⟨r,List.mem_of_getElem? Hr.out,hP⟩
   rw [h1]
   exact decide_eq_true (by omega)
  go_wp2
  go_ret
  refine ⟨⟨-1,rfl, ?_⟩,HB.out⟩
  have h1:wantedW p rs=false:=by
   unfold wantedW
   rw [List.any_eq_false]
   intro r hr h
   obtain ⟨j,hj⟩:=List.getElem?_of_mem hr
   have hjl:j < rs.length:=(List.getElem?_eq_some_iff.1 hj).1
   rw [Ha.out j r (by omega) hj] at h
   cases h
  rw [h1]
  rfl
theorem containsW (p:TakeP) (a:Option Addr) (cap:Nat) (rs:List W.WantD) (pb:Nat) (w:World) (hR:W.Gv w a rs) (hl:rs.length≤1048576) (h4:w.cell? ⟨pb,4,none⟩=some (.string p.h)) (h5:w.cell? ⟨pb,5,none⟩=some (.string p.c)) (hp:pb < w.heap.size) :
  Calls Tryz.prog 88 #[.slice a rs.length cap,.func (.func 89) #[] #[.pointer (some ⟨pb,0,none⟩)]] w fun e w'=>e=.returned (.bool (wantedW p rs))∧Below w.heap.size w w':=by
 have HI:=hidP (indexW p a cap rs pb w hR hl h4 h5 hp)
 clear hR h4 h5
 go_enter Tryz.func88,Tryz.ntmps88
 go_wp2_with fail
 refine HI.out.mono ?_
 rintro e w1 ⟨⟨n,rfl,hn⟩,hb⟩
 have HB:=hidP hb
 have HN:=hidP hn
 clear hb hn HI
 go_wp2
 go_ret
 exact ⟨by rw [← HN.out]; rfl,HB.out⟩
end Go.Proofs.YtcjhlhijdacinaaGreatDoor
