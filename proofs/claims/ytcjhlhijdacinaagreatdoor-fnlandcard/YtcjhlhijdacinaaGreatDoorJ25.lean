import Derived.Test.YtcjhlhijdacinaaGreatDoorJ21
import Derived.Test.YtcjhlhijdacinaaGreatDoorJ23
import Derived.Test.YtcjhlhijdacinaaGreatDoorJ19
import Derived.Test.YtcjhlhijdacinaaGreatDoorJ24
import Derived.Deep.RegionWith
import Derived.Test.YtcjhlhijdacinaaGreatDoorJ10
import Derived.Test.YtcjhlhijdacinaaGreatDoorJ05
import Derived.Deep.RegionHeld3
import Derived.Laws.Pointers
import Derived.StillTactics
import Derived.Test.YtcjhlhijdacinaaGreatDoorJ22
import Derived.Deep.DeepCutAuto
import Derived.Deep.CutBlock
namespace Go.Proofs.YtcjhlhijdacinaaGreatDoor
open Go.RowKit Go.Maps Go.WideMaps
set_option linter.unusedVariables false
def SpecPutSay_z:Prop:=∀ (t:Int) (gs:List G.GrantD) (ps:List P.PlaceD) (b1 b2:Option Addr) (kk1 kk2:Nat) (b:ByteArray) (aw:Option Addr) (cw:Nat) (ws:List W.WantD) (w:World),P.LandZ w gs ps b1 b2 kk1→P.Fit gs ps→W.Src w aw cw ws→b.size≤maxLen→(∀ r∈ws,r.fits)→ws.length≤1048576 →
  Calls Tryz.prog 15 #[.agg #[.int .i64 t,.slice b1 gs.length kk1,.slice b2 ps.length kk2],.string b,.slice aw ws.length cw] w fun e w'=>(∃ t' gs' qs s1 s2 code,e=.returned (.tuple #[.agg #[.int .i64 t',s1,s2],.int .i64 code])∧PutSay t gs ps b ws t' gs' qs code∧LdO w' w.heap.size gs' qs s1 s2∧C0 gs' s1)∧Below w.heap.size w w'
set_option maxRecDepth 4000 in
set_option maxHeartbeats 4000000 in
theorem specPut_no_z (t:Int) (gs:List G.GrantD) (ps:List P.PlaceD) (b1 b2:Option Addr) (kk1 kk2:Nat) (b:ByteArray) (aw:Option Addr) (cw:Nat) (ws:List W.WantD) (w:World) (hA:P.LandZ w gs ps b1 b2 kk1) (hF:P.Fit gs ps) (hW:W.Src w aw cw ws) (hb:b.size≤maxLen) (hwf:∀ r∈ws,r.fits) (hwl:ws.length≤1048576) (hno:¬ P.LandSay t gs ps) :
  Calls Tryz.prog 15 #[.agg #[.int .i64 t,.slice b1 gs.length kk1,.slice b2 ps.length kk2],.string b,.slice aw ws.length cw] w fun e w'=>(∃ t' gs' qs s1 s2 code,e=.returned (.tuple #[.agg #[.int .i64 t',s1,s2],.int .i64 code])∧PutSay t gs ps b ws t' gs' qs code∧LdO w' w.heap.size gs' qs s1 s2∧C0 gs' s1)∧Below w.heap.size w w':=by
 have hinfo:(Tryz.prog.info? 26).map (·.size)=some 3:=by kernel_rfl
 obtain ⟨W1,hW1⟩:∃ W1,W1=(w.alloc (.cells #[.int .i64 t,.slice b1 gs.length kk1,.slice b2 ps.length kk2] 26)).alloc (.cells #[.int .i64 0,.slice none 0 0,.slice none 0 0] 26):=⟨_,rfl⟩
 have HW1:=hidP hW1
 have B1:Hid (Below w.heap.size w W1):=by rw [hW1]; exact bl_alloc (bl_alloc bR _) _
 have Z1:Hid (W1.heap.size=w.heap.size+2):=by rw [hW1]; show _=_; simp
 obtain ⟨bx,hbx⟩:∃ bx,bx=w.heap.size:=⟨_,rfl⟩
 have HBX:=hidP hbx
 have K0:Hid (∀ y,Below W1.heap.size W1 y→∀ j,y.cell? ⟨bx,j,none⟩=(#[.int .i64 t,.slice b1 gs.length kk1,.slice b2 ps.length kk2]:Array Value)[j]?):=by
  intro y hy j
  rw [hbx,hy.cell (p:=⟨w.heap.size,j,none⟩) (by show w.heap.size < _; rw [Z1.out]; omega),hW1]
  simp [go_sem]
 have T1:Hid (∀ y,Below W1.heap.size W1 y→y.there (bx+1) 0 3):=by
  intro y hy
  refine there_land ((hy.block _ (by have:=Z1.out; omega)).trans ?_)
  rw [hW1,hbx]
  have h:=heap_alloc_newL (w.alloc (.cells #[.int .i64 t,.slice b1 gs.length kk1,.slice b2 ps.length kk2] 26)) (.cells #[.int .i64 0,.slice none 0 0,.slice none 0 0] 26)
  rw [World.size_alloc] at h
  exact h
 have OK:Hid (Calls Tryz.prog 11 #[.agg #[.int .i64 t,.slice b1 gs.length kk1,.slice b2 ps.length kk2]] W1 fun e w'=>e=.returned (.bool false)∧Below W1.heap.size W1 w'):=by
  refine (P.specLandOk_z t gs ps b1 b2 kk1 kk2 W1 (hA.keep B1.out) hF).mono ?_
  rintro e w' ⟨⟨q,rfl,hq⟩,hb⟩
  exact ⟨by cases q with | false=>rfl | true=>exact (hno (hq.1 rfl)).elim,hb⟩
 have CP:Hid (∀ y,Below W1.heap.size W1 y→Calls Tryz.prog 24 #[.agg #[.int .i64 t,.slice b1 gs.length kk1,.slice b2 ps.length kk2]] y fun e w'=>(∃ qs s1 s2,e=.returned (.agg #[.int .i64 t,s1,s2])∧P.Like qs ps∧LdO w' y.heap.size gs qs s1 s2∧C0 gs s1)∧Below y.heap.size y w'):=fun y hy=>l6Copy_c0_z t gs ps b1 b2 kk1 kk2 y (hA.keep (bl_trans B1.out hy)) hF.gl hF.pl hF.ln
 have HWS:Hid (∀ y,Below W1.heap.size W1 y→W.Src y aw cw ws):=fun y hy=>hW.keep (bl_trans B1.out hy)
 have HNO:=hidP hno
 clear hno hA hF hW hW1 hwf
 go_enter Tryz.func15,Tryz.ntmps15
 go_wp2_with fail
 rw [← hbx]
 clear hbx
 rw [← HW1.out]
 refine OK.out.mono ?_
 rintro e w2 ⟨rfl,c2⟩
 have D2:=hidP c2
 clear c2
 have D9:=hidP D2.out
 have T9:Hid (w2.there (bx+1) 0 3):=T1.out _ D9.out
 go_wp2_with (refine wpList_store_mid (by rfl) 26 _ _ (by rfl) (bx+1) 0 #[.int .i64 0,.slice none 0 0,.slice none 0 0] (by rfl) (by rfl) (by exact T9.out) hinfo (by simp [Value.oneCell']) ?_)
 have hrg:=World.rangeAt_setCells_same w2 (bx+1) 0 [.int .i64 0,.slice none 0 0,.slice none 0 0] (by exact T9.out)
 have e0:=hrg 0 _ rfl
 have e1:=hrg 1 _ rfl
 have e2:=hrg 2 _ rfl
 simp only [Nat.zero_add] at e0 e1 e2
 have hx:Ex (bx+1) w2 (w2.setCells (bx+1) 0 [.int .i64 0,.slice none 0 0,.slice none 0 0]):=(Ex.refl _ _).cells _ _
 have hBX:=HBX.out
 have hz:=Z1.out
 have hd:=D9.out.size
 exact bodyPost_ret (v:=.tuple #[.agg #[.int .i64 0,.slice none 0 0,.slice none 0 0],.int .i64 1]) (by simp [results,Tryz.results15,go_sem,e0,e1,e2]) rfl ⟨⟨0,[],[],_,_,1,rfl,Or.inl ⟨HNO.out,rfl,rfl,rfl,rfl⟩,LdO.nil _ _,fun _ a n c e=>by cases e; rfl⟩,Ex.mono (bl_trans B1.out D9.out) hx (by omega)⟩
set_option maxRecDepth 4000 in
set_option maxHeartbeats 4000000 in
theorem specPut_two_z (t:Int) (gs:List G.GrantD) (ps:List P.PlaceD) (b1 b2:Option Addr) (kk1 kk2:Nat) (b:ByteArray) (aw:Option Addr) (cw:Nat) (ws:List W.WantD) (w:World) (hA:P.LandZ w gs ps b1 b2 kk1) (hF:P.Fit gs ps) (hW:W.Src w aw cw ws) (hb:b.size≤maxLen) (hwf:∀ r∈ws,r.fits) (hwl:ws.length≤1048576) (hyes:P.LandSay t gs ps) (hn:¬ (nameB b=true∧(ws.length≤10∧W.AllW ws ws.length))) :
  Calls Tryz.prog 15 #[.agg #[.int .i64 t,.slice b1 gs.length kk1,.slice b2 ps.length kk2],.string b,.slice aw ws.length cw] w fun e w'=>(∃ t' gs' qs s1 s2 code,e=.returned (.tuple #[.agg #[.int .i64 t',s1,s2],.int .i64 code])∧PutSay t gs ps b ws t' gs' qs code∧LdO w' w.heap.size gs' qs s1 s2∧C0 gs' s1)∧Below w.heap.size w w':=by
 have hinfo:(Tryz.prog.info? 26).map (·.size)=some 3:=by kernel_rfl
 obtain ⟨W1,hW1⟩:∃ W1,W1=(w.alloc (.cells #[.int .i64 t,.slice b1 gs.length kk1,.slice b2 ps.length kk2] 26)).alloc (.cells #[.int .i64 0,.slice none 0 0,.slice none 0 0] 26):=⟨_,rfl⟩
 have HW1:=hidP hW1
 have B1:Hid (Below w.heap.size w W1):=by rw [hW1]; exact bl_alloc (bl_alloc bR _) _
 have Z1:Hid (W1.heap.size=w.heap.size+2):=by rw [hW1]; show _=_; simp
 obtain ⟨bx,hbx⟩:∃ bx,bx=w.heap.size:=⟨_,rfl⟩
 have HBX:=hidP hbx
 have K0:Hid (∀ y,Below W1.heap.size W1 y→∀ j,y.cell? ⟨bx,j,none⟩=(#[.int .i64 t,.slice b1 gs.length kk1,.slice b2 ps.length kk2]:Array Value)[j]?):=by
  intro y hy j
  rw [hbx,hy.cell (p:=⟨w.heap.size,j,none⟩) (by show w.heap.size < _; rw [Z1.out]; omega),hW1]
  simp [go_sem]
 have T1:Hid (∀ y,Below W1.heap.size W1 y→y.there (bx+1) 0 3):=by
  intro y hy
  refine there_land ((hy.block _ (by have:=Z1.out; omega)).trans ?_)
  rw [hW1,hbx]
  have h:=heap_alloc_newL (w.alloc (.cells #[.int .i64 t,.slice b1 gs.length kk1,.slice b2 ps.length kk2] 26)) (.cells #[.int .i64 0,.slice none 0 0,.slice none 0 0] 26)
  rw [World.size_alloc] at h
  exact h
 have OK:Hid (Calls Tryz.prog 11 #[.agg #[.int .i64 t,.slice b1 gs.length kk1,.slice b2 ps.length kk2]] W1 fun e w'=>e=.returned (.bool true)∧Below W1.heap.size W1 w'):=by
  refine (P.specLandOk_z t gs ps b1 b2 kk1 kk2 W1 (hA.keep B1.out) hF).mono ?_
  rintro e w' ⟨⟨q,rfl,hq⟩,hb⟩
  exact ⟨by rw [hq.2 hyes],hb⟩
 have CP:Hid (∀ y,Below W1.heap.size W1 y→Calls Tryz.prog 24 #[.agg #[.int .i64 t,.slice b1 gs.length kk1,.slice b2 ps.length kk2]] y fun e w'=>(∃ qs s1 s2,e=.returned (.agg #[.int .i64 t,s1,s2])∧P.Like qs ps∧LdO w' y.heap.size gs qs s1 s2∧C0 gs s1)∧Below y.heap.size y w'):=fun y hy=>l6Copy_c0_z t gs ps b1 b2 kk1 kk2 y (hA.keep (bl_trans B1.out hy)) hF.gl hF.pl hF.ln
 have HWS:Hid (∀ y,Below W1.heap.size W1 y→W.Src y aw cw ws):=fun y hy=>hW.keep (bl_trans B1.out hy)
 have HYES:=hidP hyes
 have HN:=hidP hn
 have WO:Hid (∀ y,Below W1.heap.size W1 y→nameB b=true→Calls Tryz.prog 44 #[.slice aw ws.length cw] y fun e w'=>e=.returned (.bool false)∧Below y.heap.size y w'):=by
  intro y hy q1
  refine (W.specWantsOk_gv aw cw ws y (hW.keep (bl_trans B1.out hy)).gv hwf hwl).mono ?_
  rintro e w' ⟨⟨q,rfl,hq⟩,hb⟩
  refine ⟨?_,hb⟩
  cases q with
  | false=>rfl
  | true=>exact (hn ⟨q1,hq.1 rfl⟩).elim
 clear hyes hn hA hF hW hW1 hwf
 go_enter Tryz.func15,Tryz.ntmps15
 go_wp2_with fail
 rw [← hbx]
 clear hbx
 rw [← HW1.out]
 refine OK.out.mono ?_
 rintro e w2 ⟨rfl,c2⟩
 have D2:=hidP c2
 clear c2
 have MID:∃ P0:World→Prop,P0 w2:=⟨fun _=>True,trivial⟩
 clear MID
 cases q1:nameB b
 ·
  have t0:w2.cell? ⟨bx,0,none⟩=some (.int .i64 t):=K0.out w2 D2.out 0
  have t1:w2.cell? ⟨bx,1,none⟩=some (.slice b1 gs.length kk1):=K0.out w2 D2.out 1
  have t2:w2.cell? ⟨bx,2,none⟩=some (.slice b2 ps.length kk2):=K0.out w2 D2.out 2
  go_wp2_with (go_at_call 25; refine (specName_any _ _ hb).mono ?_; rintro e w' ⟨rfl,hw⟩; have hw2:=hw.symm; subst hw2; clear hw)
  clear t0 t1 t2
  refine (CP.out w2 D2.out).mono ?_
  rintro e w3 ⟨⟨qs,s1,s2,rfl,hlk,hL,hz0⟩,c3⟩
  have HZ0:=hidP hz0
  clear hz0
  have HLK:=hidP hlk
  obtain ⟨a1,p1,rfl⟩:=G.Sl.shape hL.g
  obtain ⟨a2,p2,hs2⟩:=Pr.Sl.shape hL.p.o
  rw [List.length_map] at hs2
  subst hs2
  have HL3:=hidP hL
  have D9:=hidP (bl_trans D2.out c3)
  have ZD:=hidP D2.out.size
  clear hlk hL c3
  have T9:Hid (w3.there (bx+1) 0 3):=T1.out _ D9.out
  go_wp2_with (refine wpList_store_mid (by rfl) 26 _ _ (by rfl) (bx+1) 0 #[.int .i64 t,.slice a1 gs.length p1,.slice a2 qs.length p2] (by rfl) (by rfl) (by exact T9.out) hinfo (by simp [Value.oneCell']) ?_)
  have hrg:=World.rangeAt_setCells_same w3 (bx+1) 0 [.int .i64 t,.slice a1 gs.length p1,.slice a2 qs.length p2] (by exact T9.out)
  have e0:=hrg 0 _ rfl
  have e1:=hrg 1 _ rfl
  have e2:=hrg 2 _ rfl
  simp only [Nat.zero_add] at e0 e1 e2
  have hx:Ex (bx+1) w3 (w3.setCells (bx+1) 0 [.int .i64 t,.slice a1 gs.length p1,.slice a2 qs.length p2]):=(Ex.refl _ _).cells _ _
  have hBX:=HBX.out
  have hz:=Z1.out
  have hd:=D9.out.size
  exact bodyPost_ret (v:=.tuple #[.agg #[.int .i64 t,.slice a1 gs.length p1,.slice a2 qs.length p2],.int .i64 2]) (by simp [results,Tryz.results15,go_sem,e0,e1,e2]) rfl ⟨⟨t,gs,qs,_,_,2,rfl,Or.inr ⟨HYES.out,rfl,rfl,Or.inl ⟨HN.out,HLK.out,rfl⟩⟩,(HL3.out.off (off_of_ex hx) (fun g hg e=>by have h1:=(HL3.out.lt g hg).1; have h2:=ZD.out; omega)).low (by have h2:=ZD.out; omega),HZ0.out⟩,Ex.mono (bl_trans B1.out D9.out) hx (by omega)⟩
 ·
  go_wp2_with (go_at_call 25; refine (specName_any _ _ hb).mono ?_; rintro e w' ⟨rfl,hw⟩; have hw2:=hw.symm; subst hw2; clear hw)
  refine (WO.out w2 D2.out q1).mono ?_
  rintro e w5 ⟨rfl,c5⟩
  have D5:=hidP (bl_trans D2.out c5)
  clear c5 D2
  have D2:=hidP D5.out
  have t0:w5.cell? ⟨bx,0,none⟩=some (.int .i64 t):=K0.out w5 D5.out 0
  have t1:w5.cell? ⟨bx,1,none⟩=some (.slice b1 gs.length kk1):=K0.out w5 D5.out 1
  have t2:w5.cell? ⟨bx,2,none⟩=some (.slice b2 ps.length kk2):=K0.out w5 D5.out 2
  go_wp2_with fail
  clear t0 t1 t2
  refine (CP.out w5 D2.out).mono ?_
  rintro e w3 ⟨⟨qs,s1,s2,rfl,hlk,hL,hz0⟩,c3⟩
  have HZ0:=hidP hz0
  clear hz0
  have HLK:=hidP hlk
  obtain ⟨a1,p1,rfl⟩:=G.Sl.shape hL.g
  obtain ⟨a2,p2,hs2⟩:=Pr.Sl.shape hL.p.o
  rw [List.length_map] at hs2
  subst hs2
  have HL3:=hidP hL
  have D9:=hidP (bl_trans D2.out c3)
  have ZD:=hidP D2.out.size
  clear hlk hL c3
  have T9:Hid (w3.there (bx+1) 0 3):=T1.out _ D9.out
  go_wp2_with (refine wpList_store_mid (by rfl) 26 _ _ (by rfl) (bx+1) 0 #[.int .i64 t,.slice a1 gs.length p1,.slice a2 qs.length p2] (by rfl) (by rfl) (by exact T9.out) hinfo (by simp [Value.oneCell']) ?_)
  have hrg:=World.rangeAt_setCells_same w3 (bx+1) 0 [.int .i64 t,.slice a1 gs.length p1,.slice a2 qs.length p2] (by exact T9.out)
  have e0:=hrg 0 _ rfl
  have e1:=hrg 1 _ rfl
  have e2:=hrg 2 _ rfl
  simp only [Nat.zero_add] at e0 e1 e2
  have hx:Ex (bx+1) w3 (w3.setCells (bx+1) 0 [.int .i64 t,.slice a1 gs.length p1,.slice a2 qs.length p2]):=(Ex.refl _ _).cells _ _
  have hBX:=HBX.out
  have hz:=Z1.out
  have hd:=D9.out.size
  exact bodyPost_ret (v:=.tuple #[.agg #[.int .i64 t,.slice a1 gs.length p1,.slice a2 qs.length p2],.int .i64 2]) (by simp [results,Tryz.results15,go_sem,e0,e1,e2]) rfl ⟨⟨t,gs,qs,_,_,2,rfl,Or.inr ⟨HYES.out,rfl,rfl,Or.inl ⟨HN.out,HLK.out,rfl⟩⟩,(HL3.out.off (off_of_ex hx) (fun g hg e=>by have h1:=(HL3.out.lt g hg).1; have h2:=ZD.out; omega)).low (by have h2:=ZD.out; omega),HZ0.out⟩,Ex.mono (bl_trans B1.out D9.out) hx (by omega)⟩
set_option maxRecDepth 4000 in
set_option maxHeartbeats 4000000 in
theorem specPut_go_z (t:Int) (gs:List G.GrantD) (ps:List P.PlaceD) (b1 b2:Option Addr) (kk1 kk2:Nat) (b:ByteArray) (aw:Option Addr) (cw:Nat) (ws:List W.WantD) (w:World) (hA:P.LandZ w gs ps b1 b2 kk1) (hF:P.Fit gs ps) (hW:W.Src w aw cw ws) (hb:b.size≤maxLen) (hwf:∀ r∈ws,r.fits) (hwl:ws.length≤1048576) (hyes:P.LandSay t gs ps) (hn:nameB b=true∧(ws.length≤10∧W.AllW ws ws.length)) :
  Calls Tryz.prog 15 #[.agg #[.int .i64 t,.slice b1 gs.length kk1,.slice b2 ps.length kk2],.string b,.slice aw ws.length cw] w fun e w'=>(∃ t' gs' qs s1 s2 code,e=.returned (.tuple #[.agg #[.int .i64 t',s1,s2],.int .i64 code])∧PutSay t gs ps b ws t' gs' qs code∧LdO w' w.heap.size gs' qs s1 s2∧C0 gs' s1)∧Below w.heap.size w w':=by
 have hinfo:(Tryz.prog.info? 26).map (·.size)=some 3:=by kernel_rfl
 obtain ⟨W1,hW1⟩:∃ W1,W1=(w.alloc (.cells #[.int .i64 t,.slice b1 gs.length kk1,.slice b2 ps.length kk2] 26)).alloc (.cells #[.int .i64 0,.slice none 0 0,.slice none 0 0] 26):=⟨_,rfl⟩
 have HW1:=hidP hW1
 have B1:Hid (Below w.heap.size w W1):=by rw [hW1]; exact bl_alloc (bl_alloc bR _) _
 have Z1:Hid (W1.heap.size=w.heap.size+2):=by rw [hW1]; show _=_; simp
 obtain ⟨bx,hbx⟩:∃ bx,bx=w.heap.size:=⟨_,rfl⟩
 have HBX:=hidP hbx
 have K0:Hid (∀ y,Below W1.heap.size W1 y→∀ j,y.cell? ⟨bx,j,none⟩=(#[.int .i64 t,.slice b1 gs.length kk1,.slice b2 ps.length kk2]:Array Value)[j]?):=by
  intro y hy j
  rw [hbx,hy.cell (p:=⟨w.heap.size,j,none⟩) (by show w.heap.size < _; rw [Z1.out]; omega),hW1]
  simp [go_sem]
 have T1:Hid (∀ y,Below W1.heap.size W1 y→y.there (bx+1) 0 3):=by
  intro y hy
  refine there_land ((hy.block _ (by have:=Z1.out; omega)).trans ?_)
  rw [hW1,hbx]
  have h:=heap_alloc_newL (w.alloc (.cells #[.int .i64 t,.slice b1 gs.length kk1,.slice b2 ps.length kk2] 26)) (.cells #[.int .i64 0,.slice none 0 0,.slice none 0 0] 26)
  rw [World.size_alloc] at h
  exact h
 have OK:Hid (Calls Tryz.prog 11 #[.agg #[.int .i64 t,.slice b1 gs.length kk1,.slice b2 ps.length kk2]] W1 fun e w'=>e=.returned (.bool true)∧Below W1.heap.size W1 w'):=by
  refine (P.specLandOk_z t gs ps b1 b2 kk1 kk2 W1 (hA.keep B1.out) hF).mono ?_
  rintro e w' ⟨⟨q,rfl,hq⟩,hb⟩
  exact ⟨by rw [hq.2 hyes],hb⟩
 have CP:Hid (∀ y,Below W1.heap.size W1 y→Calls Tryz.prog 24 #[.agg #[.int .i64 t,.slice b1 gs.length kk1,.slice b2 ps.length kk2]] y fun e w'=>(∃ qs s1 s2,e=.returned (.agg #[.int .i64 t,s1,s2])∧P.Like qs ps∧LdO w' y.heap.size gs qs s1 s2∧CapOk s2∧C0 gs s1)∧Below y.heap.size y w'):=fun y hy=>l6Copy_k0_z t gs ps b1 b2 kk1 kk2 y (hA.keep (bl_trans B1.out hy)) hF.gl hF.pl hF.ln
 have HWS:Hid (∀ y,Below W1.heap.size W1 y→W.Src y aw cw ws):=fun y hy=>hW.keep (bl_trans B1.out hy)
 have HYES:=hidP hyes
 have q1:=hn.1
 have HN:=hidP hn
 have HPL:=hidP hyes.2.2.1.1
 have WO:Hid (∀ y,Below W1.heap.size W1 y→Calls Tryz.prog 44 #[.slice aw ws.length cw] y fun e w'=>e=.returned (.bool true)∧Below y.heap.size y w'):=by
  intro y hy
  refine (W.specWantsOk_gv aw cw ws y (hW.keep (bl_trans B1.out hy)).gv hwf hwl).mono ?_
  rintro e w' ⟨⟨q,rfl,hq⟩,hb⟩
  exact ⟨by rw [hq.2 hn.2],hb⟩
 have FIT:Hid (∀ (qs:List P.PlaceD) (av:Option Addr) (cv:Nat),P.Like qs ps→P.Fit gs (putP b av cv ws qs)):=fun qs av cv hk=>fit_put2 av cv hF hk hb hwf hwl hyes.2.2.1.1
 clear hyes hn hA hF hW hW1 hwf
 go_enter Tryz.func15,Tryz.ntmps15
 go_wp2_with fail
 rw [← hbx]
 clear hbx
 rw [← HW1.out]
 refine OK.out.mono ?_
 rintro e w2 ⟨rfl,c2⟩
 have D2:=hidP c2
 clear c2
 go_wp2_with (go_at_call 25; refine (specName_any _ _ hb).mono ?_; rintro e w' ⟨rfl,hw⟩; have hw2:=hw.symm; subst hw2; clear hw)
 refine (WO.out w2 D2.out).mono ?_
 rintro e w3 ⟨rfl,c3⟩
 have D3:=hidP (bl_trans D2.out c3)
 clear c3 D2
 have t0:w3.cell? ⟨bx,0,none⟩=some (.int .i64 t):=K0.out w3 D3.out 0
 have t1:w3.cell? ⟨bx,1,none⟩=some (.slice b1 gs.length kk1):=K0.out w3 D3.out 1
 have t2:w3.cell? ⟨bx,2,none⟩=some (.slice b2 ps.length kk2):=K0.out w3 D3.out 2
 go_wp2_with fail
 clear t0 t1 t2
 refine (CP.out w3 D3.out).mono ?_
 rintro e w4 ⟨⟨qs,s1,s2,rfl,hlk,hL,hcap,hz0⟩,c4⟩
 have HZ0:=hidP hz0
 clear hz0
 have HLK:=hidP hlk
 obtain ⟨a1,p1,rfl⟩:=G.Sl.shape hL.g
 obtain ⟨a2,p2,hs2⟩:=Pr.Sl.shape hL.p.o
 rw [List.length_map] at hs2
 subst hs2
 have hcp:qs.length≤p2:=hcap _ _ _ rfl
 have hq4:qs.length≤4:=by rw [hlk.len]; exact HPL.out
 have HL4:=hidP hL
 have D4:=hidP (bl_trans D3.out c4)
 have C4:=hidP c4
 obtain ⟨X0,hX0⟩:∃ X0,X0=w4.alloc (.cells #[.int .i64 t,.slice a1 gs.length p1,.slice a2 qs.length p2] 26):=⟨_,rfl⟩
 have HX0:=hidP hX0
 have BX0:Hid (Below w4.heap.size w4 X0):=by rw [hX0]; exact bl_alloc bR _
 have KX:Hid (∀ j,X0.cell? ⟨w4.heap.size,j,none⟩=(#[.int .i64 t,.slice a1 gs.length p1,.slice a2 qs.length p2]:Array Value)[j]?):=by
  intro j
  rw [hX0]
  simp [go_sem]
 have FX0:Hid (X0.frozen? ⟨w4.heap.size,2,none⟩=false):=by rw [hX0]; show _=_; simp [go_sem]
 have LX:Hid (LdO X0 w3.heap.size gs qs (.slice a1 gs.length p1) (.slice a2 qs.length p2)):=by rw [hX0]; exact hL.keep (bl_alloc bR _)
 have ZX:Hid (w4.heap.size < X0.heap.size):=by rw [hX0]; show _ < _; simp
 clear hlk hL hcap c4 hX0
 go_upto_block 0 with fail
 rw [← HX0.out]
 go_cut [9] (fun v wx=>∃ k:Nat,v=.int .i64 (k:Int)∧wx=X0∧Hid (k≤qs.length)∧Hid (∀ (j:Nat) q,j < k→qs[j]?=some q→Op.bytesLess q.b.toList b.toList=true)∧Hid (∀ q,qs[k]?=some q→Op.bytesLess q.b.toList b.toList=false))
 case first =>
  go_wp2_with fail
  go_loopw [9] (fun i wx=>∃ (k:Nat),k≤qs.length∧i=.int .i64 (k:Int)∧wx=X0∧Hid (∀ (j:Nat) q,j < k→qs[j]?=some q→Op.bytesLess q.b.toList b.toList=true)) (fun i _=>qs.length - (intOf i).toNat)
  case atStart=>exact ⟨0,Nat.zero_le _,rfl,rfl,fun j q hj=>absurd hj (by omega)⟩
  obtain ⟨k,hk,rfl,hwx,Hl⟩:=hrel
  subst hwx
  have kx2:wr.cell? ⟨w4.heap.size,2,none⟩=some (.slice a2 qs.length p2):=KX.out 2
  by_cases hlt:k < qs.length
  ·
   have hki:(k:Int) < (qs.length:Int):=by omega
   have hk0:(0:Int)≤(k:Int):=by omega
   obtain ⟨q,hq⟩:∃ q,qs[k]?=some q:=⟨qs[k],List.getElem?_eq_getElem hlt⟩
   obtain ⟨gL,capL,hvL,hgL,-,-⟩:=LX.out.p.o.row (show (qs.map Pr.raw)[k]?=some (Pr.raw q) by rw [List.getElem?_map,hq]; rfl)
   injection hvL with e1 e2 e3
   subst e1 e3
   clear e2
   obtain ⟨-,⟨r0,r1,r2⟩,-⟩:=rowPl LX.out.p hq
   have HQ:=hidP hq
   clear hq
   cases hc:Op.bytesLess q.b.toList b.toList
   ·
    go_wp2_with fail
    go_meet
    case rel=>exact ⟨k,rfl,rfl,hk,Hl,fun r hr=>by rw [HQ.out] at hr; cases hr; exact hc⟩
   go_wp2
   refine ⟨⟨k+1,by omega,by go_num,by first | rfl | trivial,fun j r hj hr=>?_⟩,by simp [intOf]; omega⟩
   by_cases e:j=k
   ·
    subst e
    rw [HQ.out] at hr
    cases hr
    exact hc
   exact Hl.out j r (by omega) hr
  have hki:¬ (k:Int) < (qs.length:Int):=by omega
  go_wp2_with fail
  go_meet
  case rel=>exact ⟨k,by first | rfl | trivial,by first | rfl | trivial,hk,Hl,fun r hr=>by rw [List.getElem?_eq_none (by omega)] at hr; cases hr⟩
 case rest =>
  obtain ⟨k,rfl,hwc,Hk,Hl,Hg⟩:=hcut
  have hwc2:=hwc.symm
  subst hwc2
  clear hwc
  have hsw:W.Src X0 aw cw ws:=HWS.out X0 (bl_trans D4.out BX0.out)
  have HSW:=hidP hsw
  clear hsw
  have hb0:=bld0W
  obtain ⟨aR,cR,hR,HR⟩:=rst_from LX.out.p.o (List.length_map _) hcp Hk.out
  have HRf:Hid (∀ wx,Sem.run Tryz.prog (Instr.slice 24 (.slice a2 qs.length p2) (some (.int .i64 (k:Int))) none none) wx=.ok (.slice aR (qs.length - k) cR) wx):=fun wx=>by
   rw [run_from a2 qs.length p2 k Hk.out wx,hR,List.length_drop,List.length_map]
  have hrf:=HRf.out
  have kx2:X0.cell? ⟨w4.heap.size,2,none⟩=some (.slice a2 qs.length p2):=KX.out 2
  have HR9:=hidP hR
  have HRS:Hid (Rst X0 (.slice aR (qs.length - k) cR) ((qs.map Pr.raw).drop k)):=⟨aR,cR,by rw [List.length_drop,List.length_map],HR⟩
  clear hR HR
  go_upto_region 10 with (at_builtin; refine W.wp_copyC X0 rfl _ _ rfl ws aw cw rfl rfl HSW.out hwl ?_; intro s' w5 hs' hcp' hb'; obtain ⟨av,cv,rfl⟩:=W.Sl.shape hs'; have HCV:Hid (ws.length≤cv):=hcp' _ _ _ rfl; clear hcp'; have HS5:Hid (W.Sl w5 (.slice av ws.length cv) ws X0.heap.size):=hs'; have HB5:Hid (Below X0.heap.size X0 w5):=hb'; have kx5:w5.cell? ⟨w4.heap.size,2,none⟩=some (.slice a2 qs.length p2):=(hb'.cell (p:=⟨w4.heap.size,2,none⟩) (World.block_lt_of_cell? X0 _ kx2)).trans kx2; clear hs' hb' kx2)
  clear hb0 kx5
  obtain ⟨pb,hpb⟩:∃ pb,pb=w5.heap.size:=⟨_,rfl⟩
  have HPB:=hidP hpb
  obtain ⟨X1,hX1⟩:∃ X1,X1=w5.alloc (.cells #[.string b,.int .i64 1,.slice av ws.length cv] 54):=⟨_,rfl⟩
  have HX1:=hidP hX1
  have BX1:Hid (Below w5.heap.size w5 X1):=by rw [hX1]; exact bl_alloc bR _
  have KP:Hid (∀ j,X1.cell? ⟨pb,j,none⟩=(#[.string b,.int .i64 1,.slice av ws.length cv]:Array Value)[j]?):=by
   intro j
   rw [hX1,hpb]
   simp [go_sem]
  have ZP:Hid (pb < X1.heap.size):=by rw [hX1,hpb]; show _ < _; simp
  have FP:Hid (X1.frozen? ⟨pb,1,none⟩=false):=by rw [hX1,hpb]; show _=_; simp [go_sem]
  have BC1:=hidP (bl_trans HB5.out BX1.out)
  have K1:Hid (∀ j,X1.cell? ⟨w4.heap.size,j,none⟩=(#[.int .i64 t,.slice a1 gs.length p1,.slice a2 qs.length p2]:Array Value)[j]?):=fun j=>(BC1.out.cell (p:=⟨w4.heap.size,j,none⟩) ZX.out).trans (KX.out j)
  have L1:=hidP (LX.out.keep BC1.out)
  rw [← HX1.out,← hpb]
  clear hX1 hpb
  have kx1:X1.cell? ⟨w4.heap.size,2,none⟩=some (.slice a2 qs.length p2):=K1.out 2
  go_upto_region 11 with fail
  clear hrf kx1
  obtain ⟨cb,hcb⟩:∃ cb:Bool,cb=(match qs[k]? with | some q=>q.b.toList == b.toList | none=>false):=⟨_,rfl⟩
  have HCB:=hidP hcb
  clear hcb
  go_cut [64] (fun v wx=>v=.bool cb∧wx=X1)
  case first =>
   by_cases hlt:k < qs.length
   ·
    have hn0:(0:Int) < ((qs.length - k:Nat):Int):=by omega
    obtain ⟨q,hq⟩:∃ q,qs[k]?=some q:=⟨qs[k],List.getElem?_eq_getElem hlt⟩
    obtain ⟨gL,capL,hvL,hgL,-,-⟩:=L1.out.p.o.row (show (qs.map Pr.raw)[k]?=some (Pr.raw q) by rw [List.getElem?_map,hq]; rfl)
    injection hvL with e1 e2 e3
    subst e1 e3
    clear e2
    obtain ⟨-,⟨r0,r1,r2⟩,-⟩:=rowPl L1.out.p hq
    have haR:aR=some ⟨gL,k * 3,none⟩:=by
     have h:=HR9.out
     unfold sliced at h
     rw [if_neg (by omega),Option.map_some,addr_add,Nat.zero_add] at h
     injection h with h1 h2 h3
     exact h1.symm
    subst haR
    have hcb:=HCB.out
    rw [hq] at hcb
    simp only at hcb
    subst hcb
    clear hq
    go_wp2_with fail
    go_meet
    case rel=>exact ⟨by first | rfl | trivial,by first | rfl | trivial⟩
   have hn0:¬ (0:Int) < ((qs.length - k:Nat):Int):=by omega
   have hcb:=HCB.out
   rw [List.getElem?_eq_none (by omega)] at hcb
   simp only at hcb
   subst hcb
   go_wp2_with fail
   go_meet
   case rel=>exact ⟨by first | rfl | trivial,by first | rfl | trivial⟩
  obtain ⟨h64,hw64⟩:=hcut
  have hw65:=hw64.symm
  subst h64 hw65
  clear hw64
  go_upto_if 64 with fail
  go_cut [11] (fun v wx=>∃ (k':Nat) (sv:Int) (aF:Option Addr) (cF:Nat),v=.slice aF (qs.length - k') cF∧Hid (CutAt b qs k k' sv)∧Hid (Rst X0 (.slice aF (qs.length - k') cF) ((qs.map Pr.raw).drop k'))∧Hid (∀ j,wx.cell? ⟨pb,j,none⟩=(#[.string b,.int .i64 sv,.slice av ws.length cv]:Array Value)[j]?)∧Hid (Below w5.heap.size w5 wx))
  case first =>
   cases cb
   ·
    go_wp2_with fail
    go_meet
    refine ⟨k,1,aR,cR,by first | rfl | trivial,⟨Hk.out,Hl.out,Or.inl ⟨rfl,rfl,fun q hq=>⟨Hg.out q hq, ?_⟩⟩⟩,HRS.out,KP.out,BX1.out⟩
    have h:=HCB.out
    rw [hq] at h
    exact h.symm
   obtain ⟨q,hq,heq⟩:∃ q,qs[k]?=some q∧(q.b.toList == b.toList)=true:=by
    have h:=HCB.out
    cases hx:qs[k]? with
    | none=>rw [hx] at h; cases h
    | some q=>rw [hx] at h; exact ⟨q,rfl,h.symm⟩
   have hlt:k < qs.length:=(List.getElem?_eq_some_iff.1 hq).1
   obtain ⟨gL,capL,hvL,hgL,-,-⟩:=L1.out.p.o.row (show (qs.map Pr.raw)[k]?=some (Pr.raw q) by rw [List.getElem?_map,hq]; rfl)
   injection hvL with e1 e2 e3
   subst e1 e3
   clear e2
   obtain ⟨-,⟨r0,r1,r2⟩,-⟩:=rowPl L1.out.p hq
   have haR:aR=some ⟨gL,k * 3,none⟩∧cR=p2 - k:=by
    have h:=HR9.out
    unfold sliced at h
    rw [if_neg (by omega),Option.map_some,addr_add,Nat.zero_add] at h
    injection h with h1 h2 h3
    exact ⟨h1.symm,h3.symm⟩
   obtain ⟨rfl,rfl⟩:=haR
   have hn0:(0:Int) < ((qs.length - k:Nat):Int):=by omega
   obtain ⟨aT,cT,hT,hRT⟩:=rst_tail (k:=k) LX.out.p.o (List.length_map _) hcp hlt rfl
   have elen:((qs.map Pr.raw).drop (k+1)).length=qs.length - (k+1):=by rw [List.length_drop,List.length_map]
   have HRT:Hid (Rst X0 (.slice aT (qs.length - (k+1)) cT) ((qs.map Pr.raw).drop (k+1))):=⟨aT,cT,by rw [elen],hRT⟩
   have hrt:∀ wx,Sem.run Tryz.prog (Instr.slice 24 (.slice (some ⟨gL,k * 3,none⟩) (qs.length - k) (p2 - k)) (some (.int .i64 1)) none none) wx=.ok (.slice aT (qs.length - (k+1)) cT) wx:=fun wx=>by
    have h:=run_from (some ⟨gL,k * 3,none⟩) (qs.length - k) (p2 - k) 1 (by omega) wx
    rw [hT,elen] at h
    exact h
   have hqs:1≤q.s∧q.s≤1000000:=by
    obtain ⟨p,hp,-,e,-⟩:=HLK.out.get hq
    have h:inB p.s 1 1000000=true:=(HYES.out.2.2.1.2.2 p (List.mem_of_getElem? hp)).2.1
    unfold inB at h
    rw [Bool.and_eq_true,decide_eq_true_eq,decide_eq_true_eq] at h
    rw [e]
    exact h
   have HQ:=hidP hq
   have HEQ:=hidP heq
   have kp1:X1.cell? ⟨pb,1,none⟩=some (.int .i64 1):=KP.out 1
   have fp1:=FP.out
   clear hT hRT elen hq heq r0 r2
   go_wp2_with fail
   go_meet
   case rel=>exact ⟨k+1,q.s+1,aT,cT,by first | rfl | trivial,⟨Hk.out,Hl.out,Or.inr ⟨q,HQ.out,Hg.out q HQ.out,HEQ.out,rfl,rfl⟩⟩,HRT.out,set_box _ KP.out (show 1 < 3 by omega),Ex.mono BX1.out ((Ex.refl _ _).set 1 _) (by have:=HPB.out; omega)⟩
  obtain ⟨k',sv,aF,cF,h11,HCA,HRF,KP2,BW2⟩:=hcut
  subst h11
  obtain ⟨X2,hX2⟩:∃ X2:World,X2=wc:=⟨_,rfl⟩
  subst hX2
  have B02:=hidP (bl_trans HB5.out BW2.out)
  have KX2:Hid (∀ y,Below X2.heap.size X2 y→∀ j,y.cell? ⟨w4.heap.size,j,none⟩=(#[.int .i64 t,.slice a1 gs.length p1,.slice a2 qs.length p2]:Array Value)[j]?):=fun y hy j=>((bl_trans B02.out hy).cell (p:=⟨w4.heap.size,j,none⟩) ZX.out).trans (KX.out j)
  have FX2:Hid (∀ y,Below X2.heap.size X2 y→y.frozen? ⟨w4.heap.size,2,none⟩=false):=fun y hy=>((bl_trans B02.out hy).frozen (p:=⟨w4.heap.size,2,none⟩) ZX.out).trans FX0.out
  have ZP2:Hid (pb < X2.heap.size):=by
   exact World.block_lt_of_cell? X2 ⟨pb,0,none⟩ (u:=.string b) (KP2.out 0)
  have KPY:Hid (∀ y,Below X2.heap.size X2 y→∀ j,y.cell? ⟨pb,j,none⟩=(#[.string b,.int .i64 sv,.slice av ws.length cv]:Array Value)[j]?):=fun y hy j=>(hy.cell (p:=⟨pb,j,none⟩) ZP2.out).trans (KP2.out j)
  obtain ⟨aH,cH,hH,hRH⟩:=rst_to LX.out.p.o (List.length_map _) hcp Hk.out
  have elk:((qs.map Pr.raw).take k).length=k:=by
   have:=Hk.out
   rw [List.length_take,List.length_map]
   omega
  have HRH:Hid (Rst X0 (.slice aH k cH) ((qs.map Pr.raw).take k)):=⟨aH,cH,by rw [elk],hRH⟩
  have HTO:Hid (∀ wx,Sem.run Tryz.prog (Instr.slice 24 (.slice a2 qs.length p2) none (some (.int .i64 (k:Int))) none) wx=.ok (.slice aH k cH) wx):=fun wx=>by
   have:=Hk.out
   rw [run_to a2 qs.length p2 k (by omega) wx,hH,elk]
  clear hH hRH
  obtain ⟨Q9,hQ9⟩:∃ Q9:List P.PlaceD,Q9=qs.take k++(⟨b,sv,av,cv,ws⟩:P.PlaceD) :: qs.drop k':=⟨_,rfl⟩
  have HQ9:=hidP hQ9
  have HM:Hid (((qs.map Pr.raw).take k)++[Pr.raw (⟨b,sv,av,cv,ws⟩:P.PlaceD)]++((qs.map Pr.raw).drop k')=Q9.map Pr.raw):=by
   show _=_
   rw [hQ9]
   simp [List.map_take,List.map_drop]
  have HCK:Hid (k≤k'∧k'≤k+1):=by
   obtain ⟨-,-,h⟩:=HCA.out
   rcases h with ⟨rfl,-⟩ | ⟨q,-,-,-,rfl,-⟩
   · exact ⟨Nat.le_refl _,Nat.le_succ _⟩
   exact ⟨Nat.le_succ _,Nat.le_refl _⟩
  have HW3:Hid (W1.heap.size≤w3.heap.size∧w3.heap.size≤w4.heap.size∧w4.heap.size < X0.heap.size):=⟨D3.out.size,C4.out.size,ZX.out⟩
  clear hQ9 elk
  go_upto_region 14 with fail
  go_cut [] (fun wx=>∃ (a9:Option Addr) (c9:Nat),Hid (∀ j,wx.cell? ⟨w4.heap.size,j,none⟩=(#[.int .i64 t,.slice a1 gs.length p1,.slice a9 Q9.length c9]:Array Value)[j]?)∧Hid (LdO wx w3.heap.size gs Q9 (.slice a1 gs.length p1) (.slice a9 Q9.length c9))∧Hid (Below W1.heap.size W1 wx))
  case first =>
   refine wp_region_any (by kernel_rfl) ?_
   refine reg_invL sl14 12 0 (G14 w4.heap.size X2.heap.size a2 qs.length p2 k aH cH (.slice aF (qs.length - k') cF) (⟨b,sv,av,cv,ws⟩:P.PlaceD) ((qs.map Pr.raw).take k) ((qs.map Pr.raw).drop k')) (fun y=>Below X2.heap.size X2 y) (fun _ y=>∃ (y0:World) (a9:Option Addr) (c9:Nat),y=y0.setCell ⟨w4.heap.size,2,none⟩ (.slice a9 Q9.length c9)∧Below X2.heap.size X2 y0∧OQ X2.heap.size (Q9.map Pr.raw) y0 (.slice a9 Q9.length c9)) (by decide) rfl bD ?done ?step
   case done =>
    intro a y hdf hsz hout hE
    obtain ⟨y0,a9,c9,rfl,hy,ho⟩:=hE
    obtain ⟨l',hl',ha⟩:=frameP_of (lo:=73) (n:=12) hdf hsz (fun j hj=>hout j (fun i hi=>sl14_far j hj i hi)) (lE rfl)
    have HY0:=hidP hy
    have HO0:=hidP ho
    clear hdf hsz hout hy ho
    subst ha
    obtain ⟨v0,l0,rfl,hl0⟩:=lenP_succ hl'
    obtain ⟨v1,l1,rfl,hl1⟩:=lenP_succ hl0
    obtain ⟨v2,l2,rfl,hl2⟩:=lenP_succ hl1
    obtain ⟨v3,l3,rfl,hl3⟩:=lenP_succ hl2
    obtain ⟨v4,l4,rfl,hl4⟩:=lenP_succ hl3
    obtain ⟨v5,l5,rfl,hl5⟩:=lenP_succ hl4
    obtain ⟨v6,l6,rfl,hl6⟩:=lenP_succ hl5
    obtain ⟨v7,l7,rfl,hl7⟩:=lenP_succ hl6
    obtain ⟨v8,l8,rfl,hl8⟩:=lenP_succ hl7
    obtain ⟨v9,l9,rfl,hl9⟩:=lenP_succ hl8
    obtain ⟨v10,l10,rfl,hl10⟩:=lenP_succ hl9
    obtain ⟨v11,l11,rfl,hl11⟩:=lenP_succ hl10
    obtain rfl:=lenP_zero hl11
    simp only [tkd,Nat.reduceAdd]
    go_wp2_with fail
    go_meet
    have h3:=HW3.out
    have hx:Ex w4.heap.size y0 (y0.setCell ⟨w4.heap.size,2,none⟩ (.slice a9 Q9.length c9)):=(Ex.refl _ _).set _ _
    have hsz2:=BW2.out.size
    have hsz5:=HB5.out.size
    have ho:=HO0.out
    rw [HQ9.out] at ho
    have hL:=ldo_cut (np:=(⟨b,sv,av,cv,ws⟩:P.PlaceD)) LX.out HB5.out HS5.out (bl_trans BW2.out HY0.out) hsz2 HCK.out.1 Hk.out (by omega) ho HCV.out
    have hbs:=bs_cut (B:=0) (np:=(⟨b,sv,av,cv,ws⟩:P.PlaceD)) (gs:=gs) (s1:=.slice a1 gs.length p1) (s2:=.slice a2 qs.length p2) HS5.out hsz5 hsz2 ho
    rw [← HQ9.out] at hL hbs
    refine ⟨a9,c9,set_box _ (KX2.out y0 HY0.out) (show 2 < 3 by omega),hL.off (off_of_ex hx) (fun g hg e=>?_),Ex.mono (bl_trans (bl_trans D4.out BX0.out) (bl_trans B02.out HY0.out)) hx (by omega)⟩
    rcases hbs g hg with h | h
    ·
     have:=(HL4.out.lt g h).2
     omega
    omega
   intro listed x y i hI hi hlt
   have ho:=ready_open hi
   have HLZ:=hidP hI.lz
   have HJ:=hidP hI
   have HI:=hidP hi
   have HO:=hidP ho
   obtain rfl | rfl | rfl | rfl | rfl | rfl | rfl | rfl | rfl | rfl | rfl | rfl | rfl:i=0∨i=1∨i=2∨i=3∨i=4∨i=5∨i=6∨i=7∨i=8∨i=9∨i=10∨i=11∨i=12:=by omega
   ·
    have hn:=ntr hI.tr ho [10,8,5,0] 12 rfl rfl
    have hb:=bld0P y
    have HD:=hidP (hI.d hn)
    clear hi hI ho
    refine op9 fun K hK=>?_
    go_simp
    have hbl:Below y.heap.size y (y.alloc (.cells #[] 54)):=bl_alloc bR _
    exact hK.out _ _ (HJ.out.put HI.out (by omega) hn (lE rfl) (sl14_inj _ (by omega)) (fun _=>⟨y.heap.size,rfl,rfl,Or.inr ⟨y.heap.size,0,#[],rfl,HD.out.size,heap_alloc_newL y _,Nat.le_refl _,Nat.zero_le _,rfl,rfl⟩⟩) (fun j u _ _ _ h=>G14.keep hbl (by rw [HLZ.out]; omega) j u h) (bl_trans HD.out hbl))
   ·
    have hn:=ntr hI.tr ho [10,8,5,4,2,1] 12 rfl rfl
    have e1:x.tmps[8]?.getD undef=.pointer (some ⟨w4.heap.size,0,none⟩):=ev_tmp (hI.out 8 (fun i hi=>sl14_far 8 (by omega) i hi))
    have HD:=hidP (hI.d hn)
    clear hi hI ho
    refine op9 fun K hK=>?_
    go_simp
    exact hK.out _ _ (HJ.out.same HI.out (by omega) hn (lE rfl) (sl14_inj _ (by omega)) (rfl) (fun j u _ _ _ h=>G14.keep bR (by rw [HLZ.out]; omega) j u h))
   ·
    have hn:=ntr hI.tr ho [10,8,5,4,2] 12 rfl rfl
    have gf1:=hI.good 1 (by omega) (wO hi) hn
    have e1:x.tmps[74]?.getD undef=.pointer (some ⟨w4.heap.size,2,none⟩):=ev_tmp gf1
    have k1:y.cell? ⟨w4.heap.size,2,none⟩=some (.slice a2 qs.length p2):=KX2.out y (hI.d hn) 2
    have HD:=hidP (hI.d hn)
    clear hi hI ho
    refine op9 fun K hK=>?_
    go_simp
    exact hK.out _ _ (HJ.out.same HI.out (by omega) hn (lE rfl) (sl14_inj _ (by omega)) (rfl) (fun j u _ _ _ h=>G14.keep bR (by rw [HLZ.out]; omega) j u h))
   ·
    have hn:=ntr hI.tr ho [10,8,5,4,3] 12 rfl rfl
    have e1:x.tmps[9]?.getD undef=.int .i64 (k:Int):=ev_tmp (hI.out 9 (fun i hi=>sl14_far 9 (by omega) i hi))
    have HD:=hidP (hI.d hn)
    clear hi hI ho
    refine op9 fun K hK=>?_
    go_simp
    exact hK.out _ _ (HJ.out.same HI.out (by omega) hn (lE rfl) (sl14_inj _ (by omega)) (rfl) (fun j u _ _ _ h=>G14.keep bR (by rw [HLZ.out]; omega) j u h))
   ·
    have hn:=ntr hI.tr ho [10,8,5,4] 12 rfl rfl
    have gf2:=hI.good 2 (by omega) (wO hi) hn
    have gf3:=hI.good 3 (by omega) (wO hi) hn
    have e1:x.tmps[75]?.getD undef=.slice a2 qs.length p2:=ev_tmp gf2
    have e2:x.tmps[76]?.getD undef=.int .i64 (k:Int):=ev_tmp gf3
    have hto:=HTO.out
    have HD:=hidP (hI.d hn)
    clear hi hI ho
    refine op9 fun K hK=>?_
    go_simp
    exact hK.out _ _ (HJ.out.same HI.out (by omega) hn (lE rfl) (sl14_inj _ (by omega)) (rfl) (fun j u _ _ _ h=>G14.keep bR (by rw [HLZ.out]; omega) j u h))
   ·
    have hn:=ntr hI.tr ho [10,8,5] 12 rfl rfl
    have gf0:=hI.good 0 (by omega) (wO hi) hn
    have gf4:=hI.good 4 (by omega) (wO hi) hn
    have h5n:listed.getD 5 false=false:=noT (fun h=>openT ho h)
    obtain ⟨g0,e1,o1⟩:=gf0 h5n
    have e2:x.tmps.getD 77 undef=.slice aH k cH:=gf4
    rw [e1] at o1
    have HD:=hidP (hI.d hn)
    clear hi hI ho
    refine op9 fun K hK=>?_
    refine copyRst X2.heap.size (.tmp 73) (.tmp 77) rfl ((qs.map Pr.raw).take k) g0 _ e1 o1 HD.out.size e2 (HRH.out.keep (bl_trans B02.out HD.out)) (by rw [List.length_take,List.length_map]; omega) ?_
    intro s' w' o2 b2
    exact hK.out _ _ (HJ.out.put HI.out (by omega) hn (lE rfl) (sl14_inj _ (by omega)) (fun _=>o2) (fun j u _ _ _ h=>G14.keep b2 (by rw [HLZ.out]; omega) j u h) (bl_trans HD.out b2))
   ·
    have hn:=ntr hI.tr ho [10,8,7,6] 12 rfl rfl
    have e1:x.tmps[10]?.getD undef=.pointer (some ⟨pb,0,none⟩):=ev_tmp (hI.out 10 (fun i hi=>sl14_far 10 (by omega) i hi))
    have k0:y.cell? ⟨pb,0,none⟩=some (.string b):=KPY.out y (hI.d hn) 0
    have k1:y.cell? ⟨pb,1,none⟩=some (.int .i64 sv):=KPY.out y (hI.d hn) 1
    have k2:y.cell? ⟨pb,2,none⟩=some (.slice av ws.length cv):=KPY.out y (hI.d hn) 2
    have HD:=hidP (hI.d hn)
    clear hi hI ho
    refine op9 fun K hK=>?_
    go_simp
    exact hK.out _ _ (HJ.out.same HI.out (by omega) hn (lE rfl) (sl14_inj _ (by omega)) (rfl) (fun j u _ _ _ h=>G14.keep bR (by rw [HLZ.out]; omega) j u h))
   ·
    have hn:=ntr hI.tr ho [10,8,7] 12 rfl rfl
    have gf6:=hI.good 6 (by omega) (wO hi) hn
    have e1:x.tmps[79]?.getD undef=.agg #[.string b,.int .i64 sv,.slice av ws.length cv]:=ev_tmp gf6
    have hb:=bld1Pl (⟨b,sv,av,cv,ws⟩:P.PlaceD)
    simp only at hb
    have HD:=hidP (hI.d hn)
    clear hi hI ho
    refine op9 fun K hK=>?_
    go_simp
    have hbl:Below y.heap.size y (y.alloc (.cells (arrPl (⟨b,sv,av,cv,ws⟩:P.PlaceD)) 54)):=bl_alloc bR _
    exact hK.out _ _ (HJ.out.put HI.out (by omega) hn (lE rfl) (sl14_inj _ (by omega)) (fun _=>⟨y.heap.size,rfl,by simp,heap_alloc_newL y _⟩) (fun j u _ _ _ h=>G14.keep hbl (by rw [HLZ.out]; omega) j u h) (bl_trans HD.out hbl))
   ·
    have hn:=ntr hI.tr ho [10,8] 12 rfl rfl
    have gf5:=hI.good 5 (by omega) (wO hi) hn
    have gf7:=hI.good 7 (by omega) (wO hi) hn
    have h8n:listed.getD 8 false=false:=noT (fun h=>openT ho h)
    have h5y:=waits_of hi (i:=8) (j:=5) (by rfl)
    have o1:=gf5 h8n
    obtain ⟨g9,e2,-,c9⟩:=gf7 h8n
    have HD:=hidP (hI.d hn)
    clear hi hI ho
    refine op9 fun K hK=>?_
    refine appRst X2.heap.size (.tmp 78) (.tmp 80) rfl ((qs.map Pr.raw).take k) [Pr.raw (⟨b,sv,av,cv,ws⟩:P.PlaceD)] _ _ rfl o1 HD.out.size e2 (rst_one c9) (by rw [List.length_take,List.length_map]; simp only [List.length_cons,List.length_nil]; omega) ?_
    intro s' w' o2 hg hat
    exact hK.out _ _ (HJ.out.put HI.out (by omega) hn (lE rfl) (sl14_inj _ (by omega)) (fun _=>o2) (fun j u _ hne hl h=>G14.at8 h5y HLZ.out j u hne (fun e=>by subst e; exact openT HO.out (HJ.out.tr 10 8 (by rfl) hl)) h) (Below.grown HD.out hg HD.out.size (fun g hgg=>((oq_sl o1).lt g hgg).1)))
   ·
    have hn:=ntr hI.tr ho [10,9] 12 rfl rfl
    have e1:x.tmps[11]?.getD undef=.slice aF (qs.length - k') cF:=ev_tmp (hI.out 11 (fun i hi=>sl14_far 11 (by omega) i hi))
    have HD:=hidP (hI.d hn)
    clear hi hI ho
    refine op9 fun K hK=>?_
    go_simp
    exact hK.out _ _ (HJ.out.same HI.out (by omega) hn (lE rfl) (sl14_inj _ (by omega)) (rfl) (fun j u _ _ _ h=>G14.keep bR (by rw [HLZ.out]; omega) j u h))
   ·
    have hn:=ntr hI.tr ho [10] 12 rfl rfl
    have gf8:=hI.good 8 (by omega) (wO hi) hn
    have gf9:=hI.good 9 (by omega) (wO hi) hn
    have h10n:listed.getD 10 false=false:=noT (fun h=>openT ho h)
    have h8y:=waits_of hi (i:=10) (j:=8) (by rfl)
    have h5y:=hI.tr 8 5 (by rfl) h8y
    have o1:=gf8 h10n
    have e2:x.tmps.getD 82 undef=.slice aF (qs.length - k') cF:=gf9
    have HD:=hidP (hI.d hn)
    clear hi hI ho
    refine op9 fun K hK=>?_
    refine appRst X2.heap.size (.tmp 81) (.tmp 82) rfl (((qs.map Pr.raw).take k)++[Pr.raw (⟨b,sv,av,cv,ws⟩:P.PlaceD)]) ((qs.map Pr.raw).drop k') _ _ rfl o1 HD.out.size e2 (HRF.out.keep (bl_trans B02.out HD.out)) (by rw [List.length_append,List.length_take,List.length_drop,List.length_map]; simp only [List.length_cons,List.length_nil]; omega) ?_
    intro s' w' o2 hg hat
    exact hK.out _ _ (HJ.out.put HI.out (by omega) hn (lE rfl) (sl14_inj _ (by omega)) o2 (fun j u _ hne hl h=>G14.at10 h5y h8y HLZ.out j u hne h) (Below.grown HD.out hg HD.out.size (fun g hgg=>((oq_sl o1).lt g hgg).1)))
   ·
    have hn:=ntr hI.tr ho [11] 12 rfl rfl
    have e1:x.tmps[8]?.getD undef=.pointer (some ⟨w4.heap.size,0,none⟩):=ev_tmp (hI.out 8 (fun i hi=>sl14_far 8 (by omega) i hi))
    have HD:=hidP (hI.d hn)
    clear hi hI ho
    refine op9 fun K hK=>?_
    go_simp
    exact hK.out _ _ (HJ.out.same HI.out (by omega) hn (lE rfl) (sl14_inj _ (by omega)) (rfl) (fun j u _ _ _ h=>G14.keep bR (by rw [HLZ.out]; omega) j u h))
   have hn:listed.getD 12 false=false:=noT (fun h=>openT ho h)
   have gf10:=hI.good 10 (by omega) (wO hi) hn
   have gf11:=hI.good 11 (by omega) (wO hi) hn
   have o1:OQ X2.heap.size (((qs.map Pr.raw).take k)++[Pr.raw (⟨b,sv,av,cv,ws⟩:P.PlaceD)]++((qs.map Pr.raw).drop k')) y (x.tmps.getD 83 undef):=gf10
   rw [HM.out] at o1
   obtain ⟨a9,c9,hv⟩:=o1.shape
   rw [List.length_map] at hv
   rw [hv] at o1
   have e1:x.tmps[83]?.getD undef=.slice a9 Q9.length c9:=ev_tmp hv
   have e2:x.tmps[84]?.getD undef=.pointer (some ⟨w4.heap.size,2,none⟩):=ev_tmp gf11
   have k1:y.cell? ⟨w4.heap.size,2,none⟩=some (.slice a2 qs.length p2):=KX2.out y (hI.d hn) 2
   have f1:=FX2.out y (hI.d hn)
   have O1:=hidP o1
   clear hv o1 gf10
   have HD:=hidP (hI.d hn)
   clear hi hI ho
   refine op9 fun K hK=>?_
   go_simp
   exact hK.out _ _ (HJ.out.last (u:=undef) HI.out ⟨y,a9,c9,rfl,HD.out,O1.out⟩)
  obtain ⟨a9,c9,KX3,LX3,D5⟩:=hcut
  obtain ⟨X3,hX3⟩:∃ X3:World,X3=wc:=⟨_,rfl⟩
  subst hX3
  have HP9:Hid (Q9=putP b av cv ws qs):=by
   have hs:Ord.Srt keyP qs:=srtP ((P.like_says HLK.out).2 HYES.out).2.2.1.2.1
   have h:=cut_put hs HCA.out av cv ws
   rw [← HQ9.out] at h
   exact h
  have hx0:X3.cell? ⟨w4.heap.size,0,none⟩=some (.int .i64 t):=KX3.out 0
  have hx1:X3.cell? ⟨w4.heap.size,1,none⟩=some (.slice a1 gs.length p1):=KX3.out 1
  have hx2:X3.cell? ⟨w4.heap.size,2,none⟩=some (.slice a9 Q9.length c9):=KX3.out 2
  have OK9:Hid (Calls Tryz.prog 11 #[.agg #[.int .i64 t,.slice a1 gs.length p1,.slice a9 Q9.length c9]] X3 fun e w'=>(∃ q:Bool,e=.returned (.bool q)∧P.SaysL q t gs Q9)∧Below X3.heap.size X3 w'):=P.specLandOk_x t gs Q9 a1 a9 p1 c9 X3 (ldo_landx LX3.out) (by rw [HP9.out]; exact FIT.out qs av cv HLK.out)
  have HLP:Hid (P.Like Q9 (putP b none 0 ws ps)):=by
   rw [HP9.out]
   exact putP_like HLK.out
  have HZX3:Hid (w4.heap.size < X3.heap.size):=World.block_lt_of_cell? X3 _ hx0
  go_wp2_with fail
  clear hx0 hx1 hx2
  refine OK9.out.mono ?_
  rintro e w6 ⟨⟨q,rfl,hq⟩,c6⟩
  have D6:=hidP (bl_trans D5.out c6)
  have C6:=hidP c6
  have HS6:=hidP hq
  clear hq c6
  cases q
  ·
   have t0:w6.cell? ⟨bx,0,none⟩=some (.int .i64 t):=K0.out w6 D6.out 0
   have t1:w6.cell? ⟨bx,1,none⟩=some (.slice b1 gs.length kk1):=K0.out w6 D6.out 1
   have t2:w6.cell? ⟨bx,2,none⟩=some (.slice b2 ps.length kk2):=K0.out w6 D6.out 2
   go_wp2_with fail
   clear t0 t1 t2
   refine (CP.out w6 D6.out).mono ?_
   rintro e w7 ⟨⟨rs,s1,s2,rfl,hlk7,hL7,-,hz7⟩,c7⟩
   have HZ7:=hidP hz7
   clear hz7
   have HLK7:=hidP hlk7
   obtain ⟨d1,e1,rfl⟩:=G.Sl.shape hL7.g
   obtain ⟨d2,e2,hs2⟩:=Pr.Sl.shape hL7.p.o
   rw [List.length_map] at hs2
   subst hs2
   have HL7:=hidP hL7
   have D9:=hidP (bl_trans D6.out c7)
   have ZD:=hidP D6.out.size
   clear hlk7 hL7 c7
   have T9:Hid (w7.there (bx+1) 0 3):=T1.out _ D9.out
   go_wp2_with (refine wpList_store_mid (by rfl) 26 _ _ (by rfl) (bx+1) 0 #[.int .i64 t,.slice d1 gs.length e1,.slice d2 rs.length e2] (by rfl) (by rfl) (by exact T9.out) hinfo (by simp [Value.oneCell']) ?_)
   have hrg:=World.rangeAt_setCells_same w7 (bx+1) 0 [.int .i64 t,.slice d1 gs.length e1,.slice d2 rs.length e2] (by exact T9.out)
   have f0:=hrg 0 _ rfl
   have f1:=hrg 1 _ rfl
   have f2:=hrg 2 _ rfl
   simp only [Nat.zero_add] at f0 f1 f2
   have hx:Ex (bx+1) w7 (w7.setCells (bx+1) 0 [.int .i64 t,.slice d1 gs.length e1,.slice d2 rs.length e2]):=(Ex.refl _ _).cells _ _
   have hBX:=HBX.out
   have hz:=Z1.out
   have hd:=D9.out.size
   exact bodyPost_ret (v:=.tuple #[.agg #[.int .i64 t,.slice d1 gs.length e1,.slice d2 rs.length e2],.int .i64 3]) (by simp [results,Tryz.results15,go_sem,f0,f1,f2]) rfl ⟨⟨t,gs,rs,_,_,3,rfl,Or.inr ⟨HYES.out,rfl,rfl,Or.inr (Or.inl ⟨HN.out,(fun h=>by have h9:=HS6.out.2 ((P.like_says HLP.out).2 h); cases h9),HLK7.out,rfl⟩)⟩,(HL7.out.off (off_of_ex hx) (fun g hg e=>by have h1:=(HL7.out.lt g hg).1; have h2:=ZD.out; omega)).low (by have h2:=ZD.out; omega),HZ7.out⟩,Ex.mono (bl_trans B1.out D9.out) hx (by omega)⟩
  have K6:Hid (∀ j,w6.cell? ⟨w4.heap.size,j,none⟩=(#[.int .i64 t,.slice a1 gs.length p1,.slice a9 Q9.length c9]:Array Value)[j]?):=fun j=>(C6.out.cell (p:=⟨w4.heap.size,j,none⟩) HZX3.out).trans (KX3.out j)
  have t0:w6.cell? ⟨w4.heap.size,0,none⟩=some (.int .i64 t):=K6.out 0
  have t1:w6.cell? ⟨w4.heap.size,1,none⟩=some (.slice a1 gs.length p1):=K6.out 1
  have t2:w6.cell? ⟨w4.heap.size,2,none⟩=some (.slice a9 Q9.length c9):=K6.out 2
  have L6:=hidP (LX3.out.keep C6.out)
  have T9:Hid (w6.there (bx+1) 0 3):=T1.out _ D6.out
  go_wp2_with (refine wpList_store_mid (by rfl) 26 _ _ (by rfl) (bx+1) 0 #[.int .i64 t,.slice a1 gs.length p1,.slice a9 Q9.length c9] (by rfl) (by rfl) (by exact T9.out) hinfo (by simp [Value.oneCell']) ?_)
  have hrg:=World.rangeAt_setCells_same w6 (bx+1) 0 [.int .i64 t,.slice a1 gs.length p1,.slice a9 Q9.length c9] (by exact T9.out)
  have f0:=hrg 0 _ rfl
  have f1:=hrg 1 _ rfl
  have f2:=hrg 2 _ rfl
  simp only [Nat.zero_add] at f0 f1 f2
  have hx:Ex (bx+1) w6 (w6.setCells (bx+1) 0 [.int .i64 t,.slice a1 gs.length p1,.slice a9 Q9.length c9]):=(Ex.refl _ _).cells _ _
  have hBX:=HBX.out
  have hz:=Z1.out
  have hd:=D6.out.size
  have h3:=HW3.out
  exact bodyPost_ret (v:=.tuple #[.agg #[.int .i64 t,.slice a1 gs.length p1,.slice a9 Q9.length c9],.int .i64 0]) (by simp [results,Tryz.results15,go_sem,f0,f1,f2]) rfl ⟨⟨t,gs,Q9,_,_,0,rfl,Or.inr ⟨HYES.out,rfl,rfl,Or.inr (Or.inr ⟨HN.out,(P.like_says HLP.out).1 (HS6.out.1 rfl),HLP.out,rfl⟩)⟩,(L6.out.off (off_of_ex hx) (fun g hg e=>by have h1:=(L6.out.lt g hg).1; omega)).low (by omega),HZ0.out⟩,Ex.mono (bl_trans B1.out D6.out) hx (by omega)⟩
theorem specPut_z:SpecPutSay_z:=by
 intro t gs ps b1 b2 kk1 kk2 b aw cw ws w hA hF hW hb hwf hwl
 by_cases hyes:P.LandSay t gs ps
 ·
  by_cases hn:nameB b=true∧(ws.length≤10∧W.AllW ws ws.length)
  · exact specPut_go_z t gs ps b1 b2 kk1 kk2 b aw cw ws w hA hF hW hb hwf hwl hyes hn
  exact specPut_two_z t gs ps b1 b2 kk1 kk2 b aw cw ws w hA hF hW hb hwf hwl hyes hn
 exact specPut_no_z t gs ps b1 b2 kk1 kk2 b aw cw ws w hA hF hW hb hwf hwl hyes
end Go.Proofs.YtcjhlhijdacinaaGreatDoor
