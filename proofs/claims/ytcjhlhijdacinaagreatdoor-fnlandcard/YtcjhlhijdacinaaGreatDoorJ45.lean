import Derived.Test.YtcjhlhijdacinaaGreatDoorJ21
import Derived.Test.YtcjhlhijdacinaaGreatDoorJ44
namespace Go.Proofs.YtcjhlhijdacinaaGreatDoor
open Go.RowKit Go.Maps Go.WideMaps
set_option linter.unusedVariables false
set_option maxRecDepth 4000 in
set_option maxHeartbeats 8000000 in
theorem specTakeL_no_z (t:Int) (gs:List G.GrantD) (ps:List P.PlaceD) (b1 b2:Option Addr) (kk1 kk2:Nat) (p:TakeP) (s:Int) (av:Option Addr) (nv cv:Nat) (w:World) (hA:P.LandZ w gs ps b1 b2 kk1) (hF:P.Fit gs ps) (hf:p.fits) (hno:¬ P.LandSay t gs ps) :
  Calls Tryz.prog 6 #[.agg #[.int .i64 t,.slice b1 gs.length kk1,.slice b2 ps.length kk2],.agg #[.int .i64 p.k,.string p.b,.int .i64 s,.slice av nv cv,.string p.h,.string p.c,.int .i64 p.t]] w fun e w'=>(∃ t' gs' qs ds s1 s2 v,e=.returned (.tuple #[.agg #[.int .i64 t',s1,s2],v])∧TakeLSay t gs ps p t' gs' qs ds∧TkO w' w.heap.size gs' qs ds s1 s2 v)∧Below w.heap.size w w':=by
 have hinfo:(Tryz.prog.info? 26).map (·.size)=some 3:=by kernel_rfl
 obtain ⟨bx,hbx⟩:∃ bx,bx=w.heap.size:=⟨_,rfl⟩
 have HBX:=hidP hbx
 obtain ⟨W1,hW1⟩:∃ W1,W1=(((w.alloc (.cells #[.int .i64 t,.slice b1 gs.length kk1,.slice b2 ps.length kk2] 26)).alloc (.cells #[.int .i64 p.k,.string p.b,.int .i64 s,.slice av nv cv,.string p.h,.string p.c,.int .i64 p.t] 29)).alloc (.cells #[.int .i64 0,.slice none 0 0,.slice none 0 0] 26)).alloc (.cells #[] 29):=⟨_,rfl⟩
 have HW1:=hidP hW1
 have B1:Hid (Below w.heap.size w W1):=by rw [hW1]; exact bl_alloc (bl_alloc (bl_alloc (bl_alloc bR _) _) _) _
 have Z1:Hid (W1.heap.size=bx+4):=by rw [hW1,hbx]; show _=_; simp
 have K0:Hid (∀ y,Below W1.heap.size W1 y→∀ j,y.cell? ⟨bx,j,none⟩=(#[.int .i64 t,.slice b1 gs.length kk1,.slice b2 ps.length kk2]:Array Value)[j]?):=by
  intro y hy j
  rw [hy.cell (p:=⟨bx,j,none⟩) (by show bx < _; have:=Z1.out; omega),hW1,hbx]
  simp [go_sem,World.cell?_alloc_past]
 have KP:Hid (∀ y,Below W1.heap.size W1 y→∀ j,y.cell? ⟨bx+1,j,none⟩=(#[.int .i64 p.k,.string p.b,.int .i64 s,.slice av nv cv,.string p.h,.string p.c,.int .i64 p.t]:Array Value)[j]?):=by
  intro y hy j
  rw [hy.cell (p:=⟨bx+1,j,none⟩) (by show bx+1 < _; have:=Z1.out; omega),hW1,hbx]
  simp [go_sem,World.cell?_alloc_past]
 have T1:Hid (∀ y,Below W1.heap.size W1 y→y.there (bx+2) 0 3):=by
  intro y hy
  refine there_land ((hy.block (bx+2) (by have:=Z1.out; omega)).trans ?_)
  rw [hW1,hbx]
  have h:=heap_alloc_newL ((w.alloc (.cells #[.int .i64 t,.slice b1 gs.length kk1,.slice b2 ps.length kk2] 26)).alloc (.cells #[.int .i64 p.k,.string p.b,.int .i64 s,.slice av nv cv,.string p.h,.string p.c,.int .i64 p.t] 29)) (.cells #[.int .i64 0,.slice none 0 0,.slice none 0 0] 26)
  simp only [World.size_alloc] at h
  exact (heap_alloc_old _ _ (by simp)).trans h
 have ROW:Hid (W1.ownsRow (bx+3) 29 7 (.slice (some ⟨bx+3,0,none⟩) 0 0) 0 []):=by
  have h:=World.ownsRow_made (base:=w.heap.size+3) (e:=29) (size:=7) (((w.alloc (.cells #[.int .i64 t,.slice b1 gs.length kk1,.slice b2 ps.length kk2] 26)).alloc (.cells #[.int .i64 p.k,.string p.b,.int .i64 s,.slice av nv cv,.string p.h,.string p.c,.int .i64 p.t] 29)).alloc (.cells #[.int .i64 0,.slice none 0 0,.slice none 0 0] 26)) #[] 0 (by simp) (Nat.zero_le _) rfl
  rw [hW1,hbx]
  simp only [World.size_alloc] at h
  exact h
 have OK:Hid (Calls Tryz.prog 11 #[.agg #[.int .i64 t,.slice b1 gs.length kk1,.slice b2 ps.length kk2]] W1 fun e w'=>e=.returned (.bool false)∧Below W1.heap.size W1 w'):=by
  refine (P.specLandOk_z t gs ps b1 b2 kk1 kk2 W1 (hA.keep B1.out) hF).mono ?_
  rintro e w' ⟨⟨q,rfl,hq⟩,hb⟩
  exact ⟨by cases q with | false=>rfl | true=>exact (hno (hq.1 rfl)).elim,hb⟩
 have CP:Hid (∀ y,Below W1.heap.size W1 y→Calls Tryz.prog 24 #[.agg #[.int .i64 t,.slice b1 gs.length kk1,.slice b2 ps.length kk2]] y fun e w'=>(∃ qs s1 s2,e=.returned (.agg #[.int .i64 t,s1,s2])∧P.Like qs ps∧LdO w' y.heap.size gs qs s1 s2∧CapOk s2∧CapOk s1)∧Below y.heap.size y w'):=fun y hy=>l6Copy_caps_z t gs ps b1 b2 kk1 kk2 y (hA.keep (bl_trans B1.out hy)) hF.gl hF.pl hF.ln
 have HF:=hidP hF
 have hb0:=bld0C
 have HNO:=hidP hno
 clear hno hA hF hW1 hf
 go_enter Tryz.func6,Tryz.ntmps6
 go_upto_region 2 with fail
 rw [← hbx,← HW1.out]
 clear hbx hb0
 have t0:W1.cell? ⟨bx,0,none⟩=some (.int .i64 t):=K0.out W1 bR 0
 have t1:W1.cell? ⟨bx,1,none⟩=some (.slice b1 gs.length kk1):=K0.out W1 bR 1
 have t2:W1.cell? ⟨bx,2,none⟩=some (.slice b2 ps.length kk2):=K0.out W1 bR 2
 go_wp2_with fail
 clear t0 t1 t2
 refine OK.out.mono ?_
 rintro e w2 ⟨rfl,c2⟩
 have D2:=hidP c2
 clear c2
 have T2:Hid (w2.there (bx+2) 0 3):=T1.out w2 D2.out
 go_wp2_with (refine wpList_store_mid (by rfl) 26 _ _ (by rfl) (bx+2) 0 #[.int .i64 0,.slice none 0 0,.slice none 0 0] (by rfl) (by rfl) (by exact T2.out) hinfo (by simp [Value.oneCell']) ?_)
 have hrg:=World.rangeAt_setCells_same w2 (bx+2) 0 [.int .i64 0,.slice none 0 0,.slice none 0 0] (by exact T2.out)
 have e0:=hrg 0 _ rfl
 have e1:=hrg 1 _ rfl
 have e2:=hrg 2 _ rfl
 simp only [Nat.zero_add] at e0 e1 e2
 have hx:Ex (bx+2) w2 (w2.setCells (bx+2) 0 [.int .i64 0,.slice none 0 0,.slice none 0 0]):=(Ex.refl _ _).cells _ _
 have hBX:bx=w.heap.size:=HBX.out
 have hz:=Z1.out
 have hd:=D2.out.size
 exact bodyPost_ret (v:=.tuple #[.agg #[.int .i64 0,.slice none 0 0,.slice none 0 0],.slice (some ⟨bx+3,0,none⟩) 0 0]) (by simp [results,Tryz.results6,go_sem,e0,e1,e2]) rfl ⟨⟨0,[],[],[],_,_,_,rfl,Or.inl ⟨HNO.out,rfl,rfl,rfl,rfl⟩,LdO.nil _ _,pco_empty (by omega) (Nat.lt_of_lt_of_le (by omega) hx.size),fun g hg=>by rcases hg with e | e | ⟨j,q,hq,-⟩; cases e; cases e; simp at hq⟩,Ex.mono (bl_trans B1.out D2.out) hx (by omega)⟩
set_option maxRecDepth 4000 in
set_option maxHeartbeats 8000000 in
theorem specTakeL_go_z (t:Int) (gs:List G.GrantD) (ps:List P.PlaceD) (b1 b2:Option Addr) (kk1 kk2:Nat) (p:TakeP) (s:Int) (av:Option Addr) (nv cv:Nat) (w:World) (hA:P.LandZ w gs ps b1 b2 kk1) (hF:P.Fit gs ps) (hf:p.fits) (hyes:P.LandSay t gs ps) :
  Calls Tryz.prog 6 #[.agg #[.int .i64 t,.slice b1 gs.length kk1,.slice b2 ps.length kk2],.agg #[.int .i64 p.k,.string p.b,.int .i64 s,.slice av nv cv,.string p.h,.string p.c,.int .i64 p.t]] w fun e w'=>(∃ t' gs' qs ds s1 s2 v,e=.returned (.tuple #[.agg #[.int .i64 t',s1,s2],v])∧TakeLSay t gs ps p t' gs' qs ds∧TkO w' w.heap.size gs' qs ds s1 s2 v)∧Below w.heap.size w w':=by
 have hinfo:(Tryz.prog.info? 26).map (·.size)=some 3:=by kernel_rfl
 obtain ⟨bx,hbx⟩:∃ bx,bx=w.heap.size:=⟨_,rfl⟩
 have HBX:=hidP hbx
 obtain ⟨W1,hW1⟩:∃ W1,W1=(((w.alloc (.cells #[.int .i64 t,.slice b1 gs.length kk1,.slice b2 ps.length kk2] 26)).alloc (.cells #[.int .i64 p.k,.string p.b,.int .i64 s,.slice av nv cv,.string p.h,.string p.c,.int .i64 p.t] 29)).alloc (.cells #[.int .i64 0,.slice none 0 0,.slice none 0 0] 26)).alloc (.cells #[] 29):=⟨_,rfl⟩
 have HW1:=hidP hW1
 have B1:Hid (Below w.heap.size w W1):=by rw [hW1]; exact bl_alloc (bl_alloc (bl_alloc (bl_alloc bR _) _) _) _
 have Z1:Hid (W1.heap.size=bx+4):=by rw [hW1,hbx]; show _=_; simp
 have K0:Hid (∀ y,Below W1.heap.size W1 y→∀ j,y.cell? ⟨bx,j,none⟩=(#[.int .i64 t,.slice b1 gs.length kk1,.slice b2 ps.length kk2]:Array Value)[j]?):=by
  intro y hy j
  rw [hy.cell (p:=⟨bx,j,none⟩) (by show bx < _; have:=Z1.out; omega),hW1,hbx]
  simp [go_sem,World.cell?_alloc_past]
 have KP:Hid (∀ y,Below W1.heap.size W1 y→∀ j,y.cell? ⟨bx+1,j,none⟩=(#[.int .i64 p.k,.string p.b,.int .i64 s,.slice av nv cv,.string p.h,.string p.c,.int .i64 p.t]:Array Value)[j]?):=by
  intro y hy j
  rw [hy.cell (p:=⟨bx+1,j,none⟩) (by show bx+1 < _; have:=Z1.out; omega),hW1,hbx]
  simp [go_sem,World.cell?_alloc_past]
 have T1:Hid (∀ y,Below W1.heap.size W1 y→y.there (bx+2) 0 3):=by
  intro y hy
  refine there_land ((hy.block (bx+2) (by have:=Z1.out; omega)).trans ?_)
  rw [hW1,hbx]
  have h:=heap_alloc_newL ((w.alloc (.cells #[.int .i64 t,.slice b1 gs.length kk1,.slice b2 ps.length kk2] 26)).alloc (.cells #[.int .i64 p.k,.string p.b,.int .i64 s,.slice av nv cv,.string p.h,.string p.c,.int .i64 p.t] 29)) (.cells #[.int .i64 0,.slice none 0 0,.slice none 0 0] 26)
  simp only [World.size_alloc] at h
  exact (heap_alloc_old _ _ (by simp)).trans h
 have ROW:Hid (W1.ownsRow (bx+3) 29 7 (.slice (some ⟨bx+3,0,none⟩) 0 0) 0 []):=by
  have h:=World.ownsRow_made (base:=w.heap.size+3) (e:=29) (size:=7) (((w.alloc (.cells #[.int .i64 t,.slice b1 gs.length kk1,.slice b2 ps.length kk2] 26)).alloc (.cells #[.int .i64 p.k,.string p.b,.int .i64 s,.slice av nv cv,.string p.h,.string p.c,.int .i64 p.t] 29)).alloc (.cells #[.int .i64 0,.slice none 0 0,.slice none 0 0] 26)) #[] 0 (by simp) (Nat.zero_le _) rfl
  rw [hW1,hbx]
  simp only [World.size_alloc] at h
  exact h
 have OK:Hid (Calls Tryz.prog 11 #[.agg #[.int .i64 t,.slice b1 gs.length kk1,.slice b2 ps.length kk2]] W1 fun e w'=>e=.returned (.bool true)∧Below W1.heap.size W1 w'):=by
  refine (P.specLandOk_z t gs ps b1 b2 kk1 kk2 W1 (hA.keep B1.out) hF).mono ?_
  rintro e w' ⟨⟨q,rfl,hq⟩,hb⟩
  exact ⟨by rw [hq.2 hyes],hb⟩
 have CP:Hid (∀ y,Below W1.heap.size W1 y→Calls Tryz.prog 24 #[.agg #[.int .i64 t,.slice b1 gs.length kk1,.slice b2 ps.length kk2]] y fun e w'=>(∃ qs s1 s2,e=.returned (.agg #[.int .i64 t,s1,s2])∧P.Like qs ps∧LdO w' y.heap.size gs qs s1 s2∧CapOk s2∧CapOk s1)∧Below y.heap.size y w'):=fun y hy=>l6Copy_caps_z t gs ps b1 b2 kk1 kk2 y (hA.keep (bl_trans B1.out hy)) hF.gl hF.pl hF.ln
 have HF:=hidP hF
 have hb0:=bld0C
 have HYES:=hidP hyes
 have hgl:gs.length≤40:=hyes.2.1.1
 have HSG:Hid (G.Srt gs):=G.srt_asc hyes.2.1.2.1
 have htm:0≤t∧t≤2000000:=by
  have h:=hyes.1
  unfold P.timeB inB at h
  simp only [Bool.and_eq_true,decide_eq_true_eq] at h
  exact h.1
 have HTM:=hidP htm
 have hfb:=hf.b
 have hfh:=hf.h
 have hfc:=hf.c
 clear hyes hA hF hW1 hf htm
 go_enter Tryz.func6,Tryz.ntmps6
 go_upto_region 2 with fail
 rw [← hbx,← HW1.out]
 clear hbx hb0
 have t0:W1.cell? ⟨bx,0,none⟩=some (.int .i64 t):=K0.out W1 bR 0
 have t1:W1.cell? ⟨bx,1,none⟩=some (.slice b1 gs.length kk1):=K0.out W1 bR 1
 have t2:W1.cell? ⟨bx,2,none⟩=some (.slice b2 ps.length kk2):=K0.out W1 bR 2
 go_wp2_with fail
 clear t0 t1 t2
 refine OK.out.mono ?_
 rintro e w2 ⟨rfl,c2⟩
 have D2:=hidP c2
 clear c2
 have t0:w2.cell? ⟨bx,0,none⟩=some (.int .i64 t):=K0.out w2 D2.out 0
 have t1:w2.cell? ⟨bx,1,none⟩=some (.slice b1 gs.length kk1):=K0.out w2 D2.out 1
 have t2:w2.cell? ⟨bx,2,none⟩=some (.slice b2 ps.length kk2):=K0.out w2 D2.out 2
 go_wp2_with fail
 clear t0 t1 t2
 refine (CP.out w2 D2.out).mono ?_
 rintro e w3 ⟨⟨qs,s1,s2,rfl,hlk,hL,hcap2,hcap1⟩,c3⟩
 have HLK:=hidP hlk
 obtain ⟨a1,p1,rfl⟩:=G.Sl.shape hL.g
 obtain ⟨a2,p2,hs2⟩:=Pr.Sl.shape hL.p.o
 rw [List.length_map] at hs2
 subst hs2
 have hcp:gs.length≤p1:=hcap1 _ _ _ rfl
 have D3:Hid (Below W1.heap.size W1 w3):=bl_trans D2.out c3
 have C3:=hidP c3
 obtain ⟨yb,hyb⟩:∃ yb,yb=w3.heap.size:=⟨_,rfl⟩
 have HYB:=hidP hyb
 obtain ⟨X0,hX0⟩:∃ X0,X0=w3.alloc (.cells #[.int .i64 t,.slice a1 gs.length p1,.slice a2 qs.length p2] 26):=⟨_,rfl⟩
 have HX0:=hidP hX0
 have BX0:Hid (Below w3.heap.size w3 X0):=by rw [hX0]; exact bl_alloc bR _
 have DX:Hid (Below W1.heap.size W1 X0):=bl_trans D3.out BX0.out
 have ZX:Hid (yb < X0.heap.size):=by rw [hX0,hyb]; show _ < _; simp
 have KX0:Hid (∀ j,X0.cell? ⟨yb,j,none⟩=(#[.int .i64 t,.slice a1 gs.length p1,.slice a2 qs.length p2]:Array Value)[j]?):=by
  intro j
  rw [hX0,hyb]
  simp [go_sem]
 have KX:Hid (∀ y,Below X0.heap.size X0 y→∀ j,y.cell? ⟨yb,j,none⟩=(#[.int .i64 t,.slice a1 gs.length p1,.slice a2 qs.length p2]:Array Value)[j]?):=fun y hy j=>(hy.cell (p:=⟨yb,j,none⟩) ZX.out).trans (KX0.out j)
 have FX0:Hid (X0.frozen? ⟨yb,1,none⟩=false):=by rw [hX0,hyb]; show _=_; simp [go_sem]
 have LX:Hid (LdO X0 w2.heap.size gs qs (.slice a1 gs.length p1) (.slice a2 qs.length p2)):=by rw [hX0]; exact hL.keep (bl_alloc bR _)
 have HTL:Hid (takeF t gs qs p=takeF t gs ps p):=takeF_like hlk
 have HL3:=hidP hL
 clear hlk hL hcap1 hcap2 c3 hX0
 go_upto_region 5 with fail
 rw [← HX0.out,← hyb]
 clear hyb
 obtain ⟨gv,hgv⟩:∃ gv,gv=p.good:=⟨_,rfl⟩
 have HGV:=hidP hgv
 clear hgv
 go_cut [40] (fun v wx=>v=.bool (!gv)∧wx=X0)
 case first =>
  have k1:X0.cell? ⟨bx+1,1,none⟩=some (.string p.b):=KP.out X0 DX.out 1
  have k4:X0.cell? ⟨bx+1,4,none⟩=some (.string p.h):=KP.out X0 DX.out 4
  have k5:X0.cell? ⟨bx+1,5,none⟩=some (.string p.c):=KP.out X0 DX.out 5
  have k6:X0.cell? ⟨bx+1,6,none⟩=some (.int .i64 p.t):=KP.out X0 DX.out 6
  cases q1:nameB p.b
  ·
   have hm:gv=false:=by rw [HGV.out]; unfold TakeP.good; rw [q1]; rfl
   subst hm
   go_wp2_with (first | (go_at_call 25; refine (specName_any _ _ (by assumption)).mono ?_; rintro e w' ⟨rfl,hw⟩; have hw2:=hw.symm; subst hw2; clear hw))
   go_meet
   case rel=>exact ⟨by first | rfl | trivial,by first | rfl | trivial⟩
  cases q2:holdB p.h
  ·
   have hm:gv=false:=by rw [HGV.out]; unfold TakeP.good; rw [q2,Bool.false_and,Bool.and_false,Bool.and_false]
   subst hm
   go_wp2_with (first | (go_at_call 25; refine (specName_any _ _ (by assumption)).mono ?_; rintro e w' ⟨rfl,hw⟩; have hw2:=hw.symm; subst hw2; clear hw) | (go_at_call 26; refine (specHold_any _ _ (by assumption)).mono ?_; rintro e w' ⟨rfl,hw⟩; have hw2:=hw.symm; subst hw2; clear hw))
   go_meet
   case rel=>exact ⟨by first | rfl | trivial,by first | rfl | trivial⟩
  cases q3:nameB p.c
  ·
   have hm:gv=false:=by rw [HGV.out]; unfold TakeP.good; rw [q3,Bool.false_and,Bool.and_false]
   subst hm
   go_wp2_with (first | (go_at_call 25; refine (specName_any _ _ (by assumption)).mono ?_; rintro e w' ⟨rfl,hw⟩; have hw2:=hw.symm; subst hw2; clear hw) | (go_at_call 26; refine (specHold_any _ _ (by assumption)).mono ?_; rintro e w' ⟨rfl,hw⟩; have hw2:=hw.symm; subst hw2; clear hw))
   go_meet
   case rel=>exact ⟨by first | rfl | trivial,by first | rfl | trivial⟩
  cases q4:inB p.t 0 1000000
  ·
   have hm:gv=false:=by rw [HGV.out]; unfold TakeP.good; rw [q4,Bool.and_false,Bool.and_false,Bool.and_false]
   subst hm
   go_wp2_with (first | (go_at_call 25; refine (specName_any _ _ (by assumption)).mono ?_; rintro e w' ⟨rfl,hw⟩; have hw2:=hw.symm; subst hw2; clear hw) | (go_at_call 26; refine (specHold_any _ _ (by assumption)).mono ?_; rintro e w' ⟨rfl,hw⟩; have hw2:=hw.symm; subst hw2; clear hw) | (go_at_call 27; refine (specIn_any _ _ _ _).mono ?_; rintro e w' ⟨rfl,hw⟩; have hw2:=hw.symm; subst hw2; clear hw))
   go_meet
   case rel=>exact ⟨by first | rfl | trivial,by first | rfl | trivial⟩
  have hm:gv=true:=by rw [HGV.out]; unfold TakeP.good; rw [q1,q2,q3,q4]; rfl
  subst hm
  go_wp2_with (first | (go_at_call 25; refine (specName_any _ _ (by assumption)).mono ?_; rintro e w' ⟨rfl,hw⟩; have hw2:=hw.symm; subst hw2; clear hw) | (go_at_call 26; refine (specHold_any _ _ (by assumption)).mono ?_; rintro e w' ⟨rfl,hw⟩; have hw2:=hw.symm; subst hw2; clear hw) | (go_at_call 27; refine (specIn_any _ _ _ _).mono ?_; rintro e w' ⟨rfl,hw⟩; have hw2:=hw.symm; subst hw2; clear hw))
  go_meet
  case rel=>exact ⟨by first | rfl | trivial,by first | rfl | trivial⟩
 case rest =>
  obtain ⟨h40,hw40⟩:=hcut
  have hw41:=hw40.symm
  subst h40 hw41
  clear hw40
  cases gv
  ·
   have HT:Hid (takeF t gs ps p=(gs,[])):=by show _=_; unfold takeF; rw [← HGV.out]; rfl
   have t0:X0.cell? ⟨yb,0,none⟩=some (.int .i64 t):=KX0.out 0
   have t1:X0.cell? ⟨yb,1,none⟩=some (.slice a1 gs.length p1):=KX0.out 1
   have t2:X0.cell? ⟨yb,2,none⟩=some (.slice a2 qs.length p2):=KX0.out 2
   have T9:Hid (X0.there (bx+2) 0 3):=T1.out _ (DX.out)
   go_wp2_with (refine wpList_store_mid (by rfl) 26 _ _ (by rfl) (bx+2) 0 #[.int .i64 t,.slice a1 gs.length p1,.slice a2 qs.length p2] (by rfl) (by rfl) (by exact T9.out) hinfo (by simp [Value.oneCell']) ?_)
   have hrg:=World.rangeAt_setCells_same X0 (bx+2) 0 [.int .i64 t,.slice a1 gs.length p1,.slice a2 qs.length p2] (by exact T9.out)
   have f0:=hrg 0 _ rfl
   have f1:=hrg 1 _ rfl
   have f2:=hrg 2 _ rfl
   simp only [Nat.zero_add] at f0 f1 f2
   have hx:Ex (bx+2) X0 (X0.setCells (bx+2) 0 [.int .i64 t,.slice a1 gs.length p1,.slice a2 qs.length p2]):=(Ex.refl _ _).cells _ _
   have hBX:bx=w.heap.size:=HBX.out
   have hz:=Z1.out
   have hB9:bx+4≤w2.heap.size:=by have h9:=D2.out.size; omega
   have hd:=(DX.out).size
   exact bodyPost_ret (v:=.tuple #[.agg #[.int .i64 t,.slice a1 gs.length p1,.slice a2 qs.length p2],.slice (some ⟨bx+3,0,none⟩) 0 0]) (by simp [results,Tryz.results6,go_sem,f0,f1,f2]) rfl ⟨⟨t,gs,qs,[],_,_,_,rfl,Or.inr ⟨HYES.out,rfl,HLK.out,by rw [HT.out],by rw [HT.out]; rfl⟩,tko_zero (LX.out) (off_of_ex hx) hB9 (by omega) (by omega) (Nat.lt_of_lt_of_le (by omega) hx.size)⟩,Ex.mono (bl_trans B1.out (DX.out)) hx (by omega)⟩
  have HGD:=hidP HGV.out.symm
  have k0:X0.cell? ⟨bx+1,0,none⟩=some (.int .i64 p.k):=KP.out X0 DX.out 0
  cases q2:(p.k == 2)
  ·
   cases q4:(p.k == 4)
   ·
    have HT:Hid (takeF t gs ps p=(gs,[])):=by
     have h2:¬ p.k=2:=by simpa using q2
     have h4:¬ p.k=4:=by simpa using q4
     show _=_
     unfold takeF
     rw [HGD.out,if_pos rfl,if_neg h2,if_neg h4]
    have t0:X0.cell? ⟨yb,0,none⟩=some (.int .i64 t):=KX0.out 0
    have t1:X0.cell? ⟨yb,1,none⟩=some (.slice a1 gs.length p1):=KX0.out 1
    have t2:X0.cell? ⟨yb,2,none⟩=some (.slice a2 qs.length p2):=KX0.out 2
    have T9:Hid (X0.there (bx+2) 0 3):=T1.out _ (DX.out)
    go_wp2_with (refine wpList_store_mid (by rfl) 26 _ _ (by rfl) (bx+2) 0 #[.int .i64 t,.slice a1 gs.length p1,.slice a2 qs.length p2] (by rfl) (by rfl) (by exact T9.out) hinfo (by simp [Value.oneCell']) ?_)
    have hrg:=World.rangeAt_setCells_same X0 (bx+2) 0 [.int .i64 t,.slice a1 gs.length p1,.slice a2 qs.length p2] (by exact T9.out)
    have f0:=hrg 0 _ rfl
    have f1:=hrg 1 _ rfl
    have f2:=hrg 2 _ rfl
    simp only [Nat.zero_add] at f0 f1 f2
    have hx:Ex (bx+2) X0 (X0.setCells (bx+2) 0 [.int .i64 t,.slice a1 gs.length p1,.slice a2 qs.length p2]):=(Ex.refl _ _).cells _ _
    have hBX:bx=w.heap.size:=HBX.out
    have hz:=Z1.out
    have hB9:bx+4≤w2.heap.size:=by have h9:=D2.out.size; omega
    have hd:=(DX.out).size
    exact bodyPost_ret (v:=.tuple #[.agg #[.int .i64 t,.slice a1 gs.length p1,.slice a2 qs.length p2],.slice (some ⟨bx+3,0,none⟩) 0 0]) (by simp [results,Tryz.results6,go_sem,f0,f1,f2]) rfl ⟨⟨t,gs,qs,[],_,_,_,rfl,Or.inr ⟨HYES.out,rfl,HLK.out,by rw [HT.out],by rw [HT.out]; rfl⟩,tko_zero (LX.out) (off_of_ex hx) hB9 (by omega) (by omega) (Nat.lt_of_lt_of_le (by omega) hx.size)⟩,Ex.mono (bl_trans B1.out (DX.out)) hx (by omega)⟩
   have HT:Hid (takeF t gs ps p=(backG p gs,[(5,p.b,0,[],p.h,⟨#[]⟩,p.t)])):=by
    have h2:¬ p.k=2:=by simpa using q2
    have h4:p.k=4:=by simpa using q4
    show _=_
    unfold takeF
    rw [HGD.out,if_pos rfl,if_neg h2,if_pos h4]
   have t0:X0.cell? ⟨yb,0,none⟩=some (.int .i64 t):=KX0.out 0
   have t1:X0.cell? ⟨yb,1,none⟩=some (.slice a1 gs.length p1):=KX0.out 1
   have t2:X0.cell? ⟨yb,2,none⟩=some (.slice a2 qs.length p2):=KX0.out 2
   have k4:X0.cell? ⟨bx+1,4,none⟩=some (.string p.h):=KP.out X0 DX.out 4
   go_wp2_with fail
   clear t0 t1 t2 k0 k4
   refine (l6Grant_any t gs a1 a2 p1 qs.length p2 p.h X0 (gvg_sl LX.out.g) (by omega)).mono ?_
   rintro e w4 ⟨⟨n,rfl,hn⟩,c4⟩
   have C4:=hidP c4
   obtain ⟨hb,HHB⟩:∃ hb:Bool,Hid ((∃ (k:Nat) (g:G.GrantD),n=(k:Int)∧gs[k]?=some g∧g.h=p.h∧hb=backB p g)∨(n=-1∧(∀ g∈gs,g.h≠p.h)∧hb=false)):=by
    rcases hn with ⟨k,g,h1,h2,h3⟩ | ⟨h1,h2⟩
    · exact ⟨backB p g,Or.inl ⟨k,g,h1,h2,h3,rfl⟩⟩
    exact ⟨false,Or.inr ⟨h1,h2,rfl⟩⟩
   clear hn c4 q2 q4
   go_upto_region 14 with fail
   go_cut [96] (fun v wx=>v=.bool hb∧Hid (Below X0.heap.size X0 wx))
   case first =>
    rcases HHB.out with ⟨k,g,rfl,hgk,hgh,hhb⟩ | ⟨rfl,hnone,rfl⟩
    ·
     have hk0:(0:Int)≤(k:Int):=by omega
     have hklt:k < gs.length:=(List.getElem?_eq_some_iff.1 hgk).1
     have hki:(k:Int) < (gs.length:Int):=by omega
     have L4:Hid (LdO w4 w2.heap.size gs qs (.slice a1 gs.length p1) (.slice a2 qs.length p2)):=LX.out.keep C4.out
     obtain ⟨bg,cg,hvg,-,hbg,hrow,-⟩:∃ b cap,Value.slice a1 gs.length p1=.slice (some ⟨b,0,none⟩) gs.length cap∧w2.heap.size≤b∧b < w4.heap.size∧G.RowsAt w4 b 0 gs∧w4.there b 0 (gs.length * 5):=by
      rcases L4.out.g with ⟨-,h⟩ | h
      · rw [h] at hklt; cases hklt
      exact h
     injection hvg with e1 e2 e3
     subst e1 e3
     obtain ⟨r0,r1,r2,r3,r4⟩:=hrow.at hgk
     simp only [Nat.zero_add] at r0 r1 r2 r3 r4
     have t1:w4.cell? ⟨yb,1,none⟩=some (.slice (some ⟨bg,0,none⟩) gs.length p1):=KX.out w4 C4.out 1
     have k1:w4.cell? ⟨bx+1,1,none⟩=some (.string p.b):=KP.out w4 (bl_trans DX.out C4.out) 1
     have k6:w4.cell? ⟨bx+1,6,none⟩=some (.int .i64 p.t):=KP.out w4 (bl_trans DX.out C4.out) 6
     have HH:=hidP hhb
     clear hgk hgh hrow e2 r0 r2 r4 hhb
     have hdr:∀ nq,Below X0.heap.size X0 (w4.drewN nq):=fun nq=>⟨C4.out.os,C4.out.tape,C4.out.output,C4.out.size,C4.out.block⟩
     have HDR:=hidP hdr
     clear hdr
     cases q1:(g.b.toList == p.b.toList)
     ·
      have hm:hb=false:=by rw [HH.out]; unfold backB eqT; rw [q1]; rfl
      subst hm
      go_quiet (fail)
      go_wp2_with fail
      go_meet
      case rel=>exact ⟨by first | rfl | trivial,HDR.out _⟩
     by_cases q3:g.t≤p.t
     ·
      have hm:hb=true:=by rw [HH.out]; unfold backB eqT; rw [q1,decide_eq_true q3]; rfl
      subst hm
      go_quiet (fail)
      go_wp2_with fail
      go_meet
      case rel=>exact ⟨by first | rfl | trivial,HDR.out _⟩
     have hm:hb=false:=by rw [HH.out]; unfold backB eqT; rw [q1,decide_eq_false q3]; rfl
     subst hm
     go_quiet (fail)
     go_wp2_with fail
     go_meet
     case rel=>exact ⟨by first | rfl | trivial,HDR.out _⟩
    have hk0:¬ (0:Int)≤-1:=by omega
    have HDR:Hid (∀ nq,Below X0.heap.size X0 (w4.drewN nq)):=fun nq=>⟨C4.out.os,C4.out.tape,C4.out.output,C4.out.size,C4.out.block⟩
    go_quiet (fail)
    go_wp2_with fail
    go_meet
    case rel=>exact ⟨by first | rfl | trivial,HDR.out _⟩
   obtain ⟨h96,HB5⟩:=hcut
   subst h96
   obtain ⟨Y,hY⟩:∃ Y:World,Y=wc:=⟨_,rfl⟩
   subst hY
   go_upto_if 96 with fail
   have SX:Hid (Stg yb t (.slice a2 qs.length p2) gs a1 p1 Y):=⟨KX.out Y HB5.out 0,KX.out Y HB5.out 1,KX.out Y HB5.out 2,(HB5.out.frozen (p:=⟨yb,1,none⟩) ZX.out).trans FX0.out,Nat.lt_of_lt_of_le ZX.out HB5.out.size,hcp,(LX.out.keep HB5.out).g.low (Nat.zero_le _)⟩
   have LY:Hid (LdO Y w2.heap.size gs qs (.slice a1 gs.length p1) (.slice a2 qs.length p2)):=LX.out.keep HB5.out
   have DY:Hid (Below W1.heap.size W1 Y):=bl_trans DX.out HB5.out
   go_cut [] (fun wx=>∃ (l3:List G.GrantD) (a9:Option Addr) (c9:Nat),Hid (l3=backG p gs)∧Hid (wx.cell? ⟨yb,0,none⟩=some (.int .i64 t)∧wx.cell? ⟨yb,1,none⟩=some (.slice a9 l3.length c9)∧wx.cell? ⟨yb,2,none⟩=some (.slice a2 qs.length p2))∧Hid (LdO wx w2.heap.size l3 qs (.slice a9 l3.length c9) (.slice a2 qs.length p2))∧Hid (Below W1.heap.size W1 wx))
   case first =>
    cases hb
    ·
     have HE:Hid (gs=backG p gs):=by
      show _=_
      rcases HHB.out with ⟨k,g,-,h1,h2,h3⟩ | ⟨-,h1,-⟩
      · exact (back_same (fun r hr e=>by rw [srtG_one HSG.out (List.mem_of_getElem? h1) hr (e.trans h2.symm)]; exact h3.symm)).symm
      exact (back_same (fun r hr e=>(h1 r hr e).elim)).symm
     go_wp2_with fail
     go_meet
     case rel=>exact ⟨gs,a1,p1,HE.out,⟨KX.out Y HB5.out 0,KX.out Y HB5.out 1,KX.out Y HB5.out 2⟩,LY.out,DY.out⟩
    obtain ⟨k,g,hnk,hgk,hgh,hhb⟩:∃ (k:Nat) (g:G.GrantD),n=(k:Int)∧gs[k]?=some g∧g.h=p.h∧true=backB p g:=by
     rcases HHB.out with h | ⟨-,-,h⟩
     · exact h
     cases h
    subst hnk
    have hklt:k < gs.length:=(List.getElem?_eq_some_iff.1 hgk).1
    have HOC:Hid (gs.take k++gs.drop (k+1)=backG p gs):=by
     show _=_
     rw [Ord.out_cut G.keyV gs k g HSG.out hgk,G.keyV,hgh]
     exact out_back HSG.out (List.mem_of_getElem? hgk) hgh hhb.symm
    clear hgk hgh hhb
    go_wp2_with fail
    have KXY:Hid (∀ y,Below Y.heap.size Y y→y.cell? ⟨yb,1,none⟩=some (.slice a1 gs.length p1)):=fun y hy=>(SX.out.keep hy).k1
    have FXY:Hid (∀ y,Below Y.heap.size Y y→y.frozen? ⟨yb,1,none⟩=false):=fun y hy=>(SX.out.keep hy).f1
    obtain ⟨aH,cH,hH,hRH⟩:=rstg_to SX.out.r rfl SX.out.cap (Nat.le_of_lt hklt)
    have elk:(gs.take k).length=k:=by rw [List.length_take]; omega
    have HRH:Hid (RstG Y (.slice aH k cH) (gs.take k)):=⟨aH,cH,by rw [elk],hRH⟩
    have HTO:Hid (∀ wx,Sem.run Tryz.prog (Instr.slice 23 (.slice a1 gs.length p1) none (some (.int .i64 (k:Int))) none) wx=.ok (.slice aH k cH) wx):=fun wx=>by
     have:=SX.out.cap
     rw [run_toG _ gs.length p1 k (by omega) wx,hH,elk]
    obtain ⟨aT,cT,hT,hRT⟩:=rstg_from SX.out.r rfl SX.out.cap (show k+1≤gs.length by omega)
    have elt:(gs.drop (k+1)).length=gs.length - (k+1):=by rw [List.length_drop]
    have HRT:Hid (RstG Y (.slice aT (gs.length - (k+1)) cT) (gs.drop (k+1))):=⟨aT,cT,by rw [elt],hRT⟩
    have HFR:Hid (∀ wx,Sem.run Tryz.prog (Instr.slice 23 (.slice a1 gs.length p1) (some (.int .i64 ((k:Int)+1))) none none) wx=.ok (.slice aT (gs.length - (k+1)) cT) wx):=fun wx=>by
     have h:=run_fromG a1 gs.length p1 (k+1) (by omega) wx
     rw [hT,elt] at h
     exact h
    have iwk:IntKind.i64.wrap ((k:Int)+1)=(k:Int)+1:=by rw [IntKind.wrap_i64]; omega
    clear hH hRH hT hRT elk elt
    refine wp_region_any (by kernel_rfl) ?_
    refine reg_invG slRb 14 (GRb yb Y.heap.size a1 gs.length p1 k aH cH (.slice aT (gs.length - (k+1)) cT) (gs.take k) (gs.drop (k+1))) (DRb yb Y.heap.size Y (gs.take k++gs.drop (k+1))) (by decide) rfl ⟨fun _=>bl_drew bR,fun e=>by cases e⟩ ?done1 ?step1
    case done1 =>
     intro L a y hL hdf hsz hout hG hD
     obtain ⟨y0,a9,c9,hy9,hb9,ho9⟩:=hD.2 (hL 13 (by omega))
     have SY:Hid (Stg yb t (.slice a2 qs.length p2) (gs.take k++gs.drop (k+1)) a9 c9 y):=by rw [hy9]; exact (SX.out.keep hb9).lay ho9 SX.out.z
     have LY9:Hid (LdO y w2.heap.size (gs.take k++gs.drop (k+1)) qs (.slice a9 (gs.take k++gs.drop (k+1)).length c9) (.slice a2 qs.length p2)):=by
      rw [hy9]
      refine (ldo_regrant LY.out hb9 ho9 (Nat.le_refl _) (by have h1:=HL3.out; have h2:=C3.out.size; have h3:=ZX.out; have h4:=HYB.out; have h5:=HB5.out.size; omega)).off (off_of_ex ((Ex.refl _ _).set _ _)) (fun g hg e=>?_)
      rcases hg with hg | hg
      ·
       have h1:=((og_sl ho9).lt g hg).1
       have h2:=ZX.out
       have h3:=HB5.out.size
       omega
      have h1:=(HL3.out.lt g (Or.inr hg)).2
      have h2:=HYB.out
      omega
     have DY9:Hid (Below W1.heap.size W1 y):=by
      rw [hy9]
      have h1:=D3.out.size
      have h2:=HYB.out
      exact Ex.mono (bl_trans DY.out hb9) ((Ex.refl _ _).set _ _) (by omega)
     clear hG hD hL hy9 hb9 ho9
     obtain ⟨l',hl',ha⟩:=frameP_of (lo:=97) (n:=13) hdf hsz (fun j hj=>by
      by_cases hj9:j < 100000
      · exact hout j (fun i hi=>slRb_far j hj9 hj i hi)
      rw [Array.getD_eq_getD_getElem?,Array.getD_eq_getD_getElem?,Array.getElem?_eq_none (Nat.le_trans (Nat.le_of_eq hsz) (Nat.le_trans (lE rfl) (Nat.le_of_not_lt hj9))),Array.getElem?_eq_none (Nat.le_trans (lE rfl) (Nat.le_of_not_lt hj9))]) (lE rfl)
     subst ha
     obtain ⟨s0,sl0,rfl,sh0⟩:=lenP_succ hl'
     obtain ⟨s1,sl1,rfl,sh1⟩:=lenP_succ sh0
     obtain ⟨s2,sl2,rfl,sh2⟩:=lenP_succ sh1
     obtain ⟨s3,sl3,rfl,sh3⟩:=lenP_succ sh2
     obtain ⟨s4,sl4,rfl,sh4⟩:=lenP_succ sh3
     obtain ⟨s5,sl5,rfl,sh5⟩:=lenP_succ sh4
     obtain ⟨s6,sl6,rfl,sh6⟩:=lenP_succ sh5
     obtain ⟨s7,sl7,rfl,sh7⟩:=lenP_succ sh6
     obtain ⟨s8,sl8,rfl,sh8⟩:=lenP_succ sh7
     obtain ⟨s9,sl9,rfl,sh9⟩:=lenP_succ sh8
     obtain ⟨s10,sl10,rfl,sh10⟩:=lenP_succ sh9
     obtain ⟨s11,sl11,rfl,sh11⟩:=lenP_succ sh10
     obtain ⟨s12,sl12,rfl,sh12⟩:=lenP_succ sh11
     obtain rfl:=lenP_zero sh12
     clear hdf hsz hout
     simp only [tkd,Nat.reduceAdd]
     go_wp2_with fail
     go_meet
     case rel=>exact ⟨_,a9,c9,HOC.out,⟨SY.out.k0,SY.out.k1,SY.out.k2⟩,LY9.out,DY9.out⟩
    intro listed x y i hI hi hlt
    have ho:=ready_open hi
    have HLZ:=hidP hI.lz
    have HD:=hidP hI.d
    have HJ:=hidP hI
    have HI:=hidP hi
    have HO:=hidP ho
    obtain rfl | rfl | rfl | rfl | rfl | rfl | rfl | rfl | rfl | rfl | rfl | rfl | rfl | rfl:i=0∨i=1∨i=2∨i=3∨i=4∨i=5∨i=6∨i=7∨i=8∨i=9∨i=10∨i=11∨i=12∨i=13:=by omega
    ·
     have h13:=ntr hI.tr ho [11,5,0] 13 rfl rfl
     have hb6:Below Y.heap.size Y y:=hI.d.1 h13
     have hb:=bld0G y
     have HB6:=hidP hb6
     clear hb6
     clear hi hI ho
     refine op9 fun K hK=>?_
     go_simp
     have hbl:Below y.heap.size y (y.alloc (.cells #[] 40)):=bl_alloc bR _
     exact HJ.out.pu hK HI.out (fun _=>⟨y.heap.size,rfl,rfl,Or.inr ⟨y.heap.size,0,#[],rfl,HB6.out.size,heap_alloc_newL y _,Nat.le_refl _,Nat.zero_le _,rfl,rfl⟩⟩) (fun j u _ _ _ _ h=>GRb.keep hbl (fun e=>sbk HLZ e) (fun e=>sbk HLZ e) (fun e=>sbk HLZ e) j u h) (DRb.keep h13 (by decide) (bl_trans HB6.out hbl))
    ·
     have h13:=ntr hI.tr ho [11,5,4,2,1] 13 rfl rfl
     have hb6:Below Y.heap.size Y y:=hI.d.1 h13
     have e1:x.tmps[7]?.getD undef=.pointer (some ⟨yb,0,none⟩):=ev_tmp (hI.out 7 (fun i hi=>slRb_far 7 (by omega) (by omega) i hi))
     have HB6:=hidP hb6
     clear hb6
     clear hi hI ho
     refine op9 fun K hK=>?_
     go_simp
     exact HJ.out.pu hK HI.out (rfl) (fun j u _ _ _ _ h=>GRb.keep bR (fun e=>sbk HLZ e) (fun e=>sbk HLZ e) (fun e=>sbk HLZ e) j u h) (DRb.keep h13 (by decide) (HB6.out))
    ·
     have h13:=ntr hI.tr ho [11,5,4,2] 13 rfl rfl
     have hb6:Below Y.heap.size Y y:=hI.d.1 h13
     have gf1:GRb yb Y.heap.size a1 gs.length p1 k aH cH (.slice aT (gs.length - (k+1)) cT) (gs.take k) (gs.drop (k+1)) listed y 1 (x.tmps.getD 98 undef):=hI.good 1 (by omega) (wO hi)
     have e1:x.tmps[98]?.getD undef=.pointer (some ⟨yb,1,none⟩):=ev_tmp gf1
     have k1:y.cell? ⟨yb,1,none⟩=some (.slice a1 gs.length p1):=KXY.out y hb6
     have HB6:=hidP hb6
     clear hb6
     clear hi hI ho
     refine op9 fun K hK=>?_
     go_simp
     exact HJ.out.pu hK HI.out (rfl) (fun j u _ _ _ _ h=>GRb.keep bR (fun e=>sbk HLZ e) (fun e=>sbk HLZ e) (fun e=>sbk HLZ e) j u h) (DRb.keep h13 (by decide) (HB6.out))
    ·
     have h13:=ntr hI.tr ho [11,5,4,3] 13 rfl rfl
     have hb6:Below Y.heap.size Y y:=hI.d.1 h13
     have e1:x.tmps[10]?.getD undef=.int .i64 (k:Int):=ev_tmp (hI.out 10 (fun i hi=>slRb_far 10 (by omega) (by omega) i hi))
     have HB6:=hidP hb6
     clear hb6
     clear hi hI ho
     refine op9 fun K hK=>?_
     go_simp
     exact HJ.out.pu hK HI.out (rfl) (fun j u _ _ _ _ h=>GRb.keep bR (fun e=>sbk HLZ e) (fun e=>sbk HLZ e) (fun e=>sbk HLZ e) j u h) (DRb.keep h13 (by decide) (HB6.out))
    ·
     have h13:=ntr hI.tr ho [11,5,4] 13 rfl rfl
     have hb6:Below Y.heap.size Y y:=hI.d.1 h13
     have gf2:GRb yb Y.heap.size a1 gs.length p1 k aH cH (.slice aT (gs.length - (k+1)) cT) (gs.take k) (gs.drop (k+1)) listed y 2 (x.tmps.getD 99 undef):=hI.good 2 (by omega) (wO hi)
     have e1:x.tmps[99]?.getD undef=.slice a1 gs.length p1:=ev_tmp gf2
     have gf3:GRb yb Y.heap.size a1 gs.length p1 k aH cH (.slice aT (gs.length - (k+1)) cT) (gs.take k) (gs.drop (k+1)) listed y 3 (x.tmps.getD 100 undef):=hI.good 3 (by omega) (wO hi)
     have e2:x.tmps[100]?.getD undef=.int .i64 (k:Int):=ev_tmp gf3
     have hto:=HTO.out
     have HB6:=hidP hb6
     clear hb6
     clear hi hI ho
     refine op9 fun K hK=>?_
     go_simp
     exact HJ.out.pu hK HI.out (rfl) (fun j u _ _ _ _ h=>GRb.keep bR (fun e=>sbk HLZ e) (fun e=>sbk HLZ e) (fun e=>sbk HLZ e) j u h) (DRb.keep h13 (by decide) (HB6.out))
    ·
     have h13:=ntr hI.tr ho [11,5] 13 rfl rfl
     have hb6:Below Y.heap.size Y y:=hI.d.1 h13
     have gf0:GRb yb Y.heap.size a1 gs.length p1 k aH cH (.slice aT (gs.length - (k+1)) cT) (gs.take k) (gs.drop (k+1)) listed y 0 (x.tmps.getD 97 undef):=hI.good 0 (by omega) (wO hi)
     have gf4:GRb yb Y.heap.size a1 gs.length p1 k aH cH (.slice aT (gs.length - (k+1)) cT) (gs.take k) (gs.drop (k+1)) listed y 4 (x.tmps.getD 101 undef):=hI.good 4 (by omega) (wO hi)
     have h5n:listed.getD 5 false=false:=noT (fun h=>openT ho h)
     obtain ⟨g0,e1,o1⟩:=gf0 h5n
     have e2:x.tmps.getD 101 undef=.slice aH k cH:=gf4
     rw [e1] at o1
     have HB6:=hidP hb6
     clear hb6
     clear hi hI ho
     refine op9 fun K hK=>?_
     refine copyRstG Y.heap.size (.tmp 97) (.tmp 101) rfl (gs.take k) g0 _ e1 o1 HB6.out.size e2 (HRH.out.keep HB6.out) (by rw [List.length_take]; omega) ?_
     intro s' w' o2 b2
     exact HJ.out.pu hK HI.out (fun _=>o2) (fun j u _ _ _ _ h=>GRb.keep b2 (fun e=>sbk HLZ e) (fun e=>sbk HLZ e) (fun e=>sbk HLZ e) j u h) (DRb.keep h13 (by decide) (bl_trans HB6.out b2))
    ·
     have h13:=ntr hI.tr ho [11,10,7,6] 13 rfl rfl
     have hb6:Below Y.heap.size Y y:=hI.d.1 h13
     have e1:x.tmps[7]?.getD undef=.pointer (some ⟨yb,0,none⟩):=ev_tmp (hI.out 7 (fun i hi=>slRb_far 7 (by omega) (by omega) i hi))
     have HB6:=hidP hb6
     clear hb6
     clear hi hI ho
     refine op9 fun K hK=>?_
     go_simp
     exact HJ.out.pu hK HI.out (rfl) (fun j u _ _ _ _ h=>GRb.keep bR (fun e=>sbk HLZ e) (fun e=>sbk HLZ e) (fun e=>sbk HLZ e) j u h) (DRb.keep h13 (by decide) (HB6.out))
    ·
     have h13:=ntr hI.tr ho [11,10,7] 13 rfl rfl
     have hb6:Below Y.heap.size Y y:=hI.d.1 h13
     have gf6:GRb yb Y.heap.size a1 gs.length p1 k aH cH (.slice aT (gs.length - (k+1)) cT) (gs.take k) (gs.drop (k+1)) listed y 6 (x.tmps.getD 103 undef):=hI.good 6 (by omega) (wO hi)
     have e1:x.tmps[103]?.getD undef=.pointer (some ⟨yb,1,none⟩):=ev_tmp gf6
     have k1:y.cell? ⟨yb,1,none⟩=some (.slice a1 gs.length p1):=KXY.out y hb6
     have HB6:=hidP hb6
     clear hb6
     clear hi hI ho
     refine op9 fun K hK=>?_
     go_simp
     exact HJ.out.pu hK HI.out (rfl) (fun j u _ _ _ _ h=>GRb.keep bR (fun e=>sbk HLZ e) (fun e=>sbk HLZ e) (fun e=>sbk HLZ e) j u h) (DRb.keep h13 (by decide) (HB6.out))
    ·
     have h13:=ntr hI.tr ho [11,10,9,8] 13 rfl rfl
     have hb6:Below Y.heap.size Y y:=hI.d.1 h13
     have e1:x.tmps[10]?.getD undef=.int .i64 (k:Int):=ev_tmp (hI.out 10 (fun i hi=>slRb_far 10 (by omega) (by omega) i hi))
     have HB6:=hidP hb6
     clear hb6
     clear hi hI ho
     refine op9 fun K hK=>?_
     go_simp
     exact HJ.out.pu hK HI.out (rfl) (fun j u _ _ _ _ h=>GRb.keep bR (fun e=>sbk HLZ e) (fun e=>sbk HLZ e) (fun e=>sbk HLZ e) j u h) (DRb.keep h13 (by decide) (HB6.out))
    ·
     have h13:=ntr hI.tr ho [11,10,9] 13 rfl rfl
     have hb6:Below Y.heap.size Y y:=hI.d.1 h13
     have gf8:GRb yb Y.heap.size a1 gs.length p1 k aH cH (.slice aT (gs.length - (k+1)) cT) (gs.take k) (gs.drop (k+1)) listed y 8 (x.tmps.getD 105 undef):=hI.good 8 (by omega) (wO hi)
     have e1:x.tmps[105]?.getD undef=.int .i64 (k:Int):=ev_tmp gf8
     have HB6:=hidP hb6
     clear hb6
     clear hi hI ho
     refine op9 fun K hK=>?_
     go_simp
     exact HJ.out.pu hK HI.out (rfl) (fun j u _ _ _ _ h=>GRb.keep bR (fun e=>sbk HLZ e) (fun e=>sbk HLZ e) (fun e=>sbk HLZ e) j u h) (DRb.keep h13 (by decide) (HB6.out))
    ·
     have h13:=ntr hI.tr ho [11,10] 13 rfl rfl
     have hb6:Below Y.heap.size Y y:=hI.d.1 h13
     have gf7:GRb yb Y.heap.size a1 gs.length p1 k aH cH (.slice aT (gs.length - (k+1)) cT) (gs.take k) (gs.drop (k+1)) listed y 7 (x.tmps.getD 104 undef):=hI.good 7 (by omega) (wO hi)
     have e1:x.tmps[104]?.getD undef=.slice a1 gs.length p1:=ev_tmp gf7
     have gf9:GRb yb Y.heap.size a1 gs.length p1 k aH cH (.slice aT (gs.length - (k+1)) cT) (gs.take k) (gs.drop (k+1)) listed y 9 (x.tmps.getD 106 undef):=hI.good 9 (by omega) (wO hi)
     have e2:x.tmps[106]?.getD undef=.int .i64 ((k:Int)+1):=ev_tmp gf9
     have hfr:=HFR.out
     have HB6:=hidP hb6
     clear hb6
     clear hi hI ho
     refine op9 fun K hK=>?_
     go_simp
     exact HJ.out.pu hK HI.out (rfl) (fun j u _ _ _ _ h=>GRb.keep bR (fun e=>sbk HLZ e) (fun e=>sbk HLZ e) (fun e=>sbk HLZ e) j u h) (DRb.keep h13 (by decide) (HB6.out))
    ·
     have h13:=ntr hI.tr ho [11] 13 rfl rfl
     have hb6:Below Y.heap.size Y y:=hI.d.1 h13
     have gf5:GRb yb Y.heap.size a1 gs.length p1 k aH cH (.slice aT (gs.length - (k+1)) cT) (gs.take k) (gs.drop (k+1)) listed y 5 (x.tmps.getD 102 undef):=hI.good 5 (by omega) (wO hi)
     have gf10:GRb yb Y.heap.size a1 gs.length p1 k aH cH (.slice aT (gs.length - (k+1)) cT) (gs.take k) (gs.drop (k+1)) listed y 10 (x.tmps.getD 107 undef):=hI.good 10 (by omega) (wO hi)
     have h11n:listed.getD 11 false=false:=noT (fun h=>openT ho h)
     have h5y:=waits_of hi (i:=11) (j:=5) (by rfl)
     have o1:=gf5 h11n
     have e2:x.tmps.getD 107 undef=.slice aT (gs.length - (k+1)) cT:=gf10
     have HB6:=hidP hb6
     clear hb6
     clear hi hI ho
     refine op9 fun K hK=>?_
     refine appRstG Y.heap.size (.tmp 102) (.tmp 107) rfl (gs.take k) (gs.drop (k+1)) _ _ rfl o1 HB6.out.size e2 (HRT.out.keep HB6.out) (by rw [List.length_take,List.length_drop]; omega) ?_
     intro s' w' o2 hg hat
     exact HJ.out.pu hK HI.out (fun _=>o2) (fun j u _ _ hne _ h=>GRb.dead (by rw [setT_ne (by decide)]; exact h5y) (setT_same (by rw [HLZ.out]; omega)) j u hne h) (DRb.keep h13 (by decide) (Below.grown HB6.out hg HB6.out.size (fun g hgg=>((og_sl o1).lt g hgg).1)))
    ·
     have h13:=ntr hI.tr ho [12] 13 rfl rfl
     have hb6:Below Y.heap.size Y y:=hI.d.1 h13
     have e1:x.tmps[7]?.getD undef=.pointer (some ⟨yb,0,none⟩):=ev_tmp (hI.out 7 (fun i hi=>slRb_far 7 (by omega) (by omega) i hi))
     have HB6:=hidP hb6
     clear hb6
     clear hi hI ho
     refine op9 fun K hK=>?_
     go_simp
     exact HJ.out.pu hK HI.out (rfl) (fun j u _ _ _ _ h=>GRb.keep bR (fun e=>sbk HLZ e) (fun e=>sbk HLZ e) (fun e=>sbk HLZ e) j u h) (DRb.keep h13 (by decide) (HB6.out))
    have h13:listed.getD 13 false=false:=noT (fun h=>openT ho h)
    have hb6:Below Y.heap.size Y y:=hI.d.1 h13
    have gf11:GRb yb Y.heap.size a1 gs.length p1 k aH cH (.slice aT (gs.length - (k+1)) cT) (gs.take k) (gs.drop (k+1)) listed y 11 (x.tmps.getD 108 undef):=hI.good 11 (by omega) (wO hi)
    have gf12:GRb yb Y.heap.size a1 gs.length p1 k aH cH (.slice aT (gs.length - (k+1)) cT) (gs.take k) (gs.drop (k+1)) listed y 12 (x.tmps.getD 109 undef):=hI.good 12 (by omega) (wO hi)
    have e2:x.tmps[109]?.getD undef=.pointer (some ⟨yb,1,none⟩):=ev_tmp gf12
    have o1:OG Y.heap.size (gs.take k++gs.drop (k+1)) y (x.tmps.getD 108 undef):=gf11 h13
    have h11y:=waits_of hi (i:=13) (j:=11) (by rfl)
    have h5y:=hI.tr 11 5 (by rfl) h11y
    obtain ⟨a9,c9,hv⟩:=o1.shape
    rw [hv] at o1
    have e1:x.tmps[108]?.getD undef=.slice a9 (gs.take k++gs.drop (k+1)).length c9:=ev_tmp hv
    have k1:y.cell? ⟨yb,1,none⟩=some (.slice a1 gs.length p1):=KXY.out y hb6
    have f1:=FXY.out y hb6
    have O1:=hidP o1
    obtain ⟨n9,hn9⟩:∃ n9,n9=(gs.take k++gs.drop (k+1)).length:=⟨_,rfl⟩
    rw [← hn9] at e1 O1
    have HN9:=hidP hn9
    clear hv o1 gf11 hn9
    have HB6:=hidP hb6
    clear hb6
    clear hi hI ho
    refine op9 fun K hK=>?_
    go_simp
    exact hK.out _ _ (HJ.out.nil HI.out (by omega) (fun _=>trivial) (fun j u _ _ _ _ h=>GRb.toset (by rw [setT_ne (by decide)]; exact h5y) (by rw [setT_ne (by decide)]; exact h11y) (setT_same (by rw [HLZ.out]; omega)) j u h) (⟨(fun e=>by rw [setT_same (by rw [HLZ.out]; omega)] at e; cases e),fun _=>⟨y,a9,c9,by rw [HN9.out],HB6.out,by rw [← HN9.out]; exact O1.out⟩⟩) undef)
   obtain ⟨l3,a9,c9,HE3,KY9,LY9,DY9⟩:=hcut
   obtain ⟨X9,hX9⟩:∃ X9:World,X9=wc:=⟨_,rfl⟩
   subst hX9
   have k1:X9.cell? ⟨bx+1,1,none⟩=some (.string p.b):=KP.out X9 DY9.out 1
   have k4:X9.cell? ⟨bx+1,4,none⟩=some (.string p.h):=KP.out X9 DY9.out 4
   have k6:X9.cell? ⟨bx+1,6,none⟩=some (.int .i64 p.t):=KP.out X9 DY9.out 6
   obtain ⟨Xb,hXb⟩:∃ Xb,Xb=X9.alloc (.cells #[.int .i64 5,.string p.b,.int .i64 0,.slice none 0 0,.string p.h,.string ⟨#[]⟩,.int .i64 p.t] 29):=⟨_,rfl⟩
   have BXb:Hid (Below X9.heap.size X9 Xb):=by rw [hXb]; exact bl_alloc bR _
   have RB9:Hid (Xb.ownsRow (bx+3) 29 7 (.slice (some ⟨bx+3,0,none⟩) 0 0) 0 []):=G.owns_below ROW.out (bl_trans DY9.out BXb.out)
   have HC9:Hid (Xb.heap[X9.heap.size]?=some (.cells (arrS (5,p.b,0,[],p.h,⟨#[]⟩,p.t)) 29 (0,0))):=by rw [hXb]; exact heap_alloc_newL X9 _
   have HXb:=hidP hXb
   have AFT:Hid (∀ z,Xb.grownBy z (some (bx+3))→(z.cell? ⟨yb,0,none⟩=some (.int .i64 t)∧z.cell? ⟨yb,1,none⟩=some (.slice a9 l3.length c9)∧z.cell? ⟨yb,2,none⟩=some (.slice a2 qs.length p2))∧z.there (bx+2) 0 3):=by
    intro z hz
    have hz1:=Z1.out
    have hz2:=D3.out.size
    have hz3:=HYB.out
    have hyz:yb < X9.heap.size:=World.block_lt_of_cell? X9 ⟨yb,0,none⟩ (u:=.int .i64 t) KY9.out.1
    have hcl:∀ j,z.cell? ⟨yb,j,none⟩=X9.cell? ⟨yb,j,none⟩:=fun j=>by
     rw [World.cell?_of_block (w:=Xb) (a:=⟨yb,j,none⟩) (hz.block yb (Nat.lt_of_lt_of_le hyz BXb.out.size) (fun e=>by have:=Option.some.inj e; omega)),BXb.out.cell (p:=⟨yb,j,none⟩) hyz]
    refine ⟨⟨(hcl 0).trans KY9.out.1,(hcl 1).trans KY9.out.2.1,(hcl 2).trans KY9.out.2.2⟩, ?_⟩
    have h1:=T1.out Xb (bl_trans DY9.out BXb.out)
    have hlt:bx+2 < Xb.heap.size:=by have:=(bl_trans DY9.out BXb.out).size; omega
    intro j hj
    have h2:=h1 j hj
    rw [← World.cell?_of_block (w:=Xb) (w':=z) (a:=⟨bx+2,0+j,none⟩) (hz.block (bx+2) hlt (fun e=>by have:=Option.some.inj e; omega)),← World.frozen?_of_block (w:=Xb) (w':=z) (a:=⟨bx+2,0+j,none⟩) (hz.block (bx+2) hlt (fun e=>by have:=Option.some.inj e; omega))] at h2
    exact h2
   clear hXb
   go_wp2_with (first | (at_builtin; rw [← HXb.out]; refine wpList_appPc rfl _ _ rfl (bx+3) (bx+3) (5,p.b,0,[],p.h,⟨#[]⟩,p.t) X9.heap.size rfl RB9.out (by have h1:=Z1.out; have h2:=DY9.out.size; have h3:=BXb.out.size; omega) rfl HC9.out ?_; intro s9 w9 o9 g9 hat9; obtain ⟨aP,cP,hsP⟩:=own_shape1 o9; subst hsP; have O9:Hid (w9.ownsRow (bx+3) 29 7 (.slice aP 1 cP) 1 (arrS (5,p.b,0,[],p.h,⟨#[]⟩,p.t)).toList):=o9; have G9:Hid (Xb.grownBy w9 (some (bx+3))):=g9; have A9:Hid ((Value.slice aP 1 cP).ownBlock=some (bx+3)∨(Value.slice aP 1 cP).ownBlock=some Xb.heap.size):=hat9; have y0:w9.cell? ⟨yb,0,none⟩=some (.int .i64 t):=(AFT.out w9 g9).1.1; have y1:w9.cell? ⟨yb,1,none⟩=some (.slice a9 l3.length c9):=(AFT.out w9 g9).1.2.1; have y2:w9.cell? ⟨yb,2,none⟩=some (.slice a2 qs.length p2):=(AFT.out w9 g9).1.2.2; have T9:Hid (w9.there (bx+2) 0 3):=(AFT.out w9 g9).2; clear o9 g9 hat9) | (refine wpList_store_mid (by rfl) 26 _ _ (by rfl) (bx+2) 0 #[.int .i64 t,.slice a9 l3.length c9,.slice a2 qs.length p2] (by rfl) (by rfl) (by exact T9.out) hinfo (by simp [Value.oneCell']) ?_))
   have hrg:=World.rangeAt_setCells_same w9 (bx+2) 0 [.int .i64 t,.slice a9 l3.length c9,.slice a2 qs.length p2] (by exact T9.out)
   have f0:=hrg 0 _ rfl
   have f1:=hrg 1 _ rfl
   have f2:=hrg 2 _ rfl
   simp only [Nat.zero_add] at f0 f1 f2
   have hx:Ex (bx+2) w9 (w9.setCells (bx+2) 0 [.int .i64 t,.slice a9 l3.length c9,.slice a2 qs.length p2]):=(Ex.refl _ _).cells _ _
   have hBX:bx=w.heap.size:=HBX.out
   have hz:=Z1.out
   have hB9:bx+4≤w2.heap.size:=by have h9:=D2.out.size; omega
   exact bodyPost_ret (v:=.tuple #[.agg #[.int .i64 t,.slice a9 l3.length c9,.slice a2 qs.length p2],.slice aP 1 cP]) (by simp [results,Tryz.results6,go_sem,f0,f1,f2]) rfl ⟨⟨t,l3,qs,[pcOf (5,p.b,0,[],p.h,⟨#[]⟩,p.t)],_,_,_,rfl,Or.inr ⟨HYES.out,rfl,HLK.out,by rw [HT.out]; exact HE3.out,by rw [HT.out]; rfl⟩,tko_parcel LY9.out BXb.out G9.out hx O9.out A9.out rfl (by omega) (by omega) (by omega)⟩,Ex.mono ((bl_trans (bl_trans B1.out DY9.out) BXb.out).grown G9.out (bl_trans (bl_trans B1.out DY9.out) BXb.out).size (fun j hj=>by have:=Option.some.inj hj; omega)) hx (by omega)⟩
  have HK2:Hid (p.k=2):=by show _=_; simpa using q2
  have t0:X0.cell? ⟨yb,0,none⟩=some (.int .i64 t):=KX0.out 0
  have t1:X0.cell? ⟨yb,1,none⟩=some (.slice a1 gs.length p1):=KX0.out 1
  have t2:X0.cell? ⟨yb,2,none⟩=some (.slice a2 qs.length p2):=KX0.out 2
  have k1:X0.cell? ⟨bx+1,1,none⟩=some (.string p.b):=KP.out X0 DX.out 1
  have k2:X0.cell? ⟨bx+1,2,none⟩=some (.int .i64 s):=KP.out X0 DX.out 2
  have k3:X0.cell? ⟨bx+1,3,none⟩=some (.slice av nv cv):=KP.out X0 DX.out 3
  have k4:X0.cell? ⟨bx+1,4,none⟩=some (.string p.h):=KP.out X0 DX.out 4
  have k5:X0.cell? ⟨bx+1,5,none⟩=some (.string p.c):=KP.out X0 DX.out 5
  have k6:X0.cell? ⟨bx+1,6,none⟩=some (.int .i64 p.t):=KP.out X0 DX.out 6
  go_wp2_with fail
  clear t0 t1 t2 k0 k1 k2 k3 k4 k5 k6 q2
  refine (l6Asked_any t p s av nv cv gs qs a1 a2 p1 p2 w2.heap.size X0 (ldo_landy LX.out) LX.out.g hcp hgl HSG.out (by rw [HLK.out.len]; have h9:ps.length≤4:=HYES.out.2.2.1.1; omega) (lns_like2 HLK.out HF.out.ln) HTM.out).mono ?_
  rintro e w4 ⟨⟨a9,n9,c9,q,rfl,hq,hown⟩,c4⟩
  have C4:=hidP c4
  have HQ:=hidP hq
  have HOW:=hidP hown
  obtain ⟨zb,hzb⟩:∃ zb,zb=w4.heap.size:=⟨_,rfl⟩
  have HZB:=hidP hzb
  obtain ⟨Y,hY⟩:∃ Y,Y=w4.alloc (.cells #[.int .i64 t,.slice a9 n9 c9,.slice a2 qs.length p2] 26):=⟨_,rfl⟩
  have HY:=hidP hY
  have C5:Hid (Below X0.heap.size X0 Y):=by rw [hY]; exact bl_trans c4 (bl_alloc bR _)
  have CW:Hid (Below w4.heap.size w4 Y):=by rw [hY]; exact bl_alloc bR _
  have KZ:Hid (∀ j,Y.cell? ⟨zb,j,none⟩=(#[.int .i64 t,.slice a9 n9 c9,.slice a2 qs.length p2]:Array Value)[j]?):=by
   intro j
   rw [hY,hzb]
   simp [go_sem]
  have ZZ:Hid (zb < Y.heap.size):=by rw [hY,hzb]; show _ < _; simp
  have DY:Hid (Below W1.heap.size W1 Y):=bl_trans DX.out C5.out
  clear hq hown c4 hY
  go_upto_if 53 with fail
  rw [← HY.out,← hzb]
  clear hzb
  cases q
  ·
   have HT:Hid (takeF t gs ps p=(gs,[])):=by
    show _=_
    rw [← HTL.out]
    unfold takeF
    rw [HGD.out,if_pos rfl,if_pos HK2.out,if_neg (fun h=>by have:=HQ.out.2 h; cases this)]
   have t0:Y.cell? ⟨yb,0,none⟩=some (.int .i64 t):=KX.out Y C5.out 0
   have t1:Y.cell? ⟨yb,1,none⟩=some (.slice a1 gs.length p1):=KX.out Y C5.out 1
   have t2:Y.cell? ⟨yb,2,none⟩=some (.slice a2 qs.length p2):=KX.out Y C5.out 2
   have T9:Hid (Y.there (bx+2) 0 3):=T1.out _ (DY.out)
   go_wp2_with (refine wpList_store_mid (by rfl) 26 _ _ (by rfl) (bx+2) 0 #[.int .i64 t,.slice a1 gs.length p1,.slice a2 qs.length p2] (by rfl) (by rfl) (by exact T9.out) hinfo (by simp [Value.oneCell']) ?_)
   have hrg:=World.rangeAt_setCells_same Y (bx+2) 0 [.int .i64 t,.slice a1 gs.length p1,.slice a2 qs.length p2] (by exact T9.out)
   have f0:=hrg 0 _ rfl
   have f1:=hrg 1 _ rfl
   have f2:=hrg 2 _ rfl
   simp only [Nat.zero_add] at f0 f1 f2
   have hx:Ex (bx+2) Y (Y.setCells (bx+2) 0 [.int .i64 t,.slice a1 gs.length p1,.slice a2 qs.length p2]):=(Ex.refl _ _).cells _ _
   have hBX:bx=w.heap.size:=HBX.out
   have hz:=Z1.out
   have hB9:bx+4≤w2.heap.size:=by have h9:=D2.out.size; omega
   have hd:=(DY.out).size
   exact bodyPost_ret (v:=.tuple #[.agg #[.int .i64 t,.slice a1 gs.length p1,.slice a2 qs.length p2],.slice (some ⟨bx+3,0,none⟩) 0 0]) (by simp [results,Tryz.results6,go_sem,f0,f1,f2]) rfl ⟨⟨t,gs,qs,[],_,_,_,rfl,Or.inr ⟨HYES.out,rfl,HLK.out,by rw [HT.out],by rw [HT.out]; rfl⟩,tko_zero (LX.out.keep C5.out) (off_of_ex hx) hB9 (by omega) (by omega) (Nat.lt_of_lt_of_le (by omega) hx.size)⟩,Ex.mono (bl_trans B1.out (DY.out)) hx (by omega)⟩
  have HGV2:Hid (GiveOk t p gs qs):=HQ.out.1 rfl
  obtain ⟨hn9,ho9⟩:=HOW.out rfl
  obtain ⟨m9,hm9⟩:∃ m9,m9=Ord.insS G.keyV (newG t p) (leftG t p.h gs):=⟨_,rfl⟩
  rw [← hm9] at hn9 ho9
  have HT:Hid (takeF t gs ps p=(m9,[(3,p.b,0,[],p.h,p.c,p.t)])):=by
   show _=_
   rw [← HTL.out,hm9]
   unfold takeF
   rw [HGD.out,if_pos rfl,if_pos HK2.out,if_pos (show wantedL p qs=true∧mayG t p gs=true∧roomG p.h (leftG t p.h gs)=true from HGV2.out)]
  subst hn9
  have HO9:=hidP ho9
  have LY:Hid (LdO Y w2.heap.size m9 qs (.slice a9 m9.length c9) (.slice a2 qs.length p2)):=by
   refine (ldo_regrant LX.out C4.out ho9 (Nat.le_refl _) ?_).keep CW.out
   have h1:=C3.out.size
   have h2:=BX0.out.size
   omega
  clear ho9 hm9
  have KA:Hid (∀ y,Off (fun j=>j=bx+3) Y y→y.cell? ⟨zb,0,none⟩=some (.int .i64 t)∧y.cell? ⟨zb,1,none⟩=some (.slice a9 m9.length c9)∧y.cell? ⟨zb,2,none⟩=some (.slice a2 qs.length p2)):=by
   intro y hy
   have h1:=Z1.out
   have h2:=(bl_trans DX.out C4.out).size
   have h3:=HZB.out
   have hcl:∀ j,y.cell? ⟨zb,j,none⟩=Y.cell? ⟨zb,j,none⟩:=fun j=>hy.cell (p:=⟨zb,j,none⟩) ZZ.out (by show ¬ zb=bx+3; omega)
   exact ⟨(hcl 0).trans (KZ.out 0),(hcl 1).trans (KZ.out 1),(hcl 2).trans (KZ.out 2)⟩
  have KB:Hid (∀ y,Off (fun j=>j=bx+3) Y y→∀ j,y.cell? ⟨bx+1,j,none⟩=(#[.int .i64 p.k,.string p.b,.int .i64 s,.slice av nv cv,.string p.h,.string p.c,.int .i64 p.t]:Array Value)[j]?):=by
   intro y hy j
   have h1:=Z1.out
   have h2:=DY.out.size
   rw [hy.cell (p:=⟨bx+1,j,none⟩) (by show bx+1 < _; omega) (by show ¬ bx+1=bx+3; omega)]
   exact KP.out Y DY.out j
  have TB:Hid (∀ y,Off (fun j=>j=bx+3) Y y→y.there (bx+2) 0 3):=by
   intro y hy j hj
   have h1:=Z1.out
   have h2:=DY.out.size
   have h3:=T1.out Y DY.out j hj
   have h4:=hy.block (bx+2) (by omega) (by omega)
   rw [← World.cell?_of_block (w:=Y) (w':=y) (a:=⟨bx+2,0+j,none⟩) h4,← World.frozen?_of_block (w:=Y) (w':=y) (a:=⟨bx+2,0+j,none⟩) h4] at h3
   exact h3
  go_wp2_with fail
  refine wp_region_any (by kernel_rfl) ?_
  refine reg_invG slGv 15 (GGv bx zb Y.heap.size t a9 m9.length c9 a2 qs.length p2 p) (DGv bx Y t a9 m9.length c9 a2 qs.length p2) (by decide) rfl ⟨fun _=>bl_drew bR,fun _=>Off.of_below bD,fun e=>by cases e⟩ ?done5 ?step5
  case done5 =>
   intro L a y hL hdf hsz hout hG hD
   obtain ⟨hO,hO2⟩:=hG 14 (by omega)
   obtain ⟨aP,cP,hsP⟩:=own_shape1 hO
   have h5:a.tmps.getD 5 undef=.slice aP 1 cP:=hsP
   have HO:Hid (y.ownsRow (bx+3) 29 7 (.slice aP 1 cP) 1 (arrS (3,p.b,0,[],p.h,p.c,p.t)).toList):=by rw [← hsP]; exact hO
   have HO2:Hid ((Value.slice aP 1 cP).ownBlock=some (bx+3)∨∃ g,(Value.slice aP 1 cP).ownBlock=some g∧Y.heap.size≤g):=by rw [← hsP]; exact hO2
   have HDY:Hid (Off (fun j=>j=bx+3∨j=bx+2) Y y∧y.rangeAt (bx+2) 0 [.int .i64 t,.slice a9 m9.length c9,.slice a2 qs.length p2]):=hD.2.2 (hL 13 (by omega))
   clear hG hD hL hO hO2 hsP
   obtain ⟨l',hl',ha⟩:=frameP_two (lo:=54) (n:=13) (se:=5) hdf hsz (lE rfl) (lE rfl) (fun j hj1 hj=>by
    by_cases hj9:j < 100000
    · exact hout j (fun i hi=>slGv_far j hj9 hj1 hj i hi)
    rw [Array.getD_eq_getD_getElem?,Array.getD_eq_getD_getElem?,Array.getElem?_eq_none (Nat.le_trans (Nat.le_of_eq hsz) (Nat.le_trans (lE rfl) (Nat.le_of_not_lt hj9))),Array.getElem?_eq_none (Nat.le_trans (lE rfl) (Nat.le_of_not_lt hj9))])
   rw [h5] at ha
   subst ha
   obtain ⟨u0,ul0,rfl,uh0⟩:=lenP_succ hl'
   obtain ⟨u1,ul1,rfl,uh1⟩:=lenP_succ uh0
   obtain ⟨u2,ul2,rfl,uh2⟩:=lenP_succ uh1
   obtain ⟨u3,ul3,rfl,uh3⟩:=lenP_succ uh2
   obtain ⟨u4,ul4,rfl,uh4⟩:=lenP_succ uh3
   obtain ⟨u5,ul5,rfl,uh5⟩:=lenP_succ uh4
   obtain ⟨u6,ul6,rfl,uh6⟩:=lenP_succ uh5
   obtain ⟨u7,ul7,rfl,uh7⟩:=lenP_succ uh6
   obtain ⟨u8,ul8,rfl,uh8⟩:=lenP_succ uh7
   obtain ⟨u9,ul9,rfl,uh9⟩:=lenP_succ uh8
   obtain ⟨u10,ul10,rfl,uh10⟩:=lenP_succ uh9
   obtain ⟨u11,ul11,rfl,uh11⟩:=lenP_succ uh10
   obtain ⟨u12,ul12,rfl,uh12⟩:=lenP_succ uh11
   obtain rfl:=lenP_zero uh12
   clear hdf hsz hout
   simp only [List.setIfInBounds_toArray,List.set_cons_succ,List.set_cons_zero,List.take_succ_cons,List.take_zero,List.drop_succ_cons,List.drop_zero,List.cons_append,List.nil_append,Nat.reduceAdd]
   have f0:=HDY.out.2 0 _ rfl
   have f1:=HDY.out.2 1 _ rfl
   have f2:=HDY.out.2 2 _ rfl
   simp only [Nat.zero_add] at f0 f1 f2
   go_wp2
   have hBX:bx=w.heap.size:=HBX.out
   have hz:=Z1.out
   have hB9:bx+4≤w2.heap.size:=by have h9:=D2.out.size; omega
   exact bodyPost_ret (v:=.tuple #[.agg #[.int .i64 t,.slice a9 m9.length c9,.slice a2 qs.length p2],.slice aP 1 cP]) (by simp [results,Tryz.results6,go_sem,f0,f1,f2]) rfl ⟨⟨t,m9,qs,[pcOf (3,p.b,0,[],p.h,p.c,p.t)],_,_,_,rfl,Or.inr ⟨HYES.out,rfl,HLK.out,by rw [HT.out],by rw [HT.out]; rfl⟩,tko_parcel2 LY.out HDY.out.1 HO.out HO2.out rfl (by omega) (by omega)⟩,(bl_trans B1.out DY.out).trans (HDY.out.1.below (fun j hj=>by omega) (bl_trans B1.out DY.out).size)⟩
  intro listed x y i hI hi hlt
  have ho:=ready_open hi
  have HLZ:=hidP hI.lz
  have HD:=hidP hI.d
  have HJ:=hidP hI
  have HI:=hidP hi
  have HO:=hidP ho
  obtain rfl | rfl | rfl | rfl | rfl | rfl | rfl | rfl | rfl | rfl | rfl | rfl | rfl | rfl | rfl:i=0∨i=1∨i=2∨i=3∨i=4∨i=5∨i=6∨i=7∨i=8∨i=9∨i=10∨i=11∨i=12∨i=13∨i=14:=by omega
  ·
   have h13:=ntr hI.tr ho [0] 13 rfl rfl
   have hof:Off (fun j=>j=bx+3) Y y:=hI.d.2.1 h13
   have e1:x.tmps[8]?.getD undef=.pointer (some ⟨zb,0,none⟩):=ev_tmp (hI.out 8 (fun i hi=>slGv_far 8 (by omega) (by omega) (by omega) i hi))
   obtain ⟨z0,z1,z2⟩:=KA.out y hof
   have HOF:=hidP hof
   clear hof
   clear hi hI ho
   refine op9 fun K hK=>?_
   go_simp
   exact HJ.out.pu hK HI.out (rfl) (fun j u _ _ _ _ h=>GGv.keep bR (fun e=>sbk HLZ e) j u h) (HD.out.keep (by decide) (by decide))
  ·
   have h13:=ntr hI.tr ho [12,1] 13 rfl rfl
   have hof:Off (fun j=>j=bx+3) Y y:=hI.d.2.1 h13
   have e1:x.tmps[6]?.getD undef=.slice (some ⟨bx+3,0,none⟩) 0 0:=ev_tmp (hI.out 6 (fun i hi=>slGv_far 6 (by omega) (by omega) (by omega) i hi))
   have HOF:=hidP hof
   clear hof
   clear hi hI ho
   refine op9 fun K hK=>?_
   go_simp
   exact HJ.out.pu hK HI.out (rfl) (fun j u _ _ _ _ h=>GGv.keep bR (fun e=>sbk HLZ e) j u h) (HD.out.keep (by decide) (by decide))
  ·
   have h13:=ntr hI.tr ho [12,11,10,3,2] 13 rfl rfl
   have hof:Off (fun j=>j=bx+3) Y y:=hI.d.2.1 h13
   have e1:x.tmps[3]?.getD undef=.pointer (some ⟨bx+1,0,none⟩):=ev_tmp (hI.out 3 (fun i hi=>slGv_far 3 (by omega) (by omega) (by omega) i hi))
   have HOF:=hidP hof
   clear hof
   clear hi hI ho
   refine op9 fun K hK=>?_
   go_simp
   exact HJ.out.pu hK HI.out (rfl) (fun j u _ _ _ _ h=>GGv.keep bR (fun e=>sbk HLZ e) j u h) (HD.out.keep (by decide) (by decide))
  ·
   have h13:=ntr hI.tr ho [12,11,10,3] 13 rfl rfl
   have hof:Off (fun j=>j=bx+3) Y y:=hI.d.2.1 h13
   have gf2:GGv bx zb Y.heap.size t a9 m9.length c9 a2 qs.length p2 p listed y 2 (x.tmps.getD 56 undef):=hI.good 2 (by omega) (wO hi)
   have e1:x.tmps[56]?.getD undef=.pointer (some ⟨bx+1,1,none⟩):=ev_tmp gf2
   have k1:y.cell? ⟨bx+1,1,none⟩=some (.string p.b):=KB.out y hof 1
   have HOF:=hidP hof
   clear hof
   clear hi hI ho
   refine op9 fun K hK=>?_
   go_simp
   exact HJ.out.pu hK HI.out (rfl) (fun j u _ _ _ _ h=>GGv.keep bR (fun e=>sbk HLZ e) j u h) (HD.out.keep (by decide) (by decide))
  ·
   have h13:=ntr hI.tr ho [12,11,10,5,4] 13 rfl rfl
   have hof:Off (fun j=>j=bx+3) Y y:=hI.d.2.1 h13
   have e1:x.tmps[3]?.getD undef=.pointer (some ⟨bx+1,0,none⟩):=ev_tmp (hI.out 3 (fun i hi=>slGv_far 3 (by omega) (by omega) (by omega) i hi))
   have HOF:=hidP hof
   clear hof
   clear hi hI ho
   refine op9 fun K hK=>?_
   go_simp
   exact HJ.out.pu hK HI.out (rfl) (fun j u _ _ _ _ h=>GGv.keep bR (fun e=>sbk HLZ e) j u h) (HD.out.keep (by decide) (by decide))
  ·
   have h13:=ntr hI.tr ho [12,11,10,5] 13 rfl rfl
   have hof:Off (fun j=>j=bx+3) Y y:=hI.d.2.1 h13
   have gf4:GGv bx zb Y.heap.size t a9 m9.length c9 a2 qs.length p2 p listed y 4 (x.tmps.getD 58 undef):=hI.good 4 (by omega) (wO hi)
   have e1:x.tmps[58]?.getD undef=.pointer (some ⟨bx+1,4,none⟩):=ev_tmp gf4
   have k1:y.cell? ⟨bx+1,4,none⟩=some (.string p.h):=KB.out y hof 4
   have HOF:=hidP hof
   clear hof
   clear hi hI ho
   refine op9 fun K hK=>?_
   go_simp
   exact HJ.out.pu hK HI.out (rfl) (fun j u _ _ _ _ h=>GGv.keep bR (fun e=>sbk HLZ e) j u h) (HD.out.keep (by decide) (by decide))
  ·
   have h13:=ntr hI.tr ho [12,11,10,7,6] 13 rfl rfl
   have hof:Off (fun j=>j=bx+3) Y y:=hI.d.2.1 h13
   have e1:x.tmps[3]?.getD undef=.pointer (some ⟨bx+1,0,none⟩):=ev_tmp (hI.out 3 (fun i hi=>slGv_far 3 (by omega) (by omega) (by omega) i hi))
   have HOF:=hidP hof
   clear hof
   clear hi hI ho
   refine op9 fun K hK=>?_
   go_simp
   exact HJ.out.pu hK HI.out (rfl) (fun j u _ _ _ _ h=>GGv.keep bR (fun e=>sbk HLZ e) j u h) (HD.out.keep (by decide) (by decide))
  ·
   have h13:=ntr hI.tr ho [12,11,10,7] 13 rfl rfl
   have hof:Off (fun j=>j=bx+3) Y y:=hI.d.2.1 h13
   have gf6:GGv bx zb Y.heap.size t a9 m9.length c9 a2 qs.length p2 p listed y 6 (x.tmps.getD 60 undef):=hI.good 6 (by omega) (wO hi)
   have e1:x.tmps[60]?.getD undef=.pointer (some ⟨bx+1,5,none⟩):=ev_tmp gf6
   have k1:y.cell? ⟨bx+1,5,none⟩=some (.string p.c):=KB.out y hof 5
   have HOF:=hidP hof
   clear hof
   clear hi hI ho
   refine op9 fun K hK=>?_
   go_simp
   exact HJ.out.pu hK HI.out (rfl) (fun j u _ _ _ _ h=>GGv.keep bR (fun e=>sbk HLZ e) j u h) (HD.out.keep (by decide) (by decide))
  ·
   have h13:=ntr hI.tr ho [12,11,10,9,8] 13 rfl rfl
   have hof:Off (fun j=>j=bx+3) Y y:=hI.d.2.1 h13
   have e1:x.tmps[3]?.getD undef=.pointer (some ⟨bx+1,0,none⟩):=ev_tmp (hI.out 3 (fun i hi=>slGv_far 3 (by omega) (by omega) (by omega) i hi))
   have HOF:=hidP hof
   clear hof
   clear hi hI ho
   refine op9 fun K hK=>?_
   go_simp
   exact HJ.out.pu hK HI.out (rfl) (fun j u _ _ _ _ h=>GGv.keep bR (fun e=>sbk HLZ e) j u h) (HD.out.keep (by decide) (by decide))
  ·
   have h13:=ntr hI.tr ho [12,11,10,9] 13 rfl rfl
   have hof:Off (fun j=>j=bx+3) Y y:=hI.d.2.1 h13
   have gf8:GGv bx zb Y.heap.size t a9 m9.length c9 a2 qs.length p2 p listed y 8 (x.tmps.getD 62 undef):=hI.good 8 (by omega) (wO hi)
   have e1:x.tmps[62]?.getD undef=.pointer (some ⟨bx+1,6,none⟩):=ev_tmp gf8
   have k1:y.cell? ⟨bx+1,6,none⟩=some (.int .i64 p.t):=KB.out y hof 6
   have HOF:=hidP hof
   clear hof
   clear hi hI ho
   refine op9 fun K hK=>?_
   go_simp
   exact HJ.out.pu hK HI.out (rfl) (fun j u _ _ _ _ h=>GGv.keep bR (fun e=>sbk HLZ e) j u h) (HD.out.keep (by decide) (by decide))
  ·
   have h13:=ntr hI.tr ho [12,11,10] 13 rfl rfl
   have hof:Off (fun j=>j=bx+3) Y y:=hI.d.2.1 h13
   have gf3:GGv bx zb Y.heap.size t a9 m9.length c9 a2 qs.length p2 p listed y 3 (x.tmps.getD 57 undef):=hI.good 3 (by omega) (wO hi)
   have e1:x.tmps[57]?.getD undef=.string p.b:=ev_tmp gf3
   have gf5:GGv bx zb Y.heap.size t a9 m9.length c9 a2 qs.length p2 p listed y 5 (x.tmps.getD 59 undef):=hI.good 5 (by omega) (wO hi)
   have e2:x.tmps[59]?.getD undef=.string p.h:=ev_tmp gf5
   have gf7:GGv bx zb Y.heap.size t a9 m9.length c9 a2 qs.length p2 p listed y 7 (x.tmps.getD 61 undef):=hI.good 7 (by omega) (wO hi)
   have e3:x.tmps[61]?.getD undef=.string p.c:=ev_tmp gf7
   have gf9:GGv bx zb Y.heap.size t a9 m9.length c9 a2 qs.length p2 p listed y 9 (x.tmps.getD 63 undef):=hI.good 9 (by omega) (wO hi)
   have e4:x.tmps[63]?.getD undef=.int .i64 p.t:=ev_tmp gf9
   have HOF:=hidP hof
   clear hof
   clear hi hI ho
   refine op9 fun K hK=>?_
   go_simp
   exact HJ.out.pu hK HI.out (rfl) (fun j u _ _ _ _ h=>GGv.keep bR (fun e=>sbk HLZ e) j u h) (HD.out.keep (by decide) (by decide))
  ·
   have h13:=ntr hI.tr ho [12,11] 13 rfl rfl
   have hof:Off (fun j=>j=bx+3) Y y:=hI.d.2.1 h13
   have gf10:GGv bx zb Y.heap.size t a9 m9.length c9 a2 qs.length p2 p listed y 10 (x.tmps.getD 64 undef):=hI.good 10 (by omega) (wO hi)
   have e1:x.tmps[64]?.getD undef=.agg #[.int .i64 3,.string p.b,.int .i64 0,.slice none 0 0,.string p.h,.string p.c,.int .i64 p.t]:=ev_tmp gf10
   have h12:listed.getD 12 false=false:=hI.shut ho (by rfl)
   have hb:∀ w,Sem.run Tryz.prog (Instr.buildSlice 32 1 #[(0,.agg #[.int .i64 3,.string p.b,.int .i64 0,.slice none 0 0,.string p.h,.string p.c,.int .i64 p.t])]) w=.ok (.slice (some ⟨w.heap.size,0,none⟩) 1 1) (w.alloc (.cells (arrS (3,p.b,0,[],p.h,p.c,p.t)) 29)):=bld3 p
   have HOF:=hidP hof
   clear hof
   clear hi hI ho
   refine op9 fun K hK=>?_
   go_simp
   have hbl:Below y.heap.size y (y.alloc (.cells (arrS (3,p.b,0,[],p.h,p.c,p.t)) 29)):=bl_alloc bR _
   exact HJ.out.pu hK HI.out (fun _=>⟨y.heap.size,rfl,by simp,heap_alloc_newL y _⟩) (fun j u _ _ _ _ h=>GGv.keep hbl (fun e=>sbk HLZ e) j u h) (HD.out.grow (by decide) (by decide) h13 h12 hbl)
  ·
   have h13:=ntr hI.tr ho [12] 13 rfl rfl
   have hof:Off (fun j=>j=bx+3) Y y:=hI.d.2.1 h13
   have gf1:GGv bx zb Y.heap.size t a9 m9.length c9 a2 qs.length p2 p listed y 1 (x.tmps.getD 55 undef):=hI.good 1 (by omega) (wO hi)
   have gf11:GGv bx zb Y.heap.size t a9 m9.length c9 a2 qs.length p2 p listed y 11 (x.tmps.getD 65 undef):=hI.good 11 (by omega) (wO hi)
   have h12:listed.getD 12 false=false:=noT (fun h=>openT ho h)
   have hbw:Below Y.heap.size Y y:=hI.d.1 h12
   obtain ⟨g9,e2,-,c9'⟩:=gf11 h12
   have e1:x.tmps.getD 55 undef=.slice (some ⟨bx+3,0,none⟩) 0 0:=gf1
   have HBW:=hidP hbw
   have hz14:=ntr hI.tr ho [13,12] 14 rfl rfl
   clear hbw
   have HOF:=hidP hof
   clear hof
   clear hi hI ho
   refine op9 fun K hK=>?_
   refine appPc (.tmp 55) (.tmp 65) rfl (bx+3) (bx+3) (3,p.b,0,[],p.h,p.c,p.t) g9 e1 (G.owns_below ROW.out (bl_trans DY.out HBW.out)) (by have h1:=Z1.out; have h2:=(bl_trans DY.out HBW.out).size; omega) e2 c9' ?_
   intro s' w' o2 hg hat
   exact HJ.out.pu hK HI.out (⟨o2,by rcases hat with h | h; exact Or.inl h; exact Or.inr ⟨_,h,HBW.out.size⟩⟩) (fun j u _ _ hne hl h=>GGv.dead (setT_same (by rw [HLZ.out]; omega)) j u hne (fun e=>by subst e; rw [hz14] at hl; cases hl) h) (⟨(fun e=>by rw [setT_same (by rw [HLZ.out]; omega)] at e; cases e),(fun _=>(Off.of_below HBW.out).trans (Off.of_grown hg (fun j hj=>(Option.some.inj hj).symm))),(fun e=>by rw [setT_ne (by decide),h13] at e; cases e)⟩)
  ·
   have h13:listed.getD 13 false=false:=noT (fun h=>openT ho h)
   have hof:Off (fun j=>j=bx+3) Y y:=hI.d.2.1 h13
   have gf0:GGv bx zb Y.heap.size t a9 m9.length c9 a2 qs.length p2 p listed y 0 (x.tmps.getD 54 undef):=hI.good 0 (by omega) (wO hi)
   have e2:x.tmps.getD 54 undef=.agg #[.int .i64 t,.slice a9 m9.length c9,.slice a2 qs.length p2]:=gf0
   have e1:x.tmps.getD 4 undef=.pointer (some ⟨bx+2,0,none⟩):=hI.out 4 (fun i hi=>slGv_far 4 (by omega) (by omega) (by omega) i hi)
   have hz14:listed.getD 14 false=false:=hI.shut ho (by rfl)
   have h12y:=waits_of hi (i:=13) (j:=12) (by rfl)
   have HOF:=hidP hof
   clear hof
   clear hi hI ho
   refine op9 fun K hK=>?_
   refine wp_store_mid 26 _ _ rfl (bx+2) 0 #[.int .i64 t,.slice a9 m9.length c9,.slice a2 qs.length p2] e1 e2 (TB.out y HOF.out) hinfo (by simp [Value.oneCell']) ?_
   have hx:Ex (bx+2) y (y.setCells (bx+2) 0 [.int .i64 t,.slice a9 m9.length c9,.slice a2 qs.length p2]):=(Ex.refl _ _).cells _ _
   have hrg:(y.setCells (bx+2) 0 [.int .i64 t,.slice a9 m9.length c9,.slice a2 qs.length p2]).rangeAt (bx+2) 0 [.int .i64 t,.slice a9 m9.length c9,.slice a2 qs.length p2]:=World.rangeAt_setCells_same y (bx+2) 0 _ (TB.out y HOF.out)
   exact hK.out _ _ (HJ.out.nil HI.out (by omega) (fun _=>trivial) (fun j u _ _ _ hl h=>GGv.stored hx (by have h1:=Z1.out; have h2:=DY.out.size; omega) (by rw [setT_ne (by decide)]; exact h12y) j u (fun e=>by subst e; rw [hz14] at hl; cases hl) h) (⟨(fun e=>by rw [setT_ne (by decide),h12y] at e; cases e),(fun e=>by rw [setT_same (by rw [HLZ.out]; omega)] at e; cases e),(fun _=>⟨Off.both HOF.out hx,hrg⟩)⟩) undef)
  have gf12:GGv bx zb Y.heap.size t a9 m9.length c9 a2 qs.length p2 p listed y 12 (x.tmps.getD 66 undef):=hI.good 12 (by omega) (wO hi)
  have h13y:=waits_of hi (i:=14) (j:=13) (by rfl)
  have h12y:=hI.tr 13 12 (by rfl) h13y
  have gf12':=gf12
  obtain ⟨hOO,-⟩:=gf12'
  obtain ⟨aP,cP,hsP⟩:=own_shape1 hOO
  have e1:x.tmps[66]?.getD undef=.slice aP 1 cP:=ev_tmp hsP
  have G12:Hid (GGv bx zb Y.heap.size t a9 m9.length c9 a2 qs.length p2 p listed y 12 (.slice aP 1 cP)):=by rw [← hsP]; exact gf12
  clear gf12 hOO hsP
  clear hi hI ho
  refine op9 fun K hK=>?_
  go_simp
  exact HJ.out.pu hK HI.out (G12.out) (fun j u _ _ _ _ h=>GGv.keep bR (fun e=>sbk HLZ e) j u h) (HD.out.keep (by decide) (by decide))
theorem specTakeL_z (t:Int) (gs:List G.GrantD) (ps:List P.PlaceD) (b1 b2:Option Addr) (kk1 kk2:Nat) (p:TakeP) (s:Int) (av:Option Addr) (nv cv:Nat) (w:World) (hA:P.LandZ w gs ps b1 b2 kk1) (hF:P.Fit gs ps) (hf:p.fits) :
  Calls Tryz.prog 6 #[.agg #[.int .i64 t,.slice b1 gs.length kk1,.slice b2 ps.length kk2],.agg #[.int .i64 p.k,.string p.b,.int .i64 s,.slice av nv cv,.string p.h,.string p.c,.int .i64 p.t]] w fun e w'=>(∃ t' gs' qs ds s1 s2 v,e=.returned (.tuple #[.agg #[.int .i64 t',s1,s2],v])∧TakeLSay t gs ps p t' gs' qs ds∧TkO w' w.heap.size gs' qs ds s1 s2 v)∧Below w.heap.size w w':=by
 by_cases h:P.LandSay t gs ps
 · exact specTakeL_go_z t gs ps b1 b2 kk1 kk2 p s av nv cv w hA hF hf h
 · exact specTakeL_no_z t gs ps b1 b2 kk1 kk2 p s av nv cv w hA hF hf h
end Go.Proofs.YtcjhlhijdacinaaGreatDoor
