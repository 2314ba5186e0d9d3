import Derived.Test.YtcjhlhijdacinaaGreatDoorJ21
import Derived.Test.YtcjhlhijdacinaaGreatDoorJ40
namespace Go.Proofs.YtcjhlhijdacinaaGreatDoor
open Go.RowKit Go.Maps Go.WideMaps
set_option linter.unusedVariables false
set_option maxRecDepth 4000 in
set_option maxHeartbeats 8000000 in
theorem specTick_no_z (t:Int) (gs:List G.GrantD) (ps:List P.PlaceD) (b1 b2:Option Addr) (kk1 kk2:Nat) (w:World) (hA:P.LandZ w gs ps b1 b2 kk1) (hF:P.Fit gs ps) (hno:¬ P.LandSay t gs ps) :
  Calls Tryz.prog 10 #[.agg #[.int .i64 t,.slice b1 gs.length kk1,.slice b2 ps.length kk2]] w fun e w'=>(∃ t' gs' qs ds s1 s2 v,e=.returned (.tuple #[.agg #[.int .i64 t',s1,s2],v])∧TickSay t gs ps t' gs' qs ds∧TkO w' w.heap.size gs' qs ds s1 s2 v)∧Below w.heap.size w w':=by
 have hinfo:(Tryz.prog.info? 26).map (·.size)=some 3:=by kernel_rfl
 obtain ⟨W1,hW1⟩:∃ W1,W1=((w.alloc (.cells #[.int .i64 t,.slice b1 gs.length kk1,.slice b2 ps.length kk2] 26)).alloc (.cells #[.int .i64 0,.slice none 0 0,.slice none 0 0] 26)).alloc (.cells #[] 29):=⟨_,rfl⟩
 have HW1:=hidP hW1
 have B1:Hid (Below w.heap.size w W1):=by rw [hW1]; exact bl_alloc (bl_alloc (bl_alloc bR _) _) _
 have Z1:Hid (W1.heap.size=w.heap.size+3):=by rw [hW1]; show _=_; simp
 obtain ⟨bx,hbx⟩:∃ bx,bx=w.heap.size:=⟨_,rfl⟩
 have HBX:=hidP hbx
 have K0:Hid (∀ y,Below W1.heap.size W1 y→∀ j,y.cell? ⟨bx,j,none⟩=(#[.int .i64 t,.slice b1 gs.length kk1,.slice b2 ps.length kk2]:Array Value)[j]?):=by
  intro y hy j
  rw [hbx,hy.cell (p:=⟨w.heap.size,j,none⟩) (by show w.heap.size < _; rw [Z1.out]; omega),hW1]
  simp [go_sem]
 have T1:Hid (W1.heap[bx+1]?=some (.cells #[.int .i64 0,.slice none 0 0,.slice none 0 0] 26 (0,0))):=by
  rw [hW1,hbx]
  have h:=heap_alloc_newL (w.alloc (.cells #[.int .i64 t,.slice b1 gs.length kk1,.slice b2 ps.length kk2] 26)) (.cells #[.int .i64 0,.slice none 0 0,.slice none 0 0] 26)
  rw [World.size_alloc] at h
  exact (heap_alloc_old _ _ (by simp)).trans h
 have ROW:Hid (W1.ownsRow w.heap.size 29 7 (.slice (some ⟨bx+2,0,none⟩) 0 0) 0 []):=by
  have h:=World.ownsRow_made (base:=w.heap.size) (e:=29) (size:=7) ((w.alloc (.cells #[.int .i64 t,.slice b1 gs.length kk1,.slice b2 ps.length kk2] 26)).alloc (.cells #[.int .i64 0,.slice none 0 0,.slice none 0 0] 26)) #[] 0 (by simp; omega) (Nat.zero_le _) rfl
  rw [hW1,hbx]
  simp only [World.size_alloc] at h
  exact h
 have OK:Hid (Calls Tryz.prog 11 #[.agg #[.int .i64 t,.slice b1 gs.length kk1,.slice b2 ps.length kk2]] W1 fun e w'=>e=.returned (.bool false)∧Below W1.heap.size W1 w'):=by
  refine (P.specLandOk_z t gs ps b1 b2 kk1 kk2 W1 (hA.keep B1.out) hF).mono ?_
  rintro e w' ⟨⟨q,rfl,hq⟩,hb⟩
  exact ⟨by cases q with | false=>rfl | true=>exact (hno (hq.1 rfl)).elim,hb⟩
 have CP:Hid (∀ y,Below W1.heap.size W1 y→Calls Tryz.prog 24 #[.agg #[.int .i64 t,.slice b1 gs.length kk1,.slice b2 ps.length kk2]] y fun e w'=>(∃ qs s1 s2,e=.returned (.agg #[.int .i64 t,s1,s2])∧P.Like qs ps∧LdO w' y.heap.size gs qs s1 s2)∧Below y.heap.size y w'):=fun y hy=>l6Copy_any_z t gs ps b1 b2 kk1 kk2 y (hA.keep (bl_trans B1.out hy)) hF.gl hF.pl hF.ln
 have HF:=hidP hF
 have hb0:=bld0C
 have HNO:=hidP hno
 clear hno
 clear hA hF hW1
 go_enter Tryz.func10,Tryz.ntmps10
 go_wp2_with fail
 rw [← hbx]
 clear hbx
 rw [← HW1.out]
 refine OK.out.mono ?_
 rintro e w2 ⟨rfl,c2⟩
 have D2:=hidP c2
 have T2:Hid (w2.there (bx+1) 0 3):=there_land ((c2.block _ (by have h1:=Z1.out; have h2:=HBX.out; omega)).trans T1.out)
 clear c2
 go_wp2_with (refine wpList_store_mid (by rfl) 26 _ _ (by rfl) (bx+1) 0 #[.int .i64 0,.slice none 0 0,.slice none 0 0] (by rfl) (by rfl) (by exact T2.out) hinfo (by simp [Value.oneCell']) ?_)
 have hrg:=World.rangeAt_setCells_same w2 (bx+1) 0 [.int .i64 0,.slice none 0 0,.slice none 0 0] (by exact T2.out)
 have e0:=hrg 0 _ rfl
 have e1:=hrg 1 _ rfl
 have e2:=hrg 2 _ rfl
 simp only [Nat.zero_add] at e0 e1 e2
 have hx:Ex (bx+1) w2 (w2.setCells (bx+1) 0 [.int .i64 0,.slice none 0 0,.slice none 0 0]):=(Ex.refl _ _).cells _ _
 have hBX:=HBX.out
 have hz:=Z1.out
 have hd:=D2.out.size
 exact bodyPost_ret (v:=.tuple #[.agg #[.int .i64 0,.slice none 0 0,.slice none 0 0],.slice (some ⟨bx+2,0,none⟩) 0 0]) (by simp [results,Tryz.results10,go_sem,e0,e1,e2]) rfl ⟨⟨0,[],[],[],_,_,_,rfl,Or.inl ⟨HNO.out,rfl,rfl,rfl,rfl⟩,LdO.nil _ _,pco_empty (by omega) (Nat.lt_of_lt_of_le (by omega) hx.size),fun g hg=>by rcases hg with e | e | ⟨j,q,hq,-⟩; cases e; cases e; simp at hq⟩,Ex.mono (bl_trans B1.out D2.out) hx (by omega)⟩
set_option maxRecDepth 4000 in
set_option maxHeartbeats 8000000 in
theorem specTick_over_z (t:Int) (gs:List G.GrantD) (ps:List P.PlaceD) (b1 b2:Option Addr) (kk1 kk2:Nat) (w:World) (hA:P.LandZ w gs ps b1 b2 kk1) (hF:P.Fit gs ps) (hyes:P.LandSay t gs ps) (htm:2000000≤t) :
  Calls Tryz.prog 10 #[.agg #[.int .i64 t,.slice b1 gs.length kk1,.slice b2 ps.length kk2]] w fun e w'=>(∃ t' gs' qs ds s1 s2 v,e=.returned (.tuple #[.agg #[.int .i64 t',s1,s2],v])∧TickSay t gs ps t' gs' qs ds∧TkO w' w.heap.size gs' qs ds s1 s2 v)∧Below w.heap.size w w':=by
 have hinfo:(Tryz.prog.info? 26).map (·.size)=some 3:=by kernel_rfl
 obtain ⟨W1,hW1⟩:∃ W1,W1=((w.alloc (.cells #[.int .i64 t,.slice b1 gs.length kk1,.slice b2 ps.length kk2] 26)).alloc (.cells #[.int .i64 0,.slice none 0 0,.slice none 0 0] 26)).alloc (.cells #[] 29):=⟨_,rfl⟩
 have HW1:=hidP hW1
 have B1:Hid (Below w.heap.size w W1):=by rw [hW1]; exact bl_alloc (bl_alloc (bl_alloc bR _) _) _
 have Z1:Hid (W1.heap.size=w.heap.size+3):=by rw [hW1]; show _=_; simp
 obtain ⟨bx,hbx⟩:∃ bx,bx=w.heap.size:=⟨_,rfl⟩
 have HBX:=hidP hbx
 have K0:Hid (∀ y,Below W1.heap.size W1 y→∀ j,y.cell? ⟨bx,j,none⟩=(#[.int .i64 t,.slice b1 gs.length kk1,.slice b2 ps.length kk2]:Array Value)[j]?):=by
  intro y hy j
  rw [hbx,hy.cell (p:=⟨w.heap.size,j,none⟩) (by show w.heap.size < _; rw [Z1.out]; omega),hW1]
  simp [go_sem]
 have T1:Hid (W1.heap[bx+1]?=some (.cells #[.int .i64 0,.slice none 0 0,.slice none 0 0] 26 (0,0))):=by
  rw [hW1,hbx]
  have h:=heap_alloc_newL (w.alloc (.cells #[.int .i64 t,.slice b1 gs.length kk1,.slice b2 ps.length kk2] 26)) (.cells #[.int .i64 0,.slice none 0 0,.slice none 0 0] 26)
  rw [World.size_alloc] at h
  exact (heap_alloc_old _ _ (by simp)).trans h
 have ROW:Hid (W1.ownsRow w.heap.size 29 7 (.slice (some ⟨bx+2,0,none⟩) 0 0) 0 []):=by
  have h:=World.ownsRow_made (base:=w.heap.size) (e:=29) (size:=7) ((w.alloc (.cells #[.int .i64 t,.slice b1 gs.length kk1,.slice b2 ps.length kk2] 26)).alloc (.cells #[.int .i64 0,.slice none 0 0,.slice none 0 0] 26)) #[] 0 (by simp; omega) (Nat.zero_le _) rfl
  rw [hW1,hbx]
  simp only [World.size_alloc] at h
  exact h
 have OK:Hid (Calls Tryz.prog 11 #[.agg #[.int .i64 t,.slice b1 gs.length kk1,.slice b2 ps.length kk2]] W1 fun e w'=>e=.returned (.bool true)∧Below W1.heap.size W1 w'):=by
  refine (P.specLandOk_z t gs ps b1 b2 kk1 kk2 W1 (hA.keep B1.out) hF).mono ?_
  rintro e w' ⟨⟨q,rfl,hq⟩,hb⟩
  exact ⟨by rw [hq.2 hyes],hb⟩
 have CP:Hid (∀ y,Below W1.heap.size W1 y→Calls Tryz.prog 24 #[.agg #[.int .i64 t,.slice b1 gs.length kk1,.slice b2 ps.length kk2]] y fun e w'=>(∃ qs s1 s2,e=.returned (.agg #[.int .i64 t,s1,s2])∧P.Like qs ps∧LdO w' y.heap.size gs qs s1 s2)∧Below y.heap.size y w'):=fun y hy=>l6Copy_any_z t gs ps b1 b2 kk1 kk2 y (hA.keep (bl_trans B1.out hy)) hF.gl hF.pl hF.ln
 have HF:=hidP hF
 have hb0:=bld0C
 have ht0:0≤t∧t≤2000000:=by
  have h:=hyes.1
  simp [P.timeB,inB] at h
  omega
 obtain ⟨ht0,ht1⟩:=ht0
 have HYES:=hidP hyes
 clear hyes
 clear hA hF hW1
 go_enter Tryz.func10,Tryz.ntmps10
 go_wp2_with fail
 rw [← hbx]
 clear hbx
 rw [← HW1.out]
 refine OK.out.mono ?_
 rintro e w2 ⟨rfl,c2⟩
 have D2:=hidP c2
 have T2:Hid (w2.there (bx+1) 0 3):=there_land ((c2.block _ (by have h1:=Z1.out; have h2:=HBX.out; omega)).trans T1.out)
 clear c2
 have t0:w2.cell? ⟨bx,0,none⟩=some (.int .i64 t):=K0.out w2 D2.out 0
 have t1:w2.cell? ⟨bx,1,none⟩=some (.slice b1 gs.length kk1):=K0.out w2 D2.out 1
 have t2:w2.cell? ⟨bx,2,none⟩=some (.slice b2 ps.length kk2):=K0.out w2 D2.out 2
 go_wp2_with fail
 clear t0 t1 t2
 refine (CP.out w2 D2.out).mono ?_
 rintro e w3 ⟨⟨qs,s1,s2,rfl,hlk,hL⟩,c3⟩
 have HLK:=hidP hlk
 obtain ⟨a1,p1,rfl⟩:=G.Sl.shape hL.g
 obtain ⟨a2,p2,hs2⟩:=Pr.Sl.shape hL.p.o
 rw [List.length_map] at hs2
 subst hs2
 have HL3:=hidP hL
 have D3:=hidP (bl_trans D2.out c3)
 have H23:=hidP c3.size
 clear hlk hL c3
 have HLQ:=hidP HLK.out.len
 have T3:Hid ((w3.alloc (.cells #[.int .i64 t,.slice a1 gs.length p1,.slice a2 qs.length p2] 26)).there (bx+1) 0 3):=there_land (((bl_trans D3.out (bl_alloc bR _)).block _ (by have h1:=Z1.out; have h2:=HBX.out; omega)).trans T1.out)
 go_wp2_with (refine wpList_store_mid (by rfl) 26 _ _ (by rfl) (bx+1) 0 #[.int .i64 t,.slice a1 gs.length p1,.slice a2 qs.length p2] (by rfl) (by rfl) (by exact T3.out) hinfo (by simp [Value.oneCell']) ?_)
 have hrg:=World.rangeAt_setCells_same (w3.alloc (.cells #[.int .i64 t,.slice a1 gs.length p1,.slice a2 qs.length p2] 26)) (bx+1) 0 [.int .i64 t,.slice a1 gs.length p1,.slice a2 qs.length p2] (by exact T3.out)
 have e0:=hrg 0 _ rfl
 have e1:=hrg 1 _ rfl
 have e2:=hrg 2 _ rfl
 simp only [Nat.zero_add] at e0 e1 e2
 have hx:Ex (bx+1) (w3.alloc (.cells #[.int .i64 t,.slice a1 gs.length p1,.slice a2 qs.length p2] 26)) ((w3.alloc (.cells #[.int .i64 t,.slice a1 gs.length p1,.slice a2 qs.length p2] 26)).setCells (bx+1) 0 [.int .i64 t,.slice a1 gs.length p1,.slice a2 qs.length p2]):=(Ex.refl _ _).cells _ _
 have hBX:=HBX.out
 have hz:=Z1.out
 have hd:=D2.out.size
 have hd3:=D3.out.size
 have hL4:=(HL3.out.keep (bl_alloc bR (.cells #[.int .i64 t,.slice a1 gs.length p1,.slice a2 qs.length p2] 26))).off (off_of_ex hx) (fun g hg e=>by have:=(HL3.out.lt g hg).1; omega)
 refine bodyPost_ret (v:=.tuple #[.agg #[.int .i64 t,.slice a1 gs.length p1,.slice a2 qs.length p2],.slice (some ⟨bx+2,0,none⟩) 0 0]) (by simp [results,Tryz.results10,go_sem,e0,e1,e2]) rfl ⟨⟨t,gs,qs,[],_,_,_,rfl,Or.inr ⟨HYES.out,rfl,HLK.out,Or.inl ⟨htm,rfl,rfl⟩⟩,hL4.low (by omega),pco_empty (by omega) (Nat.lt_of_lt_of_le (by simp; omega) hx.size), ?_⟩,Ex.mono (bl_trans B1.out (bl_trans D3.out (bl_alloc bR _))) hx (by omega)⟩
 rintro g hg (e | ⟨j,d,hd,-⟩)
 ·
  have h1:=(HL3.out.lt g hg).1
  have h2:bx+2=g:=Option.some.inj e
  omega
 · simp at hd
set_option maxRecDepth 4000 in
set_option maxHeartbeats 8000000 in
theorem specTick_go_z (t:Int) (gs:List G.GrantD) (ps:List P.PlaceD) (b1 b2:Option Addr) (kk1 kk2:Nat) (w:World) (hA:P.LandZ w gs ps b1 b2 kk1) (hF:P.Fit gs ps) (hyes:P.LandSay t gs ps) (htm:¬ 2000000≤t) :
  Calls Tryz.prog 10 #[.agg #[.int .i64 t,.slice b1 gs.length kk1,.slice b2 ps.length kk2]] w fun e w'=>(∃ t' gs' qs ds s1 s2 v,e=.returned (.tuple #[.agg #[.int .i64 t',s1,s2],v])∧TickSay t gs ps t' gs' qs ds∧TkO w' w.heap.size gs' qs ds s1 s2 v)∧Below w.heap.size w w':=by
 have hinfo:(Tryz.prog.info? 26).map (·.size)=some 3:=by kernel_rfl
 obtain ⟨W1,hW1⟩:∃ W1,W1=((w.alloc (.cells #[.int .i64 t,.slice b1 gs.length kk1,.slice b2 ps.length kk2] 26)).alloc (.cells #[.int .i64 0,.slice none 0 0,.slice none 0 0] 26)).alloc (.cells #[] 29):=⟨_,rfl⟩
 have HW1:=hidP hW1
 have B1:Hid (Below w.heap.size w W1):=by rw [hW1]; exact bl_alloc (bl_alloc (bl_alloc bR _) _) _
 have Z1:Hid (W1.heap.size=w.heap.size+3):=by rw [hW1]; show _=_; simp
 obtain ⟨bx,hbx⟩:∃ bx,bx=w.heap.size:=⟨_,rfl⟩
 have HBX:=hidP hbx
 have K0:Hid (∀ y,Below W1.heap.size W1 y→∀ j,y.cell? ⟨bx,j,none⟩=(#[.int .i64 t,.slice b1 gs.length kk1,.slice b2 ps.length kk2]:Array Value)[j]?):=by
  intro y hy j
  rw [hbx,hy.cell (p:=⟨w.heap.size,j,none⟩) (by show w.heap.size < _; rw [Z1.out]; omega),hW1]
  simp [go_sem]
 have T1:Hid (W1.heap[bx+1]?=some (.cells #[.int .i64 0,.slice none 0 0,.slice none 0 0] 26 (0,0))):=by
  rw [hW1,hbx]
  have h:=heap_alloc_newL (w.alloc (.cells #[.int .i64 t,.slice b1 gs.length kk1,.slice b2 ps.length kk2] 26)) (.cells #[.int .i64 0,.slice none 0 0,.slice none 0 0] 26)
  rw [World.size_alloc] at h
  exact (heap_alloc_old _ _ (by simp)).trans h
 have ROW:Hid (W1.ownsRow w.heap.size 29 7 (.slice (some ⟨bx+2,0,none⟩) 0 0) 0 []):=by
  have h:=World.ownsRow_made (base:=w.heap.size) (e:=29) (size:=7) ((w.alloc (.cells #[.int .i64 t,.slice b1 gs.length kk1,.slice b2 ps.length kk2] 26)).alloc (.cells #[.int .i64 0,.slice none 0 0,.slice none 0 0] 26)) #[] 0 (by simp; omega) (Nat.zero_le _) rfl
  rw [hW1,hbx]
  simp only [World.size_alloc] at h
  exact h
 have OK:Hid (Calls Tryz.prog 11 #[.agg #[.int .i64 t,.slice b1 gs.length kk1,.slice b2 ps.length kk2]] W1 fun e w'=>e=.returned (.bool true)∧Below W1.heap.size W1 w'):=by
  refine (P.specLandOk_z t gs ps b1 b2 kk1 kk2 W1 (hA.keep B1.out) hF).mono ?_
  rintro e w' ⟨⟨q,rfl,hq⟩,hb⟩
  exact ⟨by rw [hq.2 hyes],hb⟩
 have CP:Hid (∀ y,Below W1.heap.size W1 y→Calls Tryz.prog 24 #[.agg #[.int .i64 t,.slice b1 gs.length kk1,.slice b2 ps.length kk2]] y fun e w'=>(∃ qs s1 s2,e=.returned (.agg #[.int .i64 t,s1,s2])∧P.Like qs ps∧LdO w' y.heap.size gs qs s1 s2)∧Below y.heap.size y w'):=fun y hy=>l6Copy_any_z t gs ps b1 b2 kk1 kk2 y (hA.keep (bl_trans B1.out hy)) hF.gl hF.pl hF.ln
 have HF:=hidP hF
 have hb0:=bld0C
 have ht0:0≤t∧t≤2000000:=by
  have h:=hyes.1
  simp [P.timeB,inB] at h
  omega
 obtain ⟨ht0,ht1⟩:=ht0
 have HYES:=hidP hyes
 clear hyes
 clear hA hF hW1
 go_enter Tryz.func10,Tryz.ntmps10
 go_wp2_with fail
 rw [← hbx]
 clear hbx
 rw [← HW1.out]
 refine OK.out.mono ?_
 rintro e w2 ⟨rfl,c2⟩
 have D2:=hidP c2
 have T2:Hid (w2.there (bx+1) 0 3):=there_land ((c2.block _ (by have h1:=Z1.out; have h2:=HBX.out; omega)).trans T1.out)
 clear c2
 have t0:w2.cell? ⟨bx,0,none⟩=some (.int .i64 t):=K0.out w2 D2.out 0
 have t1:w2.cell? ⟨bx,1,none⟩=some (.slice b1 gs.length kk1):=K0.out w2 D2.out 1
 have t2:w2.cell? ⟨bx,2,none⟩=some (.slice b2 ps.length kk2):=K0.out w2 D2.out 2
 go_wp2_with fail
 clear t0 t1 t2
 refine (CP.out w2 D2.out).mono ?_
 rintro e w3 ⟨⟨qs,s1,s2,rfl,hlk,hL⟩,c3⟩
 have HLK:=hidP hlk
 obtain ⟨a1,p1,rfl⟩:=G.Sl.shape hL.g
 obtain ⟨a2,p2,hs2⟩:=Pr.Sl.shape hL.p.o
 rw [List.length_map] at hs2
 subst hs2
 have HL3:=hidP hL
 have D3:=hidP (bl_trans D2.out c3)
 have H23:=hidP c3.size
 clear hlk hL c3
 have HLQ:=hidP HLK.out.len
 obtain ⟨X0,hX0⟩:∃ X0,X0=w3.alloc (.cells #[.int .i64 (t+2),.slice a1 gs.length p1,.slice a2 qs.length p2] 26):=⟨_,rfl⟩
 have HX0:=hidP hX0
 have BX0:Hid (Below w3.heap.size w3 X0):=by rw [hX0]; exact bl_alloc bR _
 have ZX0:Hid (X0.heap.size=w3.heap.size+1):=by rw [hX0]; show _=_; simp
 obtain ⟨ob,hob⟩:∃ ob,ob=bx+2:=⟨_,rfl⟩
 have HOB:=hidP hob
 have SZ:Hid (bx+2 < w2.heap.size∧w2.heap.size≤w3.heap.size∧bx=w.heap.size∧W1.heap.size≤w3.heap.size):=by
  have h1:=Z1.out; have h2:=HBX.out; have h3:=D2.out.size; have h4:=D3.out.size; have h5:=H23.out
  exact ⟨by omega,h5,h2,h4⟩
 have SN0:Hid (Sn X0 w.heap.size qs [] (.slice (some ⟨bx+2,0,none⟩) 0 0)):=⟨G.owns_below ROW.out (bl_trans D3.out BX0.out),fun j c hc=>by simp at hc,fun j c g hc=>by simp at hc,fun i j c c' g _ hc=>by simp at hc⟩
 have KX:Hid (∀ y,Off (fun j=>j=ob) X0 y→∀ j,y.cell? ⟨w3.heap.size,j,none⟩=(#[.int .i64 (t+2),.slice a1 gs.length p1,.slice a2 qs.length p2]:Array Value)[j]?):=by
  intro y hy j
  rw [hy.cell (p:=⟨w3.heap.size,j,none⟩) (by show w3.heap.size < _; rw [ZX0.out]; omega) (by show ¬ (w3.heap.size=ob); rw [hob]; have h1:=SZ.out; omega),hX0]
  simp [go_sem]
 have LX:Hid (∀ y,Off (fun j=>j=ob) X0 y→LdO y w2.heap.size gs qs (.slice a1 gs.length p1) (.slice a2 qs.length p2)):=fun y hy=>(HL3.out.keep BX0.out).off hy (fun g hg e=>by have h1:=(HL3.out.lt g hg).1; have h2:=SZ.out; omega)
 clear hX0 hob
 go_wp2_with fail
 rw [← HX0.out]
 go_loopw [4,6] (fun sv i wx=>∃ (k:Nat) (cs:List Pc.PcRaw),k≤qs.length∧i=.int .i64 (k:Int)∧Hid (cs.length=k)∧Hid (Sn wx w.heap.size qs cs sv)∧Hid (Off (fun j=>j=ob) X0 wx)∧Hid (SnZ ob X0.heap.size cs sv)) (fun _ i _=>qs.length - (intOf i).toNat)
 case atStart=>exact ⟨0,[],Nat.zero_le _,rfl,rfl,SN0.out,Off.refl _ _,(fun g hg=>Or.inl (by have h1:bx+2=g:=Option.some.inj hg; have h2:=HOB.out; omega)),fun j c g hc=>by simp at hc⟩
 case round =>
  obtain ⟨k,cs,hk,rfl,HCk,HSN,HO,HSZ⟩:=hrel
  have kb2:wr.cell? ⟨w3.heap.size,2,none⟩=some (.slice a2 qs.length p2):=KX.out wr HO.out 2
  by_cases hlt:k < qs.length
  ·
   have hki:(k:Int) < (qs.length:Int):=by omega
   obtain ⟨q,hq⟩:∃ q,qs[k]?=some q:=⟨qs[k],List.getElem?_eq_getElem hlt⟩
   obtain ⟨gL,capL,hvL,hgL,-,-⟩:=(LX.out wr HO.out).p.o.row (show (qs.map Pr.raw)[k]?=some (Pr.raw q) by rw [List.getElem?_map,hq]; rfl)
   injection hvL with e1 e2 e3
   subst e1 e3
   clear e2
   obtain ⟨-,⟨r0,r1,r2⟩,-⟩:=rowPl (LX.out wr HO.out).p hq
   have HQ:Hid (qs[cs.length]?=some q):=by show _=_; rw [HCk.out]; exact hq
   have HQ0:=hidP hq
   have HZ:Hid (w.heap.size≤wr.heap.size):=by show _≤_; have h1:=HO.out.size; have h2:=ZX0.out; have h3:=SZ.out; omega
   have HCL:Hid (cs.length≤1048576):=by show _≤_; rw [HCk.out]; have h1:=HLQ.out; have h2:=HF.out.pl; omega
   have hkb:qs.length≤1048576:=by have h1:=HLQ.out; have h2:=HF.out.pl; omega
   have hlq:q.ws.length≤1048576:=by
    obtain ⟨p,hp,-,-,ew⟩:=HLK.out.get hq
    rw [ew]
    exact HF.out.ln p (List.mem_of_getElem? hp)
   clear hq
   go_wp2_with fail
   obtain ⟨Wk,hWk⟩:∃ Wk,Wk=wr.alloc (.cells #[.string q.b,.int .i64 q.s,.slice q.a q.ws.length q.c] 54):=⟨_,rfl⟩
   have HWk:=hidP hWk
   have BWk:Hid (Below wr.heap.size wr Wk):=by rw [hWk]; exact bl_alloc bR _
   have L3:Hid (∀ y,Below Wk.heap.size Wk y→∀ j,y.cell? ⟨wr.heap.size,j,none⟩=(#[.string q.b,.int .i64 q.s,.slice q.a q.ws.length q.c]:Array Value)[j]?):=by
    intro y hb j
    rw [hWk] at hb
    rw [box_keep hb j]
    simp [go_sem]
   have SRC:Hid (∀ y,Below Wk.heap.size Wk y→W.Src y q.a q.c q.ws):=fun y hb=>((((LX.out wr HO.out).p.k k q HQ0.out).keep BWk.out).keep hb).src
   clear hWk r0 r1 r2 kb2
   rw [← HWk.out]
   obtain ⟨sv,hsv⟩:∃ sv,sv=u4:=⟨_,rfl⟩
   subst hsv
   obtain ⟨B,hB⟩:∃ B,B=w.heap.size:=⟨_,rfl⟩
   rw [← hB] at HSN HZ
   have HBe:=hidP hB
   clear hB
   refine wp_region_any (by kernel_rfl) ?_
   refine reg_invU sl9 11 48 4 (G9 sv wr.heap.size Wk.heap.size q) (fun y=>Below Wk.heap.size Wk y) (fun u y=>∃ av cv,Sn y B qs (cs++[toldP q av cv]) u∧Off (fun j=>j=ob) X0 y∧SnZ ob X0.heap.size (cs++[toldP q av cv]) u) (fun u y=>∃ av cv,Sn y B qs (cs++[toldP q av cv]) u∧Off (fun j=>j=ob) X0 y∧SnZ ob X0.heap.size (cs++[toldP q av cv]) u) (by decide) rfl bD ?done9 ?step9
   case done9 =>
    intro a y hdf hsz hout hE
    obtain ⟨av,cv,hS,hOf,hSz⟩:=hE
    obtain ⟨sa,sn,hv⟩:=(Pc.Sl.of_owns hS.o).shape
    obtain ⟨l',hl',ha⟩:=frameP_two (lo:=37) (n:=12) (se:=4) hdf hsz (lE rfl) (lE rfl) (fun j hj1 hj2=>hout j (fun i hi=>sl9_far j (by omega) i hi) (by omega) hj1)
    rw [hv] at ha hS hSz
    have HS:Hid (Sn y B qs (cs++[toldP q av cv]) (.slice sa (cs++[toldP q av cv]).length sn)∧SnZ ob X0.heap.size (cs++[toldP q av cv]) (.slice sa (cs++[toldP q av cv]).length sn)):=⟨hS,hSz⟩
    have HO9:=hidP hOf
    generalize hsl:Value.slice sa (cs++[toldP q av cv]).length sn=sv' at ha HS
    obtain ⟨sa',sn',nn',rfl⟩:∃ a n m,sv'=.slice a n m:=⟨_,_,_,hsl.symm⟩
    clear hOf hSz hdf hsz hout hv hS hsl
    subst ha
    obtain ⟨x0,m0,rfl,hm0⟩:=lenP_succ hl'
    obtain ⟨x1,m1,rfl,hm1⟩:=lenP_succ hm0
    obtain ⟨x2,m2,rfl,hm2⟩:=lenP_succ hm1
    obtain ⟨x3,m3,rfl,hm3⟩:=lenP_succ hm2
    obtain ⟨x4,m4,rfl,hm4⟩:=lenP_succ hm3
    obtain ⟨x5,m5,rfl,hm5⟩:=lenP_succ hm4
    obtain ⟨x6,m6,rfl,hm6⟩:=lenP_succ hm5
    obtain ⟨x7,m7,rfl,hm7⟩:=lenP_succ hm6
    obtain ⟨x8,m8,rfl,hm8⟩:=lenP_succ hm7
    obtain ⟨x9,m9,rfl,hm9⟩:=lenP_succ hm8
    obtain ⟨x10,m10,rfl,hm10⟩:=lenP_succ hm9
    obtain ⟨x11,m11,rfl,hm11⟩:=lenP_succ hm10
    obtain rfl:=lenP_zero hm11
    simp only [List.setIfInBounds_toArray,List.set_cons_succ,List.set_cons_zero,List.take_succ_cons,List.take_zero,List.drop_succ_cons,List.drop_zero,List.cons_append,List.nil_append,Nat.reduceAdd]
    go_wp2
    exact ⟨⟨k+1,cs++[toldP q av cv],by omega,by go_num,(by show (cs++[_]).length=_; rw [List.length_append,HCk.out]; rfl),by rw [← HBe.out]; exact HS.out.1,HO9.out,HS.out.2⟩,by simp [intOf]; omega⟩
   intro listed x y i hI hi hlt9
   have ho:=ready_open hi
   have HJ:=hidP hI
   have HI:=hidP hi
   obtain rfl | rfl | rfl | rfl | rfl | rfl | rfl | rfl | rfl | rfl | rfl | rfl | rfl:i=0∨i=1∨i=2∨i=3∨i=4∨i=5∨i=6∨i=7∨i=8∨i=9∨i=10∨i=11∨i=12:=by omega
   ·
    have hn:=ntr hI.tr ho [0] 11 rfl rfl
    have e1:x.tmps[4]?.getD undef=sv:=ev_tmp (hI.out 4 (fun i hi=>sl9_far 4 (by omega) i hi) (by omega) (fun _=>noT (fun h=>by rw [hI.tr 12 11 (by rfl) h] at hn; cases hn)))
    have HD:=hidP (hI.d hn)
    clear hi hI
    refine op9 fun K hK=>?_
    go_simp
    exact hK.out _ _ (HJ.out.same HI.out (by omega) hn (by rfl) (lE rfl) (sl9_inj _ (by omega)) (rfl))
   ·
    have hn:=ntr hI.tr ho [10,9,2,1] 11 rfl rfl
    have e1:x.tmps[7]?.getD undef=.pointer (some ⟨wr.heap.size,0,none⟩):=ev_tmp (hI.out 7 (fun i hi=>sl9_far 7 (by omega) i hi) (by omega) (fun e=>absurd e (by omega)))
    have HD:=hidP (hI.d hn)
    clear hi hI
    refine op9 fun K hK=>?_
    go_simp
    exact hK.out _ _ (HJ.out.same HI.out (by omega) hn (by rfl) (lE rfl) (sl9_inj _ (by omega)) (rfl))
   ·
    have hn:=ntr hI.tr ho [10,9,2] 11 rfl rfl
    have gf1:=hI.good 1 (by omega) (wO hi) hn
    have e1:x.tmps[38]?.getD undef=.pointer (some ⟨wr.heap.size,0,none⟩):=ev_tmp gf1
    have k1:y.cell? ⟨wr.heap.size,0,none⟩=some (.string q.b):=L3.out y (hI.d hn) 0
    have HD:=hidP (hI.d hn)
    clear hi hI
    refine op9 fun K hK=>?_
    go_simp
    exact hK.out _ _ (HJ.out.same HI.out (by omega) hn (by rfl) (lE rfl) (sl9_inj _ (by omega)) (rfl))
   ·
    have hn:=ntr hI.tr ho [10,9,4,3] 11 rfl rfl
    have e1:x.tmps[7]?.getD undef=.pointer (some ⟨wr.heap.size,0,none⟩):=ev_tmp (hI.out 7 (fun i hi=>sl9_far 7 (by omega) i hi) (by omega) (fun e=>absurd e (by omega)))
    have HD:=hidP (hI.d hn)
    clear hi hI
    refine op9 fun K hK=>?_
    go_simp
    exact hK.out _ _ (HJ.out.same HI.out (by omega) hn (by rfl) (lE rfl) (sl9_inj _ (by omega)) (rfl))
   ·
    have hn:=ntr hI.tr ho [10,9,4] 11 rfl rfl
    have gf3:=hI.good 3 (by omega) (wO hi) hn
    have e1:x.tmps[40]?.getD undef=.pointer (some ⟨wr.heap.size,1,none⟩):=ev_tmp gf3
    have k1:y.cell? ⟨wr.heap.size,1,none⟩=some (.int .i64 q.s):=L3.out y (hI.d hn) 1
    have HD:=hidP (hI.d hn)
    clear hi hI
    refine op9 fun K hK=>?_
    go_simp
    exact hK.out _ _ (HJ.out.same HI.out (by omega) hn (by rfl) (lE rfl) (sl9_inj _ (by omega)) (rfl))
   ·
    have hn:=ntr hI.tr ho [10,9,8,5] 11 rfl rfl
    have HD:=hidP (hI.d hn)
    have hb:=bld0W
    clear hi hI
    refine op9 fun K hK=>?_
    go_simp
    have hbl:Below y.heap.size y (y.alloc (.cells #[] 56)):=bl_alloc bR _
    exact hK.out _ _ (HJ.out.put HI.out (by omega) hn (by rfl) (lE rfl) (sl9_inj _ (by omega)) (⟨y.heap.size,rfl,World.ownsRow_made y #[] 0 HD.out.size (Nat.zero_le _) rfl⟩) (fun j u _ h=>G9.keep hbl j u h) (bl_trans HD.out hbl))
   ·
    have hn:=ntr hI.tr ho [10,9,8,7,6] 11 rfl rfl
    have e1:x.tmps[7]?.getD undef=.pointer (some ⟨wr.heap.size,0,none⟩):=ev_tmp (hI.out 7 (fun i hi=>sl9_far 7 (by omega) i hi) (by omega) (fun e=>absurd e (by omega)))
    have HD:=hidP (hI.d hn)
    clear hi hI
    refine op9 fun K hK=>?_
    go_simp
    exact hK.out _ _ (HJ.out.same HI.out (by omega) hn (by rfl) (lE rfl) (sl9_inj _ (by omega)) (rfl))
   ·
    have hn:=ntr hI.tr ho [10,9,8,7] 11 rfl rfl
    have gf6:=hI.good 6 (by omega) (wO hi) hn
    have e1:x.tmps[43]?.getD undef=.pointer (some ⟨wr.heap.size,2,none⟩):=ev_tmp gf6
    have k1:y.cell? ⟨wr.heap.size,2,none⟩=some (.slice q.a q.ws.length q.c):=L3.out y (hI.d hn) 2
    have HD:=hidP (hI.d hn)
    clear hi hI
    refine op9 fun K hK=>?_
    go_simp
    exact hK.out _ _ (HJ.out.same HI.out (by omega) hn (by rfl) (lE rfl) (sl9_inj _ (by omega)) (rfl))
   ·
    have hn:=ntr hI.tr ho [10,9,8] 11 rfl rfl
    have gf5:=hI.good 5 (by omega) (wO hi) hn
    have gf7:=hI.good 7 (by omega) (wO hi) hn
    obtain ⟨g0,h0,o0⟩:=gf5
    have h1:x.tmps.getD 44 undef=.slice q.a q.ws.length q.c:=gf7
    have HD:=hidP (hI.d hn)
    have HO:=hidP o0
    clear gf7 o0
    clear hi hI
    refine op9 fun K hK=>?_
    refine wp_copyW Wk.heap.size (.tmp 42) (.tmp 44) rfl q.ws g0 h0 (by rw [h0] at HO; exact HO.out) q.a q.c h1 (SRC.out y HD.out) hlq HD.out.size ?_
    intro v9 y9 o9 b9
    exact hK.out _ _ (HJ.out.put HI.out (by omega) hn (by rfl) (lE rfl) (sl9_inj _ (by omega)) (o9) (fun j u _ h=>G9.keep b9 j u h) (bl_trans HD.out b9))
   ·
    have hn:=ntr hI.tr ho [10,9] 11 rfl rfl
    have gf2:=hI.good 2 (by omega) (wO hi) hn
    have gf4:=hI.good 4 (by omega) (wO hi) hn
    have gf8:=hI.good 8 (by omega) (wO hi) hn
    have e1:x.tmps[39]?.getD undef=.string q.b:=ev_tmp gf2
    have e2:x.tmps[41]?.getD undef=.int .i64 q.s:=ev_tmp gf4
    have o5:W.Sl y _ q.ws Wk.heap.size:=gf8
    obtain ⟨av,cv,hv⟩:=W.Sl.shape o5
    have e3:x.tmps[45]?.getD undef=_:=ev_tmp hv
    rw [hv] at o5
    have O5:=hidP o5
    clear hv o5 gf8
    have HD:=hidP (hI.d hn)
    clear hi hI
    refine op9 fun K hK=>?_
    go_simp
    exact hK.out _ _ (HJ.out.same HI.out (by omega) hn (by rfl) (lE rfl) (sl9_inj _ (by omega)) (⟨av,cv,rfl,O5.out⟩))
   ·
    have hn:=ntr hI.tr ho [10] 11 rfl rfl
    have gf9:=hI.good 9 (by omega) (wO hi) hn
    obtain ⟨av,cv,hv,o5⟩:=gf9
    have e1:x.tmps[46]?.getD undef=_:=ev_tmp hv
    have O5:=hidP o5
    have hb:=bld1p q av cv
    clear hv o5
    have HD:=hidP (hI.d hn)
    clear hi hI
    refine op9 fun K hK=>?_
    go_simp
    have hbl:Below y.heap.size y (y.alloc (.cells (arrP q av cv) 29)):=bl_alloc bR _
    exact hK.out _ _ (HJ.out.put HI.out (by omega) hn (by rfl) (lE rfl) (sl9_inj _ (by omega)) (⟨av,cv,y.heap.size,rfl,HD.out.size,by simp,heap_alloc_newL y _,O5.out.keep hbl⟩) (fun j u _ h=>G9.keep hbl j u h) (bl_trans HD.out hbl))
   ·
    have hn:listed.getD 11 false=false:=noT (fun h=>openT ho h)
    have gf0:=hI.good 0 (by omega) (wO hi) hn
    have gf10:=hI.good 10 (by omega) (wO hi) hn
    obtain ⟨av,cv,g9,hv,z1,z2,hc9,o5⟩:=gf10
    have e1:x.tmps.getD 37 undef=sv:=gf0
    have e2:x.tmps.getD 47 undef=.slice (some ⟨g9,0,none⟩) 1 1:=hv
    have HD:=hidP (hI.d hn)
    have SY:Sn y B qs cs sv:=(HSN.out.keep (bl_trans BWk.out HD.out))
    clear hi hI
    refine op9 fun K hK=>?_
    refine pcApp B (.tmp 37) (.tmp 47) rfl cs sv e1 SY.o (by have:=HZ.out; have:=BWk.out.size; have:=HD.out.size; omega) e2 hc9 (by have:=HCL.out; omega) ?_
    intro s' w' o1 g1 hat
    exact hK.out _ _ (HJ.out.app HI.out (by rfl) (lE rfl) ⟨av,cv,Sn.app HSN.out HZ.out (bl_trans BWk.out HD.out) HQ.out (sl_lowW o5 BWk.out.size) g1 o1 hat,(HO.out.trans (Off.of_below (bl_trans BWk.out HD.out))).then_grown g1 HSZ.out.1,HSZ.out.app (Nat.le_trans HO.out.size (Nat.le_trans BWk.out.size HD.out.size)) (fun g hg=>Nat.le_trans (Nat.le_trans HO.out.size BWk.out.size) ((o5.lt g hg).1)) hat⟩)
   have hl11:=waits_of hi (i:=12) (j:=11) (by rfl)
   have gA:=hI.a1 hl11 (noT (fun h=>openT ho h))
   obtain ⟨av,cv,hS,hOf,hSz⟩:=gA
   obtain ⟨sa,sn,hv⟩:=(Pc.Sl.of_owns hS.o).shape
   have e1:x.tmps[48]?.getD undef=_:=ev_tmp hv
   have OS:=hidP hS
   have OB:=hidP hOf
   have OZ:=hidP hSz
   have HV:=hidP hv
   clear hi hI hS hOf hSz hv
   refine op9 fun K hK=>?_
   go_simp
   exact hK.out _ _ (HJ.out.last HI.out (by rfl) (lE rfl) ⟨av,cv,by have h:=OS.out; rw [HV.out,List.length_append] at h; exact h,OB.out,by have h:=OZ.out; rw [HV.out,List.length_append] at h; exact h⟩)
  have hk':k=qs.length:=by omega
  have kb0:wr.cell? ⟨w3.heap.size,0,none⟩=some (.int .i64 (t+2)):=KX.out wr HO.out 0
  have kb1:wr.cell? ⟨w3.heap.size,1,none⟩=some (.slice a1 gs.length p1):=KX.out wr HO.out 1
  have TW:Hid (wr.there (bx+1) 0 3):=there_land ((HO.out.block (bx+1) (by have h1:=ZX0.out; have h2:=SZ.out; omega) (by show ¬ (bx+1=ob); have h1:=HOB.out; omega)).trans (((bl_trans D3.out BX0.out).block _ (by have h1:=Z1.out; have h2:=HBX.out; omega)).trans T1.out))
  obtain ⟨sa,sn,hv⟩:=(Pc.Sl.of_owns HSN.out.o).shape
  obtain ⟨nn,hnn⟩:∃ nn,nn=cs.length:=⟨_,rfl⟩
  rw [← hnn] at hv
  subst hv
  clear hnn
  go_wp2_with (refine wpList_store_mid (by rfl) 26 _ _ (by rfl) (bx+1) 0 #[.int .i64 (t+2),.slice a1 gs.length p1,.slice a2 qs.length p2] (by rfl) (by rfl) (by exact TW.out) hinfo (by simp [Value.oneCell']) ?_)
  have hrg:=World.rangeAt_setCells_same wr (bx+1) 0 [.int .i64 (t+2),.slice a1 gs.length p1,.slice a2 qs.length p2] (by exact TW.out)
  have e0:=hrg 0 _ rfl
  have e1:=hrg 1 _ rfl
  have e2:=hrg 2 _ rfl
  simp only [Nat.zero_add] at e0 e1 e2
  have hx:Ex (bx+1) wr (wr.setCells (bx+1) 0 [.int .i64 (t+2),.slice a1 gs.length p1,.slice a2 qs.length p2]):=(Ex.refl _ _).cells _ _
  obtain ⟨h1,h2,h3,h4⟩:=SZ.out
  have hob:=HOB.out
  obtain ⟨ds,hc,hsay,hraw⟩:=sn_pco HSN.out (by rw [HCk.out,hk'])
  have hL5:=LX.out wr HO.out
  have hz0:=ZX0.out
  have hbc:∀ g,PcO.bs ds (.slice sa nn sn) g→g=ob∨X0.heap.size≤g:=by
   rintro g (hg | ⟨j,d,hd,hg⟩)
   · exact HSZ.out.1 g hg
   have hcj:cs[j]?=some (Pc.raw d):=by rw [← hraw,List.getElem?_map,hd]; rfl
   exact Or.inr (HSZ.out.2 j _ g hcj hg)
  have hB6:Below w.heap.size w wr:=(bl_trans (bl_trans B1.out D3.out) BX0.out).trans (HO.out.below (fun j hj=>by omega) (by omega))
  have hL6:=hL5.off (off_of_ex hx) (fun g hg e=>by have:=(hL5.lt g hg).1; omega)
  have hc6:=hc.off (off_of_ex hx) (fun g hg e=>by have:=hbc g hg; omega)
  have hltL:∀ g,LdO.bs qs (.slice a1 gs.length p1) (.slice a2 qs.length p2) g→g < w3.heap.size:=fun g hg=>(HL3.out.lt g hg).2
  exact bodyPost_ret (v:=.tuple #[.agg #[.int .i64 (t+2),.slice a1 gs.length p1,.slice a2 qs.length p2],.slice sa nn sn]) (by simp [results,Tryz.results10,go_sem,e0,e1,e2]) rfl ⟨⟨t+2,gs,qs,ds,_,_,_,rfl,Or.inr ⟨HYES.out,rfl,HLK.out,Or.inr ⟨by omega,rfl,hsay.trans (toldSay_like HLK.out)⟩⟩,hL6.low (by omega),hc6,fun g hg hg'=>by have h5:=hbc g hg'; have h6:=(hL5.lt g hg).1; have h7:=hltL g hg; omega⟩,Ex.mono hB6 hx (by omega)⟩
theorem specTick_z (t:Int) (gs:List G.GrantD) (ps:List P.PlaceD) (b1 b2:Option Addr) (kk1 kk2:Nat) (w:World) (hA:P.LandZ w gs ps b1 b2 kk1) (hF:P.Fit gs ps) :
  Calls Tryz.prog 10 #[.agg #[.int .i64 t,.slice b1 gs.length kk1,.slice b2 ps.length kk2]] w fun e w'=>(∃ t' gs' qs ds s1 s2 v,e=.returned (.tuple #[.agg #[.int .i64 t',s1,s2],v])∧TickSay t gs ps t' gs' qs ds∧TkO w' w.heap.size gs' qs ds s1 s2 v)∧Below w.heap.size w w':=by
 by_cases hyes:P.LandSay t gs ps
 ·
  by_cases htm:2000000≤t
  · exact specTick_over_z t gs ps b1 b2 kk1 kk2 w hA hF hyes htm
  exact specTick_go_z t gs ps b1 b2 kk1 kk2 w hA hF hyes htm
 · exact specTick_no_z t gs ps b1 b2 kk1 kk2 w hA hF hyes
end Go.Proofs.YtcjhlhijdacinaaGreatDoor
