import Derived.Test.YtcjhlhijdacinaaGreatDoorJ14
namespace Go.Proofs.YtcjhlhijdacinaaGreatDoor
open Go.RowKit
set_option linter.unusedVariables false
theorem build3i (x y z:Int) (w:World):Sem.run Tryz.prog (Instr.buildSlice 49 3 #[(0,.int .i64 x),(1,.int .i64 y),(2,.int .i64 z)]) w=.ok (.slice (some ⟨w.heap.size,0,none⟩) 3 3) (w.alloc (.cells #[.int .i64 x,.int .i64 y,.int .i64 z] 3)):=by kernel_rfl
theorem build3s (x y z:ByteArray) (w:World):Sem.run Tryz.prog (Instr.buildSlice 51 3 #[(0,.string x),(1,.string y),(2,.string z)]) w=.ok (.slice (some ⟨w.heap.size,0,none⟩) 3 3) (w.alloc (.cells #[.string x,.string y,.string z] 9)):=by kernel_rfl
theorem cells7 {wx:World} {k:Nat} {v0 v1 v2 v3 v4 v5 v6:Value} (h:wx.rangeAt k 0 [v0,v1,v2,v3,v4,v5,v6]):wx.cell? ⟨k,0,none⟩=some v0∧wx.cell? ⟨k,1,none⟩=some v1∧wx.cell? ⟨k,2,none⟩=some v2∧wx.cell? ⟨k,3,none⟩=some v3∧wx.cell? ⟨k,4,none⟩=some v4∧wx.cell? ⟨k,5,none⟩=some v5∧wx.cell? ⟨k,6,none⟩=some v6 :=
 ⟨by simpa using h 0 _ rfl,by simpa using h 1 _ rfl,by simpa using h 2 _ rfl,by simpa using h 3 _ rfl,by simpa using h 4 _ rfl,by simpa using h 5 _ rfl,by simpa using h 6 _ rfl⟩
set_option maxRecDepth 4000 in
set_option maxHeartbeats 4000000 in
theorem spoilWant (kr:Nat) (a:Option Addr) (n cap:Nat) (zs:List Int) (q0:Int) (c h:ByteArray) (v p s d g:Int) (w:World) (hr:Rd w kr a n cap zs q0) (hq:q0 < 800000) (hcs:c.size≤maxLen) (hhs:h.size≤maxLen) :
  Calls Tryz.prog 40 #[.pointer (some ⟨kr,0,none⟩),.agg #[.string c,.int .i64 v,.string h,.int .i64 p,.int .i64 s,.int .i64 d,.int .i64 g]] w fun e w'=>∃ (c h:ByteArray) (v p s d g:Int),e=.returned (.agg #[.string c,.int .i64 v,.string h,.int .i64 p,.int .i64 s,.int .i64 d,.int .i64 g])∧(∃ q,Rd w' kr a n cap zs q∧q≤q0+100)∧Ex kr w w'∧c.size≤maxLen∧h.size≤maxLen:=by
 have hkr:=hr.lt
 have hinfo:(Tryz.prog.info? 56).map (·.size)=some 7:=by kernel_rfl
 have hne2:kr≠w.heap.size+1:=by omega
 go_enter Tryz.func40,Tryz.ntmps40
 go_wp2_with fail
 have hb0:Below w.heap.size w ((w.alloc (.cells #[.string c,.int .i64 v,.string h,.int .i64 p,.int .i64 s,.int .i64 d,.int .i64 g] 56)).alloc (.cells #[.string ⟨#[]⟩,.int .i64 0,.string ⟨#[]⟩,.int .i64 0,.int .i64 0,.int .i64 0,.int .i64 0] 56)):=bl_alloc (bl_alloc bR _) _
 refine (pick_rd kr a n cap zs q0 7 _ (hr.below hb0) (by omega) (by omega) (by omega)).mono ?_
 rintro e w1 ⟨m1,rfl,m10,m11,r1,e1⟩
 have z1:w.heap.size+1 < w1.heap.size:=Nat.lt_of_lt_of_le (by simp) e1.size
 have T1:Hid (w1.there (w.heap.size+1) 0 7):=there_ex (by have:=there7 (w.alloc (.cells #[.string c,.int .i64 v,.string h,.int .i64 p,.int .i64 s,.int .i64 d,.int .i64 g] 56)) 56; simpa using this) (by simp) e1 (by omega)
 have E1:=hidP ((Ex.of_below hb0).trans e1)
 have hbx:∀ j,w1.cell? ⟨w.heap.size,j,none⟩=_:=fun j=>e1.cell (p:=⟨w.heap.size,j,none⟩) (by simp; omega) (by show w.heap.size≠kr; omega)
 have hfx:∀ j,w1.frozen? ⟨w.heap.size,j,none⟩=_:=fun j=>e1.frozen (p:=⟨w.heap.size,j,none⟩) (by simp; omega) (by show w.heap.size≠kr; omega)
 have b0:w1.cell? ⟨w.heap.size,0,none⟩=some (.string c):=by rw [hbx 0]; simp [go_sem]
 have g0:w1.frozen? ⟨w.heap.size,0,none⟩=false:=by rw [hfx 0]; simp [go_sem]
 have b1:w1.cell? ⟨w.heap.size,1,none⟩=some (.int .i64 v):=by rw [hbx 1]; simp [go_sem]
 have g1:w1.frozen? ⟨w.heap.size,1,none⟩=false:=by rw [hfx 1]; simp [go_sem]
 have b2:w1.cell? ⟨w.heap.size,2,none⟩=some (.string h):=by rw [hbx 2]; simp [go_sem]
 have g2:w1.frozen? ⟨w.heap.size,2,none⟩=false:=by rw [hfx 2]; simp [go_sem]
 have b3:w1.cell? ⟨w.heap.size,3,none⟩=some (.int .i64 p):=by rw [hbx 3]; simp [go_sem]
 have g3:w1.frozen? ⟨w.heap.size,3,none⟩=false:=by rw [hfx 3]; simp [go_sem]
 have b4:w1.cell? ⟨w.heap.size,4,none⟩=some (.int .i64 s):=by rw [hbx 4]; simp [go_sem]
 have g4:w1.frozen? ⟨w.heap.size,4,none⟩=false:=by rw [hfx 4]; simp [go_sem]
 have b5:w1.cell? ⟨w.heap.size,5,none⟩=some (.int .i64 d):=by rw [hbx 5]; simp [go_sem]
 have g5:w1.frozen? ⟨w.heap.size,5,none⟩=false:=by rw [hfx 5]; simp [go_sem]
 have b6:w1.cell? ⟨w.heap.size,6,none⟩=some (.int .i64 g):=by rw [hbx 6]; simp [go_sem]
 have g6:w1.frozen? ⟨w.heap.size,6,none⟩=false:=by rw [hfx 6]; simp [go_sem]
 have R1:=hidP r1
 clear hbx hfx e1 hb0 r1
 rcases (by omega:m1=0∨m1=1∨m1=2∨m1=3∨m1=4∨m1=5∨m1=6) with hm | hm | hm | hm | hm | hm | hm
 ·
  obtain rfl:m1=0:=by omega
  go_wp2_with fail
  refine (pick_rd kr a n cap zs _ 2 _ R1.out (by omega) (by omega) (by omega)).mono ?_
  rintro e wa ⟨ma,rfl,ma0,ma1,ra,ea⟩
  have za:=ea.size
  by_cases hma:ma=0
  ·
   obtain rfl:ma=0:=by omega
   go_wp2_with fail
   refine (many20 _).mono ?_
   rintro e wb ⟨x,rfl,hx,rfl⟩
   have hbld:=build3s { data:=#[] } { data:=#[120,32,121] } x
   go_wp2_with fail
   clear hbld
   have hb2:=bl_alloc (Below.refl wb.heap.size wb) (.cells #[.string ⟨#[]⟩,.string ⟨#[120,32,121]⟩,.string x] 9)
   refine (pick_rd kr a n cap zs _ 3 _ (ra.below hb2) (by omega) (by omega) (by omega)).mono ?_
   rintro e w2 ⟨m2,rfl,m20,m21,r2,e2⟩
   have hsl:∀ j,w2.cell? ⟨wb.heap.size,j,none⟩=(wb.alloc (.cells #[.string ⟨#[]⟩,.string ⟨#[120,32,121]⟩,.string x] 9)).cell? ⟨wb.heap.size,j,none⟩:=fun j=>e2.cell (p:=⟨wb.heap.size,j,none⟩) (by simp) (by show wb.heap.size≠kr; omega)
   have hbx:∀ j,w2.cell? ⟨w.heap.size,j,none⟩=(wb.alloc (.cells #[.string ⟨#[]⟩,.string ⟨#[120,32,121]⟩,.string x] 9)).cell? ⟨w.heap.size,j,none⟩:=fun j=>e2.cell (p:=⟨w.heap.size,j,none⟩) (by simp; omega) (by show w.heap.size≠kr; omega)
   have hfx:∀ j,w2.frozen? ⟨w.heap.size,j,none⟩=(wb.alloc (.cells #[.string ⟨#[]⟩,.string ⟨#[120,32,121]⟩,.string x] 9)).frozen? ⟨w.heap.size,j,none⟩:=fun j=>e2.frozen (p:=⟨w.heap.size,j,none⟩) (by simp; omega) (by show w.heap.size≠kr; omega)
   have hbw:∀ j,wb.cell? ⟨w.heap.size,j,none⟩=w1.cell? ⟨w.heap.size,j,none⟩:=fun j=>ea.cell (p:=⟨w.heap.size,j,none⟩) (by show w.heap.size < w1.heap.size; omega) (by show w.heap.size≠kr; omega)
   have hfw:∀ j,wb.frozen? ⟨w.heap.size,j,none⟩=w1.frozen? ⟨w.heap.size,j,none⟩:=fun j=>ea.frozen (p:=⟨w.heap.size,j,none⟩) (by show w.heap.size < w1.heap.size; omega) (by show w.heap.size≠kr; omega)
   obtain ⟨j,rfl⟩:=Int.eq_ofNat_of_zero_le m20
   have j3:j < 3:=by omega
   have jj:(j:Int) < 3:=m21
   have i0:(0:Int)≤(j:Int):=m20
   obtain ⟨z,hz,hzs⟩:∃ z,w2.cell? ⟨wb.heap.size,j,none⟩=some (.string z)∧z.size≤maxLen:=by
    rw [hsl j]
    obtain rfl | rfl | rfl:j=0∨j=1∨j=2:=by omega
    all_goals exact ⟨_,by simp [go_sem]; rfl,by first | exact hx | (unfold maxLen; decide)⟩
   have c0:w2.cell? ⟨w.heap.size,0,none⟩=some (.string c):=by rw [hbx 0,World.cell?_alloc_past _ _ _ (by show w.heap.size < wb.heap.size; omega),hbw 0]; exact b0
   have c1:w2.cell? ⟨w.heap.size,1,none⟩=some (.int .i64 v):=by rw [hbx 1,World.cell?_alloc_past _ _ _ (by show w.heap.size < wb.heap.size; omega),hbw 1]; exact b1
   have c2:w2.cell? ⟨w.heap.size,2,none⟩=some (.string h):=by rw [hbx 2,World.cell?_alloc_past _ _ _ (by show w.heap.size < wb.heap.size; omega),hbw 2]; exact b2
   have c3:w2.cell? ⟨w.heap.size,3,none⟩=some (.int .i64 p):=by rw [hbx 3,World.cell?_alloc_past _ _ _ (by show w.heap.size < wb.heap.size; omega),hbw 3]; exact b3
   have c4:w2.cell? ⟨w.heap.size,4,none⟩=some (.int .i64 s):=by rw [hbx 4,World.cell?_alloc_past _ _ _ (by show w.heap.size < wb.heap.size; omega),hbw 4]; exact b4
   have c5:w2.cell? ⟨w.heap.size,5,none⟩=some (.int .i64 d):=by rw [hbx 5,World.cell?_alloc_past _ _ _ (by show w.heap.size < wb.heap.size; omega),hbw 5]; exact b5
   have c6:w2.cell? ⟨w.heap.size,6,none⟩=some (.int .i64 g):=by rw [hbx 6,World.cell?_alloc_past _ _ _ (by show w.heap.size < wb.heap.size; omega),hbw 6]; exact b6
   have fp:w2.frozen? ⟨w.heap.size,0,none⟩=false:=by rw [hfx 0,World.frozen?_alloc_past _ _ _ (by show w.heap.size < wb.heap.size; omega),hfw 0]; exact g0
   have Tb:wb.there (w.heap.size+1) 0 7:=there_ex T1.out (by omega) ea (by omega)
   have T2:Hid (w2.there (w.heap.size+1) 0 7):=there_ex (World.there_alloc Tb _) (by simp; omega) e2 (by omega)
   have E2:Ex kr w w2:=((E1.out.trans ea).trans (Ex.of_below hb2)).trans e2
   have y1:Ex w.heap.size w2 (w2.setCell ⟨w.heap.size,0,none⟩ (.string z)):=Ex.set (Ex.refl w.heap.size w2) 0 (.string z)
   have y2:Ex kr w (w2.setCell ⟨w.heap.size,0,none⟩ (.string z)):=Ex.other E2 y1 (Nat.le_refl _)
   have y3:=Rd.other hr r2 y1 (by omega) y2
   have Y2:=hidP y2
   have Y3:=hidP y3
   clear y1 y2 y3 hsl hbx hfx hbw hfw hb2 e2 r2 E2 Tb ea ra m20 m21 b0 b1 b2 b3 b4 b5 b6 g0 g1 g2 g3 g4 g5 g6
   go_wp2_with (refine wpList_store_mid (by rfl) 56 _ _ (by rfl) (w.heap.size+1) 0 #[.string z,.int .i64 v,.string h,.int .i64 p,.int .i64 s,.int .i64 d,.int .i64 g] (by rfl) (by rfl) (by exact World.there_setCells T2.out w.heap.size 0 [.string z]) hinfo (by simp [Value.oneCell']) ?_)
   obtain ⟨d0,d1,d2,d3,d4,d5,d6⟩:=cells7 (World.rangeAt_setCells_same (w2.setCell ⟨w.heap.size,0,none⟩ (.string z)) (w.heap.size+1) 0 [.string z,.int .i64 v,.string h,.int .i64 p,.int .i64 s,.int .i64 d,.int .i64 g] (by exact World.there_setCells T2.out w.heap.size 0 [.string z]))
   have hx1:Ex (w.heap.size+1) (w2.setCell ⟨w.heap.size,0,none⟩ (.string z)) (World.setCells (w2.setCell ⟨w.heap.size,0,none⟩ (.string z)) (w.heap.size+1) 0 [.string z,.int .i64 v,.string h,.int .i64 p,.int .i64 s,.int .i64 d,.int .i64 g]):=(Ex.refl _ _).cells _ _
   have hx2:Ex kr w (World.setCells (w2.setCell ⟨w.heap.size,0,none⟩ (.string z)) (w.heap.size+1) 0 [.string z,.int .i64 v,.string h,.int .i64 p,.int .i64 s,.int .i64 d,.int .i64 g]):=Ex.other Y2.out hx1 (by omega)
   have hx3:=Rd.other hr Y3.out hx1 hne2 hx2
   exact bodyPost_ret (v:=.agg #[.string z,.int .i64 v,.string h,.int .i64 p,.int .i64 s,.int .i64 d,.int .i64 g]) (by simp [results,Tryz.results40,go_sem,d0,d1,d2,d3,d4,d5,d6]) rfl ⟨z,h,v,p,s,d,g,rfl,⟨_,hx3,by omega⟩,hx2,hzs,hhs⟩
  obtain rfl:ma=1:=by omega
  go_wp2_with fail
  refine (many21 _).mono ?_
  rintro e wb ⟨x,rfl,hx,rfl⟩
  have hbld:=build3s { data:=#[] } { data:=#[120,32,121] } x
  go_wp2_with fail
  clear hbld
  have hb2:=bl_alloc (Below.refl wb.heap.size wb) (.cells #[.string ⟨#[]⟩,.string ⟨#[120,32,121]⟩,.string x] 9)
  refine (pick_rd kr a n cap zs _ 3 _ (ra.below hb2) (by omega) (by omega) (by omega)).mono ?_
  rintro e w2 ⟨m2,rfl,m20,m21,r2,e2⟩
  have hsl:∀ j,w2.cell? ⟨wb.heap.size,j,none⟩=(wb.alloc (.cells #[.string ⟨#[]⟩,.string ⟨#[120,32,121]⟩,.string x] 9)).cell? ⟨wb.heap.size,j,none⟩:=fun j=>e2.cell (p:=⟨wb.heap.size,j,none⟩) (by simp) (by show wb.heap.size≠kr; omega)
  have hbx:∀ j,w2.cell? ⟨w.heap.size,j,none⟩=(wb.alloc (.cells #[.string ⟨#[]⟩,.string ⟨#[120,32,121]⟩,.string x] 9)).cell? ⟨w.heap.size,j,none⟩:=fun j=>e2.cell (p:=⟨w.heap.size,j,none⟩) (by simp; omega) (by show w.heap.size≠kr; omega)
  have hfx:∀ j,w2.frozen? ⟨w.heap.size,j,none⟩=(wb.alloc (.cells #[.string ⟨#[]⟩,.string ⟨#[120,32,121]⟩,.string x] 9)).frozen? ⟨w.heap.size,j,none⟩:=fun j=>e2.frozen (p:=⟨w.heap.size,j,none⟩) (by simp; omega) (by show w.heap.size≠kr; omega)
  have hbw:∀ j,wb.cell? ⟨w.heap.size,j,none⟩=w1.cell? ⟨w.heap.size,j,none⟩:=fun j=>ea.cell (p:=⟨w.heap.size,j,none⟩) (by show w.heap.size < w1.heap.size; omega) (by show w.heap.size≠kr; omega)
  have hfw:∀ j,wb.frozen? ⟨w.heap.size,j,none⟩=w1.frozen? ⟨w.heap.size,j,none⟩:=fun j=>ea.frozen (p:=⟨w.heap.size,j,none⟩) (by show w.heap.size < w1.heap.size; omega) (by show w.heap.size≠kr; omega)
  obtain ⟨j,rfl⟩:=Int.eq_ofNat_of_zero_le m20
  have j3:j < 3:=by omega
  have jj:(j:Int) < 3:=m21
  have i0:(0:Int)≤(j:Int):=m20
  obtain ⟨z,hz,hzs⟩:∃ z,w2.cell? ⟨wb.heap.size,j,none⟩=some (.string z)∧z.size≤maxLen:=by
   rw [hsl j]
   obtain rfl | rfl | rfl:j=0∨j=1∨j=2:=by omega
   all_goals exact ⟨_,by simp [go_sem]; rfl,by first | exact hx | (unfold maxLen; decide)⟩
  have c0:w2.cell? ⟨w.heap.size,0,none⟩=some (.string c):=by rw [hbx 0,World.cell?_alloc_past _ _ _ (by show w.heap.size < wb.heap.size; omega),hbw 0]; exact b0
  have c1:w2.cell? ⟨w.heap.size,1,none⟩=some (.int .i64 v):=by rw [hbx 1,World.cell?_alloc_past _ _ _ (by show w.heap.size < wb.heap.size; omega),hbw 1]; exact b1
  have c2:w2.cell? ⟨w.heap.size,2,none⟩=some (.string h):=by rw [hbx 2,World.cell?_alloc_past _ _ _ (by show w.heap.size < wb.heap.size; omega),hbw 2]; exact b2
  have c3:w2.cell? ⟨w.heap.size,3,none⟩=some (.int .i64 p):=by rw [hbx 3,World.cell?_alloc_past _ _ _ (by show w.heap.size < wb.heap.size; omega),hbw 3]; exact b3
  have c4:w2.cell? ⟨w.heap.size,4,none⟩=some (.int .i64 s):=by rw [hbx 4,World.cell?_alloc_past _ _ _ (by show w.heap.size < wb.heap.size; omega),hbw 4]; exact b4
  have c5:w2.cell? ⟨w.heap.size,5,none⟩=some (.int .i64 d):=by rw [hbx 5,World.cell?_alloc_past _ _ _ (by show w.heap.size < wb.heap.size; omega),hbw 5]; exact b5
  have c6:w2.cell? ⟨w.heap.size,6,none⟩=some (.int .i64 g):=by rw [hbx 6,World.cell?_alloc_past _ _ _ (by show w.heap.size < wb.heap.size; omega),hbw 6]; exact b6
  have fp:w2.frozen? ⟨w.heap.size,0,none⟩=false:=by rw [hfx 0,World.frozen?_alloc_past _ _ _ (by show w.heap.size < wb.heap.size; omega),hfw 0]; exact g0
  have Tb:wb.there (w.heap.size+1) 0 7:=there_ex T1.out (by omega) ea (by omega)
  have T2:Hid (w2.there (w.heap.size+1) 0 7):=there_ex (World.there_alloc Tb _) (by simp; omega) e2 (by omega)
  have E2:Ex kr w w2:=((E1.out.trans ea).trans (Ex.of_below hb2)).trans e2
  have y1:Ex w.heap.size w2 (w2.setCell ⟨w.heap.size,0,none⟩ (.string z)):=Ex.set (Ex.refl w.heap.size w2) 0 (.string z)
  have y2:Ex kr w (w2.setCell ⟨w.heap.size,0,none⟩ (.string z)):=Ex.other E2 y1 (Nat.le_refl _)
  have y3:=Rd.other hr r2 y1 (by omega) y2
  have Y2:=hidP y2
  have Y3:=hidP y3
  clear y1 y2 y3 hsl hbx hfx hbw hfw hb2 e2 r2 E2 Tb ea ra m20 m21 b0 b1 b2 b3 b4 b5 b6 g0 g1 g2 g3 g4 g5 g6
  go_wp2_with (refine wpList_store_mid (by rfl) 56 _ _ (by rfl) (w.heap.size+1) 0 #[.string z,.int .i64 v,.string h,.int .i64 p,.int .i64 s,.int .i64 d,.int .i64 g] (by rfl) (by rfl) (by exact World.there_setCells T2.out w.heap.size 0 [.string z]) hinfo (by simp [Value.oneCell']) ?_)
  obtain ⟨d0,d1,d2,d3,d4,d5,d6⟩:=cells7 (World.rangeAt_setCells_same (w2.setCell ⟨w.heap.size,0,none⟩ (.string z)) (w.heap.size+1) 0 [.string z,.int .i64 v,.string h,.int .i64 p,.int .i64 s,.int .i64 d,.int .i64 g] (by exact World.there_setCells T2.out w.heap.size 0 [.string z]))
  have hx1:Ex (w.heap.size+1) (w2.setCell ⟨w.heap.size,0,none⟩ (.string z)) (World.setCells (w2.setCell ⟨w.heap.size,0,none⟩ (.string z)) (w.heap.size+1) 0 [.string z,.int .i64 v,.string h,.int .i64 p,.int .i64 s,.int .i64 d,.int .i64 g]):=(Ex.refl _ _).cells _ _
  have hx2:Ex kr w (World.setCells (w2.setCell ⟨w.heap.size,0,none⟩ (.string z)) (w.heap.size+1) 0 [.string z,.int .i64 v,.string h,.int .i64 p,.int .i64 s,.int .i64 d,.int .i64 g]):=Ex.other Y2.out hx1 (by omega)
  have hx3:=Rd.other hr Y3.out hx1 hne2 hx2
  exact bodyPost_ret (v:=.agg #[.string z,.int .i64 v,.string h,.int .i64 p,.int .i64 s,.int .i64 d,.int .i64 g]) (by simp [results,Tryz.results40,go_sem,d0,d1,d2,d3,d4,d5,d6]) rfl ⟨z,h,v,p,s,d,g,rfl,⟨_,hx3,by omega⟩,hx2,hzs,hhs⟩
 ·
  obtain rfl:m1=1:=by omega
  have hbld:=build3i (0) (1000000) (1000001)
  go_wp2_with fail
  clear hbld
  have hb2:=bl_alloc (Below.refl w1.heap.size w1) (.cells #[.int .i64 0,.int .i64 1000000,.int .i64 1000001] 3)
  refine (pick_rd kr a n cap zs _ 3 _ (R1.out.below hb2) (by omega) (by omega) (by omega)).mono ?_
  rintro e w2 ⟨m2,rfl,m20,m21,r2,e2⟩
  have hsl:∀ j,w2.cell? ⟨w1.heap.size,j,none⟩=(w1.alloc (.cells #[.int .i64 0,.int .i64 1000000,.int .i64 1000001] 3)).cell? ⟨w1.heap.size,j,none⟩:=fun j=>e2.cell (p:=⟨w1.heap.size,j,none⟩) (by simp) (by show w1.heap.size≠kr; omega)
  have hbx:∀ j,w2.cell? ⟨w.heap.size,j,none⟩=(w1.alloc (.cells #[.int .i64 0,.int .i64 1000000,.int .i64 1000001] 3)).cell? ⟨w.heap.size,j,none⟩:=fun j=>e2.cell (p:=⟨w.heap.size,j,none⟩) (by simp; omega) (by show w.heap.size≠kr; omega)
  have hfx:∀ j,w2.frozen? ⟨w.heap.size,j,none⟩=(w1.alloc (.cells #[.int .i64 0,.int .i64 1000000,.int .i64 1000001] 3)).frozen? ⟨w.heap.size,j,none⟩:=fun j=>e2.frozen (p:=⟨w.heap.size,j,none⟩) (by simp; omega) (by show w.heap.size≠kr; omega)
  obtain ⟨j,rfl⟩:=Int.eq_ofNat_of_zero_le m20
  have j3:j < 3:=by omega
  have jj:(j:Int) < 3:=m21
  have i0:(0:Int)≤(j:Int):=m20
  obtain ⟨z,hz⟩:∃ z,w2.cell? ⟨w1.heap.size,j,none⟩=some (.int .i64 z):=by
   rw [hsl j]
   obtain rfl | rfl | rfl:j=0∨j=1∨j=2:=by omega
   all_goals exact ⟨_,by simp [go_sem]; rfl⟩
  have c0:=cpa (hbx 0) b0
  have c1:=cpa (hbx 1) b1
  have c2:=cpa (hbx 2) b2
  have c3:=cpa (hbx 3) b3
  have c4:=cpa (hbx 4) b4
  have c5:=cpa (hbx 5) b5
  have c6:=cpa (hbx 6) b6
  have fp:w2.frozen? ⟨w.heap.size,1,none⟩=false:=by rw [hfx 1,World.frozen?_alloc_past _ _ _ (by show w.heap.size < w1.heap.size; omega)]; exact g1
  have T2:Hid (w2.there (w.heap.size+1) 0 7):=there_ex (World.there_alloc T1.out _) (by simp; omega) e2 (by omega)
  have E2:Ex kr w w2:=(E1.out.trans (Ex.of_below hb2)).trans e2
  have y1:Ex w.heap.size w2 (w2.setCell ⟨w.heap.size,1,none⟩ (.int .i64 z)):=Ex.set (Ex.refl w.heap.size w2) 1 (.int .i64 z)
  have y2:Ex kr w (w2.setCell ⟨w.heap.size,1,none⟩ (.int .i64 z)):=Ex.other E2 y1 (Nat.le_refl _)
  have y3:=Rd.other hr r2 y1 (by omega) y2
  have Y2:=hidP y2
  have Y3:=hidP y3
  clear y1 y2 y3 hsl hbx hfx hb2 e2 r2 E2 m20 m21 b0 b1 b2 b3 b4 b5 b6 g0 g1 g2 g3 g4 g5 g6
  go_wp2_with (refine wpList_store_mid (by rfl) 56 _ _ (by rfl) (w.heap.size+1) 0 #[.string c,.int .i64 z,.string h,.int .i64 p,.int .i64 s,.int .i64 d,.int .i64 g] (by rfl) (by rfl) (by exact World.there_setCells T2.out w.heap.size 1 [.int .i64 z]) hinfo (by simp [Value.oneCell']) ?_)
  obtain ⟨d0,d1,d2,d3,d4,d5,d6⟩:=cells7 (World.rangeAt_setCells_same (w2.setCell ⟨w.heap.size,1,none⟩ (.int .i64 z)) (w.heap.size+1) 0 [.string c,.int .i64 z,.string h,.int .i64 p,.int .i64 s,.int .i64 d,.int .i64 g] (by exact World.there_setCells T2.out w.heap.size 1 [.int .i64 z]))
  have hx1:Ex (w.heap.size+1) (w2.setCell ⟨w.heap.size,1,none⟩ (.int .i64 z)) (World.setCells (w2.setCell ⟨w.heap.size,1,none⟩ (.int .i64 z)) (w.heap.size+1) 0 [.string c,.int .i64 z,.string h,.int .i64 p,.int .i64 s,.int .i64 d,.int .i64 g]):=(Ex.refl _ _).cells _ _
  have hx2:Ex kr w (World.setCells (w2.setCell ⟨w.heap.size,1,none⟩ (.int .i64 z)) (w.heap.size+1) 0 [.string c,.int .i64 z,.string h,.int .i64 p,.int .i64 s,.int .i64 d,.int .i64 g]):=Ex.other Y2.out hx1 (by omega)
  have hx3:=Rd.other hr Y3.out hx1 hne2 hx2
  exact bodyPost_ret (v:=.agg #[.string c,.int .i64 z,.string h,.int .i64 p,.int .i64 s,.int .i64 d,.int .i64 g]) (by simp [results,Tryz.results40,go_sem,d0,d1,d2,d3,d4,d5,d6]) rfl ⟨c,h,z,p,s,d,g,rfl,⟨_,hx3,by omega⟩,hx2,hcs,hhs⟩
 ·
  obtain rfl:m1=2:=by omega
  have hbld:=build3s ({ data:=#[120,32,121] }) ({ data:=#[42] }) ({ data:=#[118,111,108] })
  go_wp2_with fail
  clear hbld
  have hb2:=bl_alloc (Below.refl w1.heap.size w1) (.cells #[.string ⟨#[120,32,121]⟩,.string ⟨#[42]⟩,.string ⟨#[118,111,108]⟩] 9)
  refine (pick_rd kr a n cap zs _ 3 _ (R1.out.below hb2) (by omega) (by omega) (by omega)).mono ?_
  rintro e w2 ⟨m2,rfl,m20,m21,r2,e2⟩
  have hsl:∀ j,w2.cell? ⟨w1.heap.size,j,none⟩=(w1.alloc (.cells #[.string ⟨#[120,32,121]⟩,.string ⟨#[42]⟩,.string ⟨#[118,111,108]⟩] 9)).cell? ⟨w1.heap.size,j,none⟩:=fun j=>e2.cell (p:=⟨w1.heap.size,j,none⟩) (by simp) (by show w1.heap.size≠kr; omega)
  have hbx:∀ j,w2.cell? ⟨w.heap.size,j,none⟩=(w1.alloc (.cells #[.string ⟨#[120,32,121]⟩,.string ⟨#[42]⟩,.string ⟨#[118,111,108]⟩] 9)).cell? ⟨w.heap.size,j,none⟩:=fun j=>e2.cell (p:=⟨w.heap.size,j,none⟩) (by simp; omega) (by show w.heap.size≠kr; omega)
  have hfx:∀ j,w2.frozen? ⟨w.heap.size,j,none⟩=(w1.alloc (.cells #[.string ⟨#[120,32,121]⟩,.string ⟨#[42]⟩,.string ⟨#[118,111,108]⟩] 9)).frozen? ⟨w.heap.size,j,none⟩:=fun j=>e2.frozen (p:=⟨w.heap.size,j,none⟩) (by simp; omega) (by show w.heap.size≠kr; omega)
  obtain ⟨j,rfl⟩:=Int.eq_ofNat_of_zero_le m20
  have j3:j < 3:=by omega
  have jj:(j:Int) < 3:=m21
  have i0:(0:Int)≤(j:Int):=m20
  obtain ⟨z,hz,hzs⟩:∃ z,w2.cell? ⟨w1.heap.size,j,none⟩=some (.string z)∧z.size≤maxLen:=by
   rw [hsl j]
   obtain rfl | rfl | rfl:j=0∨j=1∨j=2:=by omega
   all_goals exact ⟨_,by simp [go_sem]; rfl,by first | exact hx | (unfold maxLen; decide)⟩
  have c0:=cpa (hbx 0) b0
  have c1:=cpa (hbx 1) b1
  have c2:=cpa (hbx 2) b2
  have c3:=cpa (hbx 3) b3
  have c4:=cpa (hbx 4) b4
  have c5:=cpa (hbx 5) b5
  have c6:=cpa (hbx 6) b6
  have fp:w2.frozen? ⟨w.heap.size,2,none⟩=false:=by rw [hfx 2,World.frozen?_alloc_past _ _ _ (by show w.heap.size < w1.heap.size; omega)]; exact g2
  have T2:Hid (w2.there (w.heap.size+1) 0 7):=there_ex (World.there_alloc T1.out _) (by simp; omega) e2 (by omega)
  have E2:Ex kr w w2:=(E1.out.trans (Ex.of_below hb2)).trans e2
  have y1:Ex w.heap.size w2 (w2.setCell ⟨w.heap.size,2,none⟩ (.string z)):=Ex.set (Ex.refl w.heap.size w2) 2 (.string z)
  have y2:Ex kr w (w2.setCell ⟨w.heap.size,2,none⟩ (.string z)):=Ex.other E2 y1 (Nat.le_refl _)
  have y3:=Rd.other hr r2 y1 (by omega) y2
  have Y2:=hidP y2
  have Y3:=hidP y3
  clear y1 y2 y3 hsl hbx hfx hb2 e2 r2 E2 m20 m21 b0 b1 b2 b3 b4 b5 b6 g0 g1 g2 g3 g4 g5 g6
  go_wp2_with (refine wpList_store_mid (by rfl) 56 _ _ (by rfl) (w.heap.size+1) 0 #[.string c,.int .i64 v,.string z,.int .i64 p,.int .i64 s,.int .i64 d,.int .i64 g] (by rfl) (by rfl) (by exact World.there_setCells T2.out w.heap.size 2 [.string z]) hinfo (by simp [Value.oneCell']) ?_)
  obtain ⟨d0,d1,d2,d3,d4,d5,d6⟩:=cells7 (World.rangeAt_setCells_same (w2.setCell ⟨w.heap.size,2,none⟩ (.string z)) (w.heap.size+1) 0 [.string c,.int .i64 v,.string z,.int .i64 p,.int .i64 s,.int .i64 d,.int .i64 g] (by exact World.there_setCells T2.out w.heap.size 2 [.string z]))
  have hx1:Ex (w.heap.size+1) (w2.setCell ⟨w.heap.size,2,none⟩ (.string z)) (World.setCells (w2.setCell ⟨w.heap.size,2,none⟩ (.string z)) (w.heap.size+1) 0 [.string c,.int .i64 v,.string z,.int .i64 p,.int .i64 s,.int .i64 d,.int .i64 g]):=(Ex.refl _ _).cells _ _
  have hx2:Ex kr w (World.setCells (w2.setCell ⟨w.heap.size,2,none⟩ (.string z)) (w.heap.size+1) 0 [.string c,.int .i64 v,.string z,.int .i64 p,.int .i64 s,.int .i64 d,.int .i64 g]):=Ex.other Y2.out hx1 (by omega)
  have hx3:=Rd.other hr Y3.out hx1 hne2 hx2
  exact bodyPost_ret (v:=.agg #[.string c,.int .i64 v,.string z,.int .i64 p,.int .i64 s,.int .i64 d,.int .i64 g]) (by simp [results,Tryz.results40,go_sem,d0,d1,d2,d3,d4,d5,d6]) rfl ⟨c,z,v,p,s,d,g,rfl,⟨_,hx3,by omega⟩,hx2,hcs,hzs⟩
 ·
  obtain rfl:m1=3:=by omega
  have hbld:=build3i ((-1)) (100) (101)
  go_wp2_with fail
  clear hbld
  have hb2:=bl_alloc (Below.refl w1.heap.size w1) (.cells #[.int .i64 (-1),.int .i64 100,.int .i64 101] 3)
  refine (pick_rd kr a n cap zs _ 3 _ (R1.out.below hb2) (by omega) (by omega) (by omega)).mono ?_
  rintro e w2 ⟨m2,rfl,m20,m21,r2,e2⟩
  have hsl:∀ j,w2.cell? ⟨w1.heap.size,j,none⟩=(w1.alloc (.cells #[.int .i64 (-1),.int .i64 100,.int .i64 101] 3)).cell? ⟨w1.heap.size,j,none⟩:=fun j=>e2.cell (p:=⟨w1.heap.size,j,none⟩) (by simp) (by show w1.heap.size≠kr; omega)
  have hbx:∀ j,w2.cell? ⟨w.heap.size,j,none⟩=(w1.alloc (.cells #[.int .i64 (-1),.int .i64 100,.int .i64 101] 3)).cell? ⟨w.heap.size,j,none⟩:=fun j=>e2.cell (p:=⟨w.heap.size,j,none⟩) (by simp; omega) (by show w.heap.size≠kr; omega)
  have hfx:∀ j,w2.frozen? ⟨w.heap.size,j,none⟩=(w1.alloc (.cells #[.int .i64 (-1),.int .i64 100,.int .i64 101] 3)).frozen? ⟨w.heap.size,j,none⟩:=fun j=>e2.frozen (p:=⟨w.heap.size,j,none⟩) (by simp; omega) (by show w.heap.size≠kr; omega)
  obtain ⟨j,rfl⟩:=Int.eq_ofNat_of_zero_le m20
  have j3:j < 3:=by omega
  have jj:(j:Int) < 3:=m21
  have i0:(0:Int)≤(j:Int):=m20
  obtain ⟨z,hz⟩:∃ z,w2.cell? ⟨w1.heap.size,j,none⟩=some (.int .i64 z):=by
   rw [hsl j]
   obtain rfl | rfl | rfl:j=0∨j=1∨j=2:=by omega
   all_goals exact ⟨_,by simp [go_sem]; rfl⟩
  have c0:=cpa (hbx 0) b0
  have c1:=cpa (hbx 1) b1
  have c2:=cpa (hbx 2) b2
  have c3:=cpa (hbx 3) b3
  have c4:=cpa (hbx 4) b4
  have c5:=cpa (hbx 5) b5
  have c6:=cpa (hbx 6) b6
  have fp:w2.frozen? ⟨w.heap.size,3,none⟩=false:=by rw [hfx 3,World.frozen?_alloc_past _ _ _ (by show w.heap.size < w1.heap.size; omega)]; exact g3
  have T2:Hid (w2.there (w.heap.size+1) 0 7):=there_ex (World.there_alloc T1.out _) (by simp; omega) e2 (by omega)
  have E2:Ex kr w w2:=(E1.out.trans (Ex.of_below hb2)).trans e2
  have y1:Ex w.heap.size w2 (w2.setCell ⟨w.heap.size,3,none⟩ (.int .i64 z)):=Ex.set (Ex.refl w.heap.size w2) 3 (.int .i64 z)
  have y2:Ex kr w (w2.setCell ⟨w.heap.size,3,none⟩ (.int .i64 z)):=Ex.other E2 y1 (Nat.le_refl _)
  have y3:=Rd.other hr r2 y1 (by omega) y2
  have Y2:=hidP y2
  have Y3:=hidP y3
  clear y1 y2 y3 hsl hbx hfx hb2 e2 r2 E2 m20 m21 b0 b1 b2 b3 b4 b5 b6 g0 g1 g2 g3 g4 g5 g6
  go_wp2_with (refine wpList_store_mid (by rfl) 56 _ _ (by rfl) (w.heap.size+1) 0 #[.string c,.int .i64 v,.string h,.int .i64 z,.int .i64 s,.int .i64 d,.int .i64 g] (by rfl) (by rfl) (by exact World.there_setCells T2.out w.heap.size 3 [.int .i64 z]) hinfo (by simp [Value.oneCell']) ?_)
  obtain ⟨d0,d1,d2,d3,d4,d5,d6⟩:=cells7 (World.rangeAt_setCells_same (w2.setCell ⟨w.heap.size,3,none⟩ (.int .i64 z)) (w.heap.size+1) 0 [.string c,.int .i64 v,.string h,.int .i64 z,.int .i64 s,.int .i64 d,.int .i64 g] (by exact World.there_setCells T2.out w.heap.size 3 [.int .i64 z]))
  have hx1:Ex (w.heap.size+1) (w2.setCell ⟨w.heap.size,3,none⟩ (.int .i64 z)) (World.setCells (w2.setCell ⟨w.heap.size,3,none⟩ (.int .i64 z)) (w.heap.size+1) 0 [.string c,.int .i64 v,.string h,.int .i64 z,.int .i64 s,.int .i64 d,.int .i64 g]):=(Ex.refl _ _).cells _ _
  have hx2:Ex kr w (World.setCells (w2.setCell ⟨w.heap.size,3,none⟩ (.int .i64 z)) (w.heap.size+1) 0 [.string c,.int .i64 v,.string h,.int .i64 z,.int .i64 s,.int .i64 d,.int .i64 g]):=Ex.other Y2.out hx1 (by omega)
  have hx3:=Rd.other hr Y3.out hx1 hne2 hx2
  exact bodyPost_ret (v:=.agg #[.string c,.int .i64 v,.string h,.int .i64 z,.int .i64 s,.int .i64 d,.int .i64 g]) (by simp [results,Tryz.results40,go_sem,d0,d1,d2,d3,d4,d5,d6]) rfl ⟨c,h,v,z,s,d,g,rfl,⟨_,hx3,by omega⟩,hx2,hcs,hhs⟩
 ·
  obtain rfl:m1=4:=by omega
  have hbld:=build3i ((-1)) (100) (101)
  go_wp2_with fail
  clear hbld
  have hb2:=bl_alloc (Below.refl w1.heap.size w1) (.cells #[.int .i64 (-1),.int .i64 100,.int .i64 101] 3)
  refine (pick_rd kr a n cap zs _ 3 _ (R1.out.below hb2) (by omega) (by omega) (by omega)).mono ?_
  rintro e w2 ⟨m2,rfl,m20,m21,r2,e2⟩
  have hsl:∀ j,w2.cell? ⟨w1.heap.size,j,none⟩=(w1.alloc (.cells #[.int .i64 (-1),.int .i64 100,.int .i64 101] 3)).cell? ⟨w1.heap.size,j,none⟩:=fun j=>e2.cell (p:=⟨w1.heap.size,j,none⟩) (by simp) (by show w1.heap.size≠kr; omega)
  have hbx:∀ j,w2.cell? ⟨w.heap.size,j,none⟩=(w1.alloc (.cells #[.int .i64 (-1),.int .i64 100,.int .i64 101] 3)).cell? ⟨w.heap.size,j,none⟩:=fun j=>e2.cell (p:=⟨w.heap.size,j,none⟩) (by simp; omega) (by show w.heap.size≠kr; omega)
  have hfx:∀ j,w2.frozen? ⟨w.heap.size,j,none⟩=(w1.alloc (.cells #[.int .i64 (-1),.int .i64 100,.int .i64 101] 3)).frozen? ⟨w.heap.size,j,none⟩:=fun j=>e2.frozen (p:=⟨w.heap.size,j,none⟩) (by simp; omega) (by show w.heap.size≠kr; omega)
  obtain ⟨j,rfl⟩:=Int.eq_ofNat_of_zero_le m20
  have j3:j < 3:=by omega
  have jj:(j:Int) < 3:=m21
  have i0:(0:Int)≤(j:Int):=m20
  obtain ⟨z,hz⟩:∃ z,w2.cell? ⟨w1.heap.size,j,none⟩=some (.int .i64 z):=by
   rw [hsl j]
   obtain rfl | rfl | rfl:j=0∨j=1∨j=2:=by omega
   all_goals exact ⟨_,by simp [go_sem]; rfl⟩
  have c0:=cpa (hbx 0) b0
  have c1:=cpa (hbx 1) b1
  have c2:=cpa (hbx 2) b2
  have c3:=cpa (hbx 3) b3
  have c4:=cpa (hbx 4) b4
  have c5:=cpa (hbx 5) b5
  have c6:=cpa (hbx 6) b6
  have fp:w2.frozen? ⟨w.heap.size,4,none⟩=false:=by rw [hfx 4,World.frozen?_alloc_past _ _ _ (by show w.heap.size < w1.heap.size; omega)]; exact g4
  have T2:Hid (w2.there (w.heap.size+1) 0 7):=there_ex (World.there_alloc T1.out _) (by simp; omega) e2 (by omega)
  have E2:Ex kr w w2:=(E1.out.trans (Ex.of_below hb2)).trans e2
  have y1:Ex w.heap.size w2 (w2.setCell ⟨w.heap.size,4,none⟩ (.int .i64 z)):=Ex.set (Ex.refl w.heap.size w2) 4 (.int .i64 z)
  have y2:Ex kr w (w2.setCell ⟨w.heap.size,4,none⟩ (.int .i64 z)):=Ex.other E2 y1 (Nat.le_refl _)
  have y3:=Rd.other hr r2 y1 (by omega) y2
  have Y2:=hidP y2
  have Y3:=hidP y3
  clear y1 y2 y3 hsl hbx hfx hb2 e2 r2 E2 m20 m21 b0 b1 b2 b3 b4 b5 b6 g0 g1 g2 g3 g4 g5 g6
  go_wp2_with (refine wpList_store_mid (by rfl) 56 _ _ (by rfl) (w.heap.size+1) 0 #[.string c,.int .i64 v,.string h,.int .i64 p,.int .i64 z,.int .i64 d,.int .i64 g] (by rfl) (by rfl) (by exact World.there_setCells T2.out w.heap.size 4 [.int .i64 z]) hinfo (by simp [Value.oneCell']) ?_)
  obtain ⟨d0,d1,d2,d3,d4,d5,d6⟩:=cells7 (World.rangeAt_setCells_same (w2.setCell ⟨w.heap.size,4,none⟩ (.int .i64 z)) (w.heap.size+1) 0 [.string c,.int .i64 v,.string h,.int .i64 p,.int .i64 z,.int .i64 d,.int .i64 g] (by exact World.there_setCells T2.out w.heap.size 4 [.int .i64 z]))
  have hx1:Ex (w.heap.size+1) (w2.setCell ⟨w.heap.size,4,none⟩ (.int .i64 z)) (World.setCells (w2.setCell ⟨w.heap.size,4,none⟩ (.int .i64 z)) (w.heap.size+1) 0 [.string c,.int .i64 v,.string h,.int .i64 p,.int .i64 z,.int .i64 d,.int .i64 g]):=(Ex.refl _ _).cells _ _
  have hx2:Ex kr w (World.setCells (w2.setCell ⟨w.heap.size,4,none⟩ (.int .i64 z)) (w.heap.size+1) 0 [.string c,.int .i64 v,.string h,.int .i64 p,.int .i64 z,.int .i64 d,.int .i64 g]):=Ex.other Y2.out hx1 (by omega)
  have hx3:=Rd.other hr Y3.out hx1 hne2 hx2
  exact bodyPost_ret (v:=.agg #[.string c,.int .i64 v,.string h,.int .i64 p,.int .i64 z,.int .i64 d,.int .i64 g]) (by simp [results,Tryz.results40,go_sem,d0,d1,d2,d3,d4,d5,d6]) rfl ⟨c,h,v,p,z,d,g,rfl,⟨_,hx3,by omega⟩,hx2,hcs,hhs⟩
 ·
  obtain rfl:m1=5:=by omega
  have hbld:=build3i ((-1)) (100) (101)
  go_wp2_with fail
  clear hbld
  have hb2:=bl_alloc (Below.refl w1.heap.size w1) (.cells #[.int .i64 (-1),.int .i64 100,.int .i64 101] 3)
  refine (pick_rd kr a n cap zs _ 3 _ (R1.out.below hb2) (by omega) (by omega) (by omega)).mono ?_
  rintro e w2 ⟨m2,rfl,m20,m21,r2,e2⟩
  have hsl:∀ j,w2.cell? ⟨w1.heap.size,j,none⟩=(w1.alloc (.cells #[.int .i64 (-1),.int .i64 100,.int .i64 101] 3)).cell? ⟨w1.heap.size,j,none⟩:=fun j=>e2.cell (p:=⟨w1.heap.size,j,none⟩) (by simp) (by show w1.heap.size≠kr; omega)
  have hbx:∀ j,w2.cell? ⟨w.heap.size,j,none⟩=(w1.alloc (.cells #[.int .i64 (-1),.int .i64 100,.int .i64 101] 3)).cell? ⟨w.heap.size,j,none⟩:=fun j=>e2.cell (p:=⟨w.heap.size,j,none⟩) (by simp; omega) (by show w.heap.size≠kr; omega)
  have hfx:∀ j,w2.frozen? ⟨w.heap.size,j,none⟩=(w1.alloc (.cells #[.int .i64 (-1),.int .i64 100,.int .i64 101] 3)).frozen? ⟨w.heap.size,j,none⟩:=fun j=>e2.frozen (p:=⟨w.heap.size,j,none⟩) (by simp; omega) (by show w.heap.size≠kr; omega)
  obtain ⟨j,rfl⟩:=Int.eq_ofNat_of_zero_le m20
  have j3:j < 3:=by omega
  have jj:(j:Int) < 3:=m21
  have i0:(0:Int)≤(j:Int):=m20
  obtain ⟨z,hz⟩:∃ z,w2.cell? ⟨w1.heap.size,j,none⟩=some (.int .i64 z):=by
   rw [hsl j]
   obtain rfl | rfl | rfl:j=0∨j=1∨j=2:=by omega
   all_goals exact ⟨_,by simp [go_sem]; rfl⟩
  have c0:=cpa (hbx 0) b0
  have c1:=cpa (hbx 1) b1
  have c2:=cpa (hbx 2) b2
  have c3:=cpa (hbx 3) b3
  have c4:=cpa (hbx 4) b4
  have c5:=cpa (hbx 5) b5
  have c6:=cpa (hbx 6) b6
  have fp:w2.frozen? ⟨w.heap.size,5,none⟩=false:=by rw [hfx 5,World.frozen?_alloc_past _ _ _ (by show w.heap.size < w1.heap.size; omega)]; exact g5
  have T2:Hid (w2.there (w.heap.size+1) 0 7):=there_ex (World.there_alloc T1.out _) (by simp; omega) e2 (by omega)
  have E2:Ex kr w w2:=(E1.out.trans (Ex.of_below hb2)).trans e2
  have y1:Ex w.heap.size w2 (w2.setCell ⟨w.heap.size,5,none⟩ (.int .i64 z)):=Ex.set (Ex.refl w.heap.size w2) 5 (.int .i64 z)
  have y2:Ex kr w (w2.setCell ⟨w.heap.size,5,none⟩ (.int .i64 z)):=Ex.other E2 y1 (Nat.le_refl _)
  have y3:=Rd.other hr r2 y1 (by omega) y2
  have Y2:=hidP y2
  have Y3:=hidP y3
  clear y1 y2 y3 hsl hbx hfx hb2 e2 r2 E2 m20 m21 b0 b1 b2 b3 b4 b5 b6 g0 g1 g2 g3 g4 g5 g6
  go_wp2_with (refine wpList_store_mid (by rfl) 56 _ _ (by rfl) (w.heap.size+1) 0 #[.string c,.int .i64 v,.string h,.int .i64 p,.int .i64 s,.int .i64 z,.int .i64 g] (by rfl) (by rfl) (by exact World.there_setCells T2.out w.heap.size 5 [.int .i64 z]) hinfo (by simp [Value.oneCell']) ?_)
  obtain ⟨d0,d1,d2,d3,d4,d5,d6⟩:=cells7 (World.rangeAt_setCells_same (w2.setCell ⟨w.heap.size,5,none⟩ (.int .i64 z)) (w.heap.size+1) 0 [.string c,.int .i64 v,.string h,.int .i64 p,.int .i64 s,.int .i64 z,.int .i64 g] (by exact World.there_setCells T2.out w.heap.size 5 [.int .i64 z]))
  have hx1:Ex (w.heap.size+1) (w2.setCell ⟨w.heap.size,5,none⟩ (.int .i64 z)) (World.setCells (w2.setCell ⟨w.heap.size,5,none⟩ (.int .i64 z)) (w.heap.size+1) 0 [.string c,.int .i64 v,.string h,.int .i64 p,.int .i64 s,.int .i64 z,.int .i64 g]):=(Ex.refl _ _).cells _ _
  have hx2:Ex kr w (World.setCells (w2.setCell ⟨w.heap.size,5,none⟩ (.int .i64 z)) (w.heap.size+1) 0 [.string c,.int .i64 v,.string h,.int .i64 p,.int .i64 s,.int .i64 z,.int .i64 g]):=Ex.other Y2.out hx1 (by omega)
  have hx3:=Rd.other hr Y3.out hx1 hne2 hx2
  exact bodyPost_ret (v:=.agg #[.string c,.int .i64 v,.string h,.int .i64 p,.int .i64 s,.int .i64 z,.int .i64 g]) (by simp [results,Tryz.results40,go_sem,d0,d1,d2,d3,d4,d5,d6]) rfl ⟨c,h,v,p,s,z,g,rfl,⟨_,hx3,by omega⟩,hx2,hcs,hhs⟩
 ·
  have hm6:m1=6:=by omega
  subst hm6
  have hbld:=build3i ((-1)) (100) (101)
  go_wp2_with fail
  clear hbld
  have hb2:=bl_alloc (Below.refl w1.heap.size w1) (.cells #[.int .i64 (-1),.int .i64 100,.int .i64 101] 3)
  refine (pick_rd kr a n cap zs _ 3 _ (R1.out.below hb2) (by omega) (by omega) (by omega)).mono ?_
  rintro e w2 ⟨m2,rfl,m20,m21,r2,e2⟩
  have hsl:∀ j,w2.cell? ⟨w1.heap.size,j,none⟩=(w1.alloc (.cells #[.int .i64 (-1),.int .i64 100,.int .i64 101] 3)).cell? ⟨w1.heap.size,j,none⟩:=fun j=>e2.cell (p:=⟨w1.heap.size,j,none⟩) (by simp) (by show w1.heap.size≠kr; omega)
  have hbx:∀ j,w2.cell? ⟨w.heap.size,j,none⟩=(w1.alloc (.cells #[.int .i64 (-1),.int .i64 100,.int .i64 101] 3)).cell? ⟨w.heap.size,j,none⟩:=fun j=>e2.cell (p:=⟨w.heap.size,j,none⟩) (by simp; omega) (by show w.heap.size≠kr; omega)
  have hfx:∀ j,w2.frozen? ⟨w.heap.size,j,none⟩=(w1.alloc (.cells #[.int .i64 (-1),.int .i64 100,.int .i64 101] 3)).frozen? ⟨w.heap.size,j,none⟩:=fun j=>e2.frozen (p:=⟨w.heap.size,j,none⟩) (by simp; omega) (by show w.heap.size≠kr; omega)
  obtain ⟨j,rfl⟩:=Int.eq_ofNat_of_zero_le m20
  have j3:j < 3:=by omega
  have jj:(j:Int) < 3:=m21
  have i0:(0:Int)≤(j:Int):=m20
  obtain ⟨z,hz⟩:∃ z,w2.cell? ⟨w1.heap.size,j,none⟩=some (.int .i64 z):=by
   rw [hsl j]
   obtain rfl | rfl | rfl:j=0∨j=1∨j=2:=by omega
   all_goals exact ⟨_,by simp [go_sem]; rfl⟩
  have c0:=cpa (hbx 0) b0
  have c1:=cpa (hbx 1) b1
  have c2:=cpa (hbx 2) b2
  have c3:=cpa (hbx 3) b3
  have c4:=cpa (hbx 4) b4
  have c5:=cpa (hbx 5) b5
  have c6:=cpa (hbx 6) b6
  have fp:w2.frozen? ⟨w.heap.size,6,none⟩=false:=by rw [hfx 6,World.frozen?_alloc_past _ _ _ (by show w.heap.size < w1.heap.size; omega)]; exact g6
  have T2:Hid (w2.there (w.heap.size+1) 0 7):=there_ex (World.there_alloc T1.out _) (by simp; omega) e2 (by omega)
  have E2:Ex kr w w2:=(E1.out.trans (Ex.of_below hb2)).trans e2
  have y1:Ex w.heap.size w2 (w2.setCell ⟨w.heap.size,6,none⟩ (.int .i64 z)):=Ex.set (Ex.refl w.heap.size w2) 6 (.int .i64 z)
  have y2:Ex kr w (w2.setCell ⟨w.heap.size,6,none⟩ (.int .i64 z)):=Ex.other E2 y1 (Nat.le_refl _)
  have y3:=Rd.other hr r2 y1 (by omega) y2
  have Y2:=hidP y2
  have Y3:=hidP y3
  clear y1 y2 y3 hsl hbx hfx hb2 e2 r2 E2 m20 m21 b0 b1 b2 b3 b4 b5 b6 g0 g1 g2 g3 g4 g5 g6
  go_wp2_with (refine wpList_store_mid (by rfl) 56 _ _ (by rfl) (w.heap.size+1) 0 #[.string c,.int .i64 v,.string h,.int .i64 p,.int .i64 s,.int .i64 d,.int .i64 z] (by rfl) (by rfl) (by exact World.there_setCells T2.out w.heap.size 6 [.int .i64 z]) hinfo (by simp [Value.oneCell']) ?_)
  obtain ⟨d0,d1,d2,d3,d4,d5,d6⟩:=cells7 (World.rangeAt_setCells_same (w2.setCell ⟨w.heap.size,6,none⟩ (.int .i64 z)) (w.heap.size+1) 0 [.string c,.int .i64 v,.string h,.int .i64 p,.int .i64 s,.int .i64 d,.int .i64 z] (by exact World.there_setCells T2.out w.heap.size 6 [.int .i64 z]))
  have hx1:Ex (w.heap.size+1) (w2.setCell ⟨w.heap.size,6,none⟩ (.int .i64 z)) (World.setCells (w2.setCell ⟨w.heap.size,6,none⟩ (.int .i64 z)) (w.heap.size+1) 0 [.string c,.int .i64 v,.string h,.int .i64 p,.int .i64 s,.int .i64 d,.int .i64 z]):=(Ex.refl _ _).cells _ _
  have hx2:Ex kr w (World.setCells (w2.setCell ⟨w.heap.size,6,none⟩ (.int .i64 z)) (w.heap.size+1) 0 [.string c,.int .i64 v,.string h,.int .i64 p,.int .i64 s,.int .i64 d,.int .i64 z]):=Ex.other Y2.out hx1 (by omega)
  have hx3:=Rd.other hr Y3.out hx1 hne2 hx2
  exact bodyPost_ret (v:=.agg #[.string c,.int .i64 v,.string h,.int .i64 p,.int .i64 s,.int .i64 d,.int .i64 z]) (by simp [results,Tryz.results40,go_sem,d0,d1,d2,d3,d4,d5,d6]) rfl ⟨c,h,v,p,s,d,z,rfl,⟨_,hx3,by omega⟩,hx2,hcs,hhs⟩
end Go.Proofs.YtcjhlhijdacinaaGreatDoor
