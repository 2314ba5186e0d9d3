import Derived.Test.YtlfnpjcjapljpaaGreatDoorJ16
import Derived.Test.YtlfnpjcjapljpaaGreatDoorJ11
import Derived.Deep.DeepCutAuto
import Derived.Deep.CutBlock
namespace Go.Proofs.YtlfnpjcjapljpaaGreatDoor
open Go.Proofs.Tryz Go.RowKit
set_option maxRecDepth 4000
set_option maxHeartbeats 2000000
set_option linter.unusedVariables false
theorem iC{wx:World}{k:Nat}{v0 v1 v2 v3 v4 v5 v6 v7 v8 v9 v10:Value}(h:wx.rangeAt k 0 [v0,v1,v2,v3,v4,v5,v6,v7,v8,v9,v10]):wx.cell? ⟨k,0,none⟩=some v0/\wx.cell? ⟨k,1,none⟩=some v1/\wx.cell? ⟨k,2,none⟩=some v2/\wx.cell? ⟨k,3,none⟩=some v3/\wx.cell? ⟨k,4,none⟩=some v4/\wx.cell? ⟨k,5,none⟩=some v5/\wx.cell? ⟨k,6,none⟩=some v6/\wx.cell? ⟨k,7,none⟩=some v7/\wx.cell? ⟨k,8,none⟩=some v8/\wx.cell? ⟨k,9,none⟩=some v9/\wx.cell? ⟨k,10,none⟩=some v10:=
 ⟨by simpa using h 0 _ rfl,by simpa using h 1 _ rfl,by simpa using h 2 _ rfl,by simpa using h 3 _ rfl,by simpa using h 4 _ rfl,by simpa using h 5 _ rfl,by simpa using h 6 _ rfl,by simpa using h 7 _ rfl,by simpa using h 8 _ rfl,by simpa using h 9 _ rfl,by simpa using h 10 _ rfl⟩
theorem Ch(w:World)(t:TypeId):(w.alloc (.cells (aL ⟨#[]⟩ 0 ⟨#[]⟩ 0 0 0 0 0 0 0 0) t)).there w.heap.size 0 11:=
 fun j hj=>⟨by simp[go_sem];omega,by simp[go_sem]⟩
theorem Ci(kr:Nat)(a:Option Addr)(n cap:Nat)(zs:List Int)(p clock:Int)(c:ByteArray)(w:World)(hr:Rd w kr a n cap zs p)(hp:p<800000)(k0:0<=clock)(k1:clock<=100000):
  Calls prog 149 #[.pointer (some ⟨kr,0,none⟩),.string c,.int .i64 clock] w fun e w'=>∃(h:ByteArray)(v1 p1 s d g st lf fl un:Int),e=.returned (.agg (aL c v1 h p1 s d g st lf fl un))/\(0<=lf/\lf<=100)/\(0<=fl/\fl<=100)/\(∃q,Rd w' kr a n cap zs q/\q<=p+100)/\Ex kr w w'/\h.size<=20/\(-100000<=un/\un<=200000):=by
 have hkr:=hr.lt;go_enter func149,ntmps149
 go_wp2_with fail
 have hb1:=ae (Below.refl w.heap.size w) (.cells (aL ⟨#[]⟩ 0 ⟨#[]⟩ 0 0 0 0 0 0 0 0) 39);refine(sK kr a n cap zs p c _ (hr.below hb1) (by omega)).mono ?_;rintro e w1 ⟨h,v1,p1,s,d,g,rfl,hh,-,-,-,-,-,⟨q1,r1,hq1⟩,e1⟩;go_wp2_with fail
 refine(eY kr a n cap zs q1 6 _ r1 (by omega) (by omega) (by omega)).mono ?_;rintro e w2 ⟨m1,rfl,m10,m11,r2,e2⟩;go_wp2_with fail
 refine(eY kr a n cap zs _ 5 _ r2 (by omega) (by omega) (by omega)).mono ?_;rintro e w3 ⟨m2,rfl,m20,m21,r3,e3⟩;go_wp2_with fail
 refine(eY kr a n cap zs _ 6 _ r3 (by omega) (by omega) (by omega)).mono ?_;rintro e w4 ⟨m3,rfl,VL,VM,r4,e4⟩;have hne:kr≠w.heap.size:=by omega
 have hinfo:(prog.info? 39).map (·.size)=some 11:=by kernel_rfl
 have e4':=(e1.trans e2).trans (e3.trans e4);have T4:w4.there w.heap.size 0 11:=bh (Ch w 39) (by simp) e4' (by omega);have E4:Ex kr w w4:=(Ex.of_below hb1).trans e4';have z4:w.heap.size<w4.heap.size:=Nat.lt_of_lt_of_le (by simp) e4'.size;clear hb1 e1 e2 e3 e4 r1 r2 r3 e4';have T4':Hid _:=T4;have MG:Hid _:=E4;have NW:Hid _:=r4;clear T4 E4 r4;cases hE:h.toList.isEmpty
 ·
  go_wp2_with fail
  have hb4:=ae (Below.refl w4.heap.size w4) (.cells (aL c v1 h p1 s d g (1+m1) m2 m3 0) 39);refine(eY kr a n cap zs _ 14 _ (NW.out.below hb4) (by omega) (by omega) (by omega)).mono ?_;rintro e w5 ⟨m5,rfl,VN,VO,r5,e5⟩;have JO:w4.heap.size≠kr:=by have:=MG.out.size;omega
  have hbx:∀j,w5.cell? ⟨w4.heap.size,j,none⟩=(w4.alloc (.cells (aL c v1 h p1 s d g (1+m1) m2 m3 0) 39)).cell? ⟨w4.heap.size,j,none⟩:=fun j=>e5.cell (p:=⟨w4.heap.size,j,none⟩) (by simp) JO;have hfx:∀j,w5.frozen? ⟨w4.heap.size,j,none⟩=(w4.alloc (.cells (aL c v1 h p1 s d g (1+m1) m2 m3 0) 39)).frozen? ⟨w4.heap.size,j,none⟩:=fun j=>e5.frozen (p:=⟨w4.heap.size,j,none⟩) (by simp) JO;have T5:w5.there w.heap.size 0 11:=bh (World.there_alloc T4'.out _) (by simp;omega) e5 (by omega);have E5:Ex kr w w5:=(MG.out.trans (Ex.of_below hb4)).trans e5;have z45:w4.heap.size<w5.heap.size:=Nat.lt_of_lt_of_le (by simp) e5.size;have Ew:Hid _:=T5;have MH:Hid _:=E5;have MI:Hid _:=r5;clear T5 E5 r5 e5 hb4;have c0:w5.cell? ⟨w4.heap.size,0,none⟩=some (.string c):=by rw[hbx 0];simp[go_sem]
  have c1:w5.cell? ⟨w4.heap.size,1,none⟩=some (.int .i64 v1):=by rw[hbx 1];simp[go_sem]
  have c2:w5.cell? ⟨w4.heap.size,2,none⟩=some (.string h):=by rw[hbx 2];simp[go_sem]
  have c3:w5.cell? ⟨w4.heap.size,3,none⟩=some (.int .i64 p1):=by rw[hbx 3];simp[go_sem]
  have c4:w5.cell? ⟨w4.heap.size,4,none⟩=some (.int .i64 s):=by rw[hbx 4];simp[go_sem]
  have c5:w5.cell? ⟨w4.heap.size,5,none⟩=some (.int .i64 d):=by rw[hbx 5];simp[go_sem]
  have c6:w5.cell? ⟨w4.heap.size,6,none⟩=some (.int .i64 g):=by rw[hbx 6];simp[go_sem]
  have c7:w5.cell? ⟨w4.heap.size,7,none⟩=some (.int .i64 (1+m1)):=by rw[hbx 7];simp[go_sem]
  have c8:w5.cell? ⟨w4.heap.size,8,none⟩=some (.int .i64 m2):=by rw[hbx 8];simp[go_sem]
  have c9:w5.cell? ⟨w4.heap.size,9,none⟩=some (.int .i64 m3):=by rw[hbx 9];simp[go_sem]
  have c10:w5.cell? ⟨w4.heap.size,10,none⟩=some (.int .i64 0):=by rw[hbx 10];simp[go_sem]
  have f8:w5.frozen? ⟨w4.heap.size,8,none⟩=false:=by rw[hfx 8];simp[go_sem]
  have f10:w5.frozen? ⟨w4.heap.size,10,none⟩=false:=by rw[hfx 10];simp[go_sem]
  clear hbx hfx;by_cases hun:clock+m5-4<0
  ·
   by_cases hst:m1=1
   ·
    obtain rfl:m1=1:=by omega
    simp only[show(1:Int)+1=2 from rfl]at c7;have y1:Ex w4.heap.size w5 (((w5.setCell ⟨w4.heap.size,10,none⟩ (.int .i64 (clock+m5-4))).setCell ⟨w4.heap.size,10,none⟩ (.int .i64 (0))).setCell ⟨w4.heap.size,8,none⟩ (.int .i64 (0))):=Ex.set (Ex.set (Ex.set (Ex.refl w4.heap.size w5) 10 (.int .i64 (clock+m5-4))) 10 (.int .i64 (0))) 8 (.int .i64 (0));have y2:Ex kr w (((w5.setCell ⟨w4.heap.size,10,none⟩ (.int .i64 (clock+m5-4))).setCell ⟨w4.heap.size,10,none⟩ (.int .i64 (0))).setCell ⟨w4.heap.size,8,none⟩ (.int .i64 (0))):=Ex.other MH.out y1 (by omega);have y3:=Rd.other hr MI.out y1 (by omega) y2;have Y2:=ah y2;have Y3:=ah y3;clear y1 y2 y3;go_wp2_with (refine wpList_store_mid (by rfl) 39 _ _ (by rfl) w.heap.size 0 (aL c v1 h p1 s d g 2 0 m3 0) (by rfl) (by rfl) (by exact World.there_setCells (World.there_setCells (World.there_setCells (Ew.out) w4.heap.size 10 [.int .i64 (clock+m5-4)]) w4.heap.size 10 [.int .i64 (0)]) w4.heap.size 8 [.int .i64 (0)]) hinfo (by simp[Value.oneCell']) ?_)
    obtain⟨d0,d1,d2,d3,d4,d5,d6,d7,d8,d9,kQ⟩:=iC (World.rangeAt_setCells_same (((w5.setCell ⟨w4.heap.size,10,none⟩ (.int .i64 (clock+m5-4))).setCell ⟨w4.heap.size,10,none⟩ (.int .i64 (0))).setCell ⟨w4.heap.size,8,none⟩ (.int .i64 (0))) w.heap.size 0 (ko c v1 h p1 s d g 2 0 m3 0) (by exact World.there_setCells (World.there_setCells (World.there_setCells (Ew.out) w4.heap.size 10 [.int .i64 (clock+m5-4)]) w4.heap.size 10 [.int .i64 (0)]) w4.heap.size 8 [.int .i64 (0)]));have hx1:Ex w.heap.size (((w5.setCell ⟨w4.heap.size,10,none⟩ (.int .i64 (clock+m5-4))).setCell ⟨w4.heap.size,10,none⟩ (.int .i64 (0))).setCell ⟨w4.heap.size,8,none⟩ (.int .i64 (0))) (World.setCells (((w5.setCell ⟨w4.heap.size,10,none⟩ (.int .i64 (clock+m5-4))).setCell ⟨w4.heap.size,10,none⟩ (.int .i64 (0))).setCell ⟨w4.heap.size,8,none⟩ (.int .i64 (0))) w.heap.size 0 (ko c v1 h p1 s d g 2 0 m3 0)):=(Ex.refl _ _).cells _ _;have hx2:Ex kr w (World.setCells (((w5.setCell ⟨w4.heap.size,10,none⟩ (.int .i64 (clock+m5-4))).setCell ⟨w4.heap.size,10,none⟩ (.int .i64 (0))).setCell ⟨w4.heap.size,8,none⟩ (.int .i64 (0))) w.heap.size 0 (ko c v1 h p1 s d g 2 0 m3 0)):=Ex.other Y2.out hx1 (Nat.le_refl _);have hx3:=Rd.other hr Y3.out hx1 hne hx2;exact bodyPost_ret (v:=.agg (aL c v1 h p1 s d g 2 0 m3 0)) (by simp[results,results149,go_sem,d0,d1,d2,d3,d4,d5,d6,d7,d8,d9,kQ]) rfl ⟨h,v1,p1,s,d,g,2,0,m3,0,rfl,⟨by omega,by omega⟩,⟨by omega,by omega⟩,⟨_,hx3,by omega⟩,hx2,hh,by omega,by omega⟩
   have y1:Ex w4.heap.size w5 ((w5.setCell ⟨w4.heap.size,10,none⟩ (.int .i64 (clock+m5-4))).setCell ⟨w4.heap.size,10,none⟩ (.int .i64 (0))):=Ex.set (Ex.set (Ex.refl w4.heap.size w5) 10 (.int .i64 (clock+m5-4))) 10 (.int .i64 (0));have y2:Ex kr w ((w5.setCell ⟨w4.heap.size,10,none⟩ (.int .i64 (clock+m5-4))).setCell ⟨w4.heap.size,10,none⟩ (.int .i64 (0))):=Ex.other MH.out y1 (by omega);have y3:=Rd.other hr MI.out y1 (by omega) y2;have Y2:=ah y2;have Y3:=ah y3;clear y1 y2 y3;go_wp2_with (refine wpList_store_mid (by rfl) 39 _ _ (by rfl) w.heap.size 0 (aL c v1 h p1 s d g (1+m1) m2 m3 0) (by rfl) (by rfl) (by exact World.there_setCells (World.there_setCells (Ew.out) w4.heap.size 10 [.int .i64 (clock+m5-4)]) w4.heap.size 10 [.int .i64 (0)]) hinfo (by simp[Value.oneCell']) ?_)
   obtain⟨d0,d1,d2,d3,d4,d5,d6,d7,d8,d9,kQ⟩:=iC (World.rangeAt_setCells_same ((w5.setCell ⟨w4.heap.size,10,none⟩ (.int .i64 (clock+m5-4))).setCell ⟨w4.heap.size,10,none⟩ (.int .i64 (0))) w.heap.size 0 (ko c v1 h p1 s d g (1+m1) m2 m3 0) (by exact World.there_setCells (World.there_setCells (Ew.out) w4.heap.size 10 [.int .i64 (clock+m5-4)]) w4.heap.size 10 [.int .i64 (0)]));have hx1:Ex w.heap.size ((w5.setCell ⟨w4.heap.size,10,none⟩ (.int .i64 (clock+m5-4))).setCell ⟨w4.heap.size,10,none⟩ (.int .i64 (0))) (World.setCells ((w5.setCell ⟨w4.heap.size,10,none⟩ (.int .i64 (clock+m5-4))).setCell ⟨w4.heap.size,10,none⟩ (.int .i64 (0))) w.heap.size 0 (ko c v1 h p1 s d g (1+m1) m2 m3 0)):=(Ex.refl _ _).cells _ _;have hx2:Ex kr w (World.setCells ((w5.setCell ⟨w4.heap.size,10,none⟩ (.int .i64 (clock+m5-4))).setCell ⟨w4.heap.size,10,none⟩ (.int .i64 (0))) w.heap.size 0 (ko c v1 h p1 s d g (1+m1) m2 m3 0)):=Ex.other Y2.out hx1 (Nat.le_refl _);have hx3:=Rd.other hr Y3.out hx1 hne hx2;exact bodyPost_ret (v:=.agg (aL c v1 h p1 s d g (1+m1) m2 m3 0)) (by simp[results,results149,go_sem,d0,d1,d2,d3,d4,d5,d6,d7,d8,d9,kQ]) rfl ⟨h,v1,p1,s,d,g,(1+m1),m2,m3,0,rfl,⟨by omega,by omega⟩,⟨by omega,by omega⟩,⟨_,hx3,by omega⟩,hx2,hh,by omega,by omega⟩
  by_cases hst:m1=1
  ·
   obtain rfl:m1=1:=by omega
   simp only[show(1:Int)+1=2 from rfl]at c7;have y1:Ex w4.heap.size w5 ((w5.setCell ⟨w4.heap.size,10,none⟩ (.int .i64 (clock+m5-4))).setCell ⟨w4.heap.size,8,none⟩ (.int .i64 (0))):=Ex.set (Ex.set (Ex.refl w4.heap.size w5) 10 (.int .i64 (clock+m5-4))) 8 (.int .i64 (0));have y2:Ex kr w ((w5.setCell ⟨w4.heap.size,10,none⟩ (.int .i64 (clock+m5-4))).setCell ⟨w4.heap.size,8,none⟩ (.int .i64 (0))):=Ex.other MH.out y1 (by omega);have y3:=Rd.other hr MI.out y1 (by omega) y2;have Y2:=ah y2;have Y3:=ah y3;clear y1 y2 y3;go_wp2_with (refine wpList_store_mid (by rfl) 39 _ _ (by rfl) w.heap.size 0 (aL c v1 h p1 s d g 2 0 m3 (clock+m5-4)) (by rfl) (by rfl) (by exact World.there_setCells (World.there_setCells (Ew.out) w4.heap.size 10 [.int .i64 (clock+m5-4)]) w4.heap.size 8 [.int .i64 (0)]) hinfo (by simp[Value.oneCell']) ?_)
   obtain⟨d0,d1,d2,d3,d4,d5,d6,d7,d8,d9,kQ⟩:=iC (World.rangeAt_setCells_same ((w5.setCell ⟨w4.heap.size,10,none⟩ (.int .i64 (clock+m5-4))).setCell ⟨w4.heap.size,8,none⟩ (.int .i64 (0))) w.heap.size 0 (ko c v1 h p1 s d g 2 0 m3 (clock+m5-4)) (by exact World.there_setCells (World.there_setCells (Ew.out) w4.heap.size 10 [.int .i64 (clock+m5-4)]) w4.heap.size 8 [.int .i64 (0)]));have hx1:Ex w.heap.size ((w5.setCell ⟨w4.heap.size,10,none⟩ (.int .i64 (clock+m5-4))).setCell ⟨w4.heap.size,8,none⟩ (.int .i64 (0))) (World.setCells ((w5.setCell ⟨w4.heap.size,10,none⟩ (.int .i64 (clock+m5-4))).setCell ⟨w4.heap.size,8,none⟩ (.int .i64 (0))) w.heap.size 0 (ko c v1 h p1 s d g 2 0 m3 (clock+m5-4))):=(Ex.refl _ _).cells _ _;have hx2:Ex kr w (World.setCells ((w5.setCell ⟨w4.heap.size,10,none⟩ (.int .i64 (clock+m5-4))).setCell ⟨w4.heap.size,8,none⟩ (.int .i64 (0))) w.heap.size 0 (ko c v1 h p1 s d g 2 0 m3 (clock+m5-4))):=Ex.other Y2.out hx1 (Nat.le_refl _);have hx3:=Rd.other hr Y3.out hx1 hne hx2;exact bodyPost_ret (v:=.agg (aL c v1 h p1 s d g 2 0 m3 (clock+m5-4))) (by simp[results,results149,go_sem,d0,d1,d2,d3,d4,d5,d6,d7,d8,d9,kQ]) rfl ⟨h,v1,p1,s,d,g,2,0,m3,(clock+m5-4),rfl,⟨by omega,by omega⟩,⟨by omega,by omega⟩,⟨_,hx3,by omega⟩,hx2,hh,by omega,by omega⟩
  have y1:Ex w4.heap.size w5 (w5.setCell ⟨w4.heap.size,10,none⟩ (.int .i64 (clock+m5-4))):=Ex.set (Ex.refl w4.heap.size w5) 10 (.int .i64 (clock+m5-4));have y2:Ex kr w (w5.setCell ⟨w4.heap.size,10,none⟩ (.int .i64 (clock+m5-4))):=Ex.other MH.out y1 (by omega);have y3:=Rd.other hr MI.out y1 (by omega) y2;have Y2:=ah y2;have Y3:=ah y3;clear y1 y2 y3;go_wp2_with (refine wpList_store_mid (by rfl) 39 _ _ (by rfl) w.heap.size 0 (aL c v1 h p1 s d g (1+m1) m2 m3 (clock+m5-4)) (by rfl) (by rfl) (by exact World.there_setCells (Ew.out) w4.heap.size 10 [.int .i64 (clock+m5-4)]) hinfo (by simp[Value.oneCell']) ?_)
  obtain⟨d0,d1,d2,d3,d4,d5,d6,d7,d8,d9,kQ⟩:=iC (World.rangeAt_setCells_same (w5.setCell ⟨w4.heap.size,10,none⟩ (.int .i64 (clock+m5-4))) w.heap.size 0 (ko c v1 h p1 s d g (1+m1) m2 m3 (clock+m5-4)) (by exact World.there_setCells (Ew.out) w4.heap.size 10 [.int .i64 (clock+m5-4)]));have hx1:Ex w.heap.size (w5.setCell ⟨w4.heap.size,10,none⟩ (.int .i64 (clock+m5-4))) (World.setCells (w5.setCell ⟨w4.heap.size,10,none⟩ (.int .i64 (clock+m5-4))) w.heap.size 0 (ko c v1 h p1 s d g (1+m1) m2 m3 (clock+m5-4))):=(Ex.refl _ _).cells _ _;have hx2:Ex kr w (World.setCells (w5.setCell ⟨w4.heap.size,10,none⟩ (.int .i64 (clock+m5-4))) w.heap.size 0 (ko c v1 h p1 s d g (1+m1) m2 m3 (clock+m5-4))):=Ex.other Y2.out hx1 (Nat.le_refl _);have hx3:=Rd.other hr Y3.out hx1 hne hx2;exact bodyPost_ret (v:=.agg (aL c v1 h p1 s d g (1+m1) m2 m3 (clock+m5-4))) (by simp[results,results149,go_sem,d0,d1,d2,d3,d4,d5,d6,d7,d8,d9,kQ]) rfl ⟨h,v1,p1,s,d,g,(1+m1),m2,m3,(clock+m5-4),rfl,⟨by omega,by omega⟩,⟨by omega,by omega⟩,⟨_,hx3,by omega⟩,hx2,hh,by omega,by omega⟩
 ·
  by_cases hst:m1=1
  ·
   obtain rfl:m1=1:=by omega
   have hb4:=ae (Below.refl w4.heap.size w4) (.cells (aL c v1 h p1 s d g 2 0 m3 0) 39);have Y2:=ah (MG.out.trans (Ex.of_below hb4));have Y3:=ah (NW.out.below hb4);clear hb4;go_wp2_with (refine wpList_store_mid (by rfl) 39 _ _ (by rfl) w.heap.size 0 (aL c v1 h p1 s d g 2 0 m3 0) (by rfl) (by rfl) (by exact World.there_alloc T4'.out _) hinfo (by simp[Value.oneCell']) ?_)
   obtain⟨d0,d1,d2,d3,d4,d5,d6,d7,d8,d9,kQ⟩:=iC (World.rangeAt_setCells_same (w4.alloc (.cells (aL c v1 h p1 s d g 2 0 m3 0) 39)) w.heap.size 0 (ko c v1 h p1 s d g 2 0 m3 0) (by exact World.there_alloc T4'.out _));have hx1:Ex w.heap.size (w4.alloc (.cells (aL c v1 h p1 s d g 2 0 m3 0) 39)) (World.setCells (w4.alloc (.cells (aL c v1 h p1 s d g 2 0 m3 0) 39)) w.heap.size 0 (ko c v1 h p1 s d g 2 0 m3 0)):=(Ex.refl _ _).cells _ _;have hx2:Ex kr w (World.setCells (w4.alloc (.cells (aL c v1 h p1 s d g 2 0 m3 0) 39)) w.heap.size 0 (ko c v1 h p1 s d g 2 0 m3 0)):=Ex.other Y2.out hx1 (Nat.le_refl _);have hx3:=Rd.other hr Y3.out hx1 hne hx2;exact bodyPost_ret (v:=.agg (aL c v1 h p1 s d g 2 0 m3 0)) (by simp[results,results149,go_sem,d0,d1,d2,d3,d4,d5,d6,d7,d8,d9,kQ]) rfl ⟨h,v1,p1,s,d,g,2,0,m3,0,rfl,⟨by omega,by omega⟩,⟨by omega,by omega⟩,⟨_,hx3,by omega⟩,hx2,hh,by omega,by omega⟩
  have hb4:=ae (Below.refl w4.heap.size w4) (.cells (aL c v1 h p1 s d g (1+m1) m2 m3 0) 39);have Y2:=ah (MG.out.trans (Ex.of_below hb4));have Y3:=ah (NW.out.below hb4);clear hb4;go_wp2_with (refine wpList_store_mid (by rfl) 39 _ _ (by rfl) w.heap.size 0 (aL c v1 h p1 s d g (1+m1) m2 m3 0) (by rfl) (by rfl) (by exact World.there_alloc T4'.out _) hinfo (by simp[Value.oneCell']) ?_)
  obtain⟨d0,d1,d2,d3,d4,d5,d6,d7,d8,d9,kQ⟩:=iC (World.rangeAt_setCells_same (w4.alloc (.cells (aL c v1 h p1 s d g (1+m1) m2 m3 0) 39)) w.heap.size 0 (ko c v1 h p1 s d g (1+m1) m2 m3 0) (by exact World.there_alloc T4'.out _));have hx1:Ex w.heap.size (w4.alloc (.cells (aL c v1 h p1 s d g (1+m1) m2 m3 0) 39)) (World.setCells (w4.alloc (.cells (aL c v1 h p1 s d g (1+m1) m2 m3 0) 39)) w.heap.size 0 (ko c v1 h p1 s d g (1+m1) m2 m3 0)):=(Ex.refl _ _).cells _ _;have hx2:Ex kr w (World.setCells (w4.alloc (.cells (aL c v1 h p1 s d g (1+m1) m2 m3 0) 39)) w.heap.size 0 (ko c v1 h p1 s d g (1+m1) m2 m3 0)):=Ex.other Y2.out hx1 (Nat.le_refl _);have hx3:=Rd.other hr Y3.out hx1 hne hx2;exact bodyPost_ret (v:=.agg (aL c v1 h p1 s d g (1+m1) m2 m3 0)) (by simp[results,results149,go_sem,d0,d1,d2,d3,d4,d5,d6,d7,d8,d9,kQ]) rfl ⟨h,v1,p1,s,d,g,(1+m1),m2,m3,0,rfl,⟨by omega,by omega⟩,⟨by omega,by omega⟩,⟨_,hx3,by omega⟩,hx2,hh,by omega,by omega⟩
theorem Cj(x y z:Int)(w:World):Sem.run prog (Instr.buildSlice 51 3 #[(0,.int .i64 x),(1,.int .i64 y),(2,.int .i64 z)]) w=.ok (.slice (some ⟨w.heap.size,0,none⟩) 3 3) (w.alloc (.cells #[.int .i64 x,.int .i64 y,.int .i64 z] 3)):=by kernel_rfl
theorem qB(x y z:ByteArray)(w:World):Sem.run prog (Instr.buildSlice 87 3 #[(0,.string x),(1,.string y),(2,.string z)]) w=.ok (.slice (some ⟨w.heap.size,0,none⟩) 3 3) (w.alloc (.cells #[.string x,.string y,.string z] 9)):=by kernel_rfl
def Rq(w:World)(kr:Nat)(q:Int):Prop:=∃a n cap zs p,Rd w kr a n cap zs p/\p<=q/\(n=0\/∃b off,a=some ⟨b,off,none⟩/\b<kr)
theorem Rq.lt{w:World}{kr:Nat}{q:Int}(h:Rq w kr q):kr<w.heap.size:=by obtain⟨a,n,cap,zs,p,h,-⟩:=h;exact h.lt
theorem Rq.up{w:World}{kr:Nat}{q q':Int}(h:Rq w kr q)(hq:q<=q'):Rq w kr q':=by obtain⟨a,n,cap,zs,p,h,h1,h2⟩:=h;exact⟨a,n,cap,zs,p,h,Int.le_trans h1 hq,h2⟩
theorem Rq.grown{w w':World}{kr:Nat}{q:Int}{row:Option Nat}(h:Rq w kr q)(hg:w.grownBy w' row)(hr:∀k,row=some k->kr<k):Rq w' kr q:=by
 obtain⟨a,n,cap,zs,p,h,h1,h2⟩:=h;have hk:w'.heap[kr]?=w.heap[kr]?:=hg.block kr h.lt (fun e=>by have:=hr _ e.symm;omega);refine⟨a,n,cap,zs,p,⟨(World.cell?_of_block (w:=w) (a:=⟨kr,0,none⟩) hk).trans h.sl,(World.cell?_of_block (w:=w) (a:=⟨kr,1,none⟩) hk).trans h.at_,(World.frozen?_of_block (w:=w) (a:=⟨kr,1,none⟩) hk).trans h.open_,Nat.lt_of_lt_of_le h.lt hg.size,?_,h.p0,h.p1⟩,h1,h2⟩;obtain⟨hn,hc⟩:=h.code;refine⟨hn,?_⟩;rcases h2 with hz|⟨b,off,ha,hb⟩;·exact Or.inl hz
 rcases hc with hz|⟨b',off',ha',hne,hlt,hcell⟩;·exact Or.inl hz
 rw[ha]at ha';cases ha';exact Or.inr ⟨b,off,ha,hne,Nat.lt_of_lt_of_le hlt hg.size,fun i hi=>⟨(World.cell?_of_block (w:=w) (a:=⟨b,off+i,none⟩) (hg.block b hlt (fun e=>by have:=hr _ e.symm;omega))).trans (hcell i hi).1,(hcell i hi).2⟩⟩
theorem gT{w w':World}(hb:Below w.heap.size w w'):w.grownBy w' none:=⟨hb.os,hb.tape,hb.output,hb.size,fun k hk _=>hb.block k hk⟩
theorem Rq.below{w w':World}{kr:Nat}{q:Int}(h:Rq w kr q)(hb:Below w.heap.size w w'):Rq w' kr q:=h.grown (gT hb) (fun k hk=>by cases hk)
theorem Ex.grown{kr:Nat}{w x y:World}{row:Option Nat}(h:Ex kr w x)(hg:x.grownBy y row)(hr:∀k,row=some k->w.heap.size<=k):Ex kr w y:=
 ⟨hg.os.trans h.os,hg.tape.trans h.tape,hg.output.trans h.output,Nat.le_trans h.size hg.size,fun k hk hne=>(hg.block k (Nat.lt_of_lt_of_le hk h.size) (fun e=>by have:=hr _ e.symm;omega)).trans (h.block k hk hne)⟩
theorem Ex.dh{kr:Nat}{w x y:World}(h:Ex kr w x)(hb:Below x.heap.size x y):Ex kr w y:=h.trans (Ex.of_below hb)
theorem bO(kr:Nat)(q k:Int)(w:World)(h:Rq w kr q)(hq:q<1000000)(k0:1<=k)(k1:k<=1000000):
  Calls prog 18 #[.pointer (some ⟨kr,0,none⟩),.int .i64 k] w fun e w'=>∃m:Int,e=.returned (.int .i64 m)/\0<=m/\m<k/\Rq w' kr (q+1)/\Ex kr w w':=by
 obtain⟨a,n,cap,zs,p,h,h1,h2⟩:=h;refine(eY kr a n cap zs p k w h (by omega) k0 k1).mono ?_;rintro e w' ⟨m,rfl,m0,m1,r,x⟩;exact⟨m,rfl,m0,m1,⟨a,n,cap,zs,_,r,by omega,h2⟩,x⟩
theorem JQ(kr:Nat)(q:Int)(w:World)(h:Rq w kr q)(hq:q<1000000):
  Calls prog 18 #[.pointer (some ⟨kr,0,none⟩),.int .i64 0] w fun e w'=>e=.returned (.int .i64 0)/\Rq w' kr (q+1)/\Ex kr w w':=by
 obtain⟨a,n,cap,zs,p,h,h1,h2⟩:=h;have c0:=h.sl;have c1:=h.at_;have c2:=h.open_;have p0:=h.p0;have p1:=h.p1;go_enter func18,ntmps18
 go_wp2
 go_ret
 exact⟨rfl,⟨a,n,cap,zs,_,h.step (by omega) 0,by omega,h2⟩,(Ex.refl kr w).set 1 _⟩
theorem wK(kr:Nat)(q:Int)(c:ByteArray)(w:World)(h:Rq w kr q)(hq:q<900000):
  Calls prog 147 #[.pointer (some ⟨kr,0,none⟩),.string c] w fun e w'=>∃(h:ByteArray)(v1 p1 s d g:Int),e=.returned (.agg (aX c v1 h p1 s d g))/\h.size<=20/\Rq w' kr (q+22)/\Ex kr w w':=by
 obtain⟨a,n,cap,zs,p,h,h1,h2⟩:=h;refine(sK kr a n cap zs p c w h (by omega)).mono ?_;rintro e w' ⟨x,v1,p1,s,d,g,rfl,hx,-,-,-,-,-,⟨r,hr,hrq⟩,he⟩;exact⟨x,v1,p1,s,d,g,rfl,hx,⟨a,n,cap,zs,r,hr,by omega,h2⟩,he⟩
theorem zf(kr:Nat)(q clock:Int)(c:ByteArray)(w:World)(h:Rq w kr q)(hq:q<800000)(k0:0<=clock)(k1:clock<=100000):
  Calls prog 149 #[.pointer (some ⟨kr,0,none⟩),.string c,.int .i64 clock] w fun e w'=>∃(h:ByteArray)(v1 p1 s d g st lf fl un:Int),e=.returned (.agg (aL c v1 h p1 s d g st lf fl un))/\(0<=lf/\lf<=100)/\(0<=fl/\fl<=100)/\h.size<=20/\(-100000<=un/\un<=200000)/\Rq w' kr (q+100)/\Ex kr w w':=by
 obtain⟨a,n,cap,zs,p,h,h1,h2⟩:=h;refine(Ci kr a n cap zs p clock c w h (by omega) k0 k1).mono ?_;rintro e w' ⟨x,v1,p1,s,d,g,st,lf,fl,un,rfl,hlf,hfl,⟨r,hr,hrq⟩,he,hx,hun⟩;exact⟨x,v1,p1,s,d,g,st,lf,fl,un,rfl,hlf,hfl,hx,hun,⟨a,n,cap,zs,r,hr,by omega,h2⟩,he⟩
set_option maxHeartbeats 4000000
structure Bq(w:World)(kr n:Nat)(cs:List Value)(q:Int)(y:World):Prop where
 c:y.rangeAt w.heap.size 0 cs
 t:y.there w.heap.size 0 n
 b:y.there (w.heap.size+1) 0 n
 r:Rq y kr q
 e:Ex kr w y
 k:kr<w.heap.size
 z:w.heap.size+1<y.heap.size
section
variable {w y y':World} {kr n:Nat} {cs:List Value} {q q':Int}
theorem Bq.ex(h:Bq w kr n cs q y)(he:Ex kr y y')(hr:Rq y' kr q'):Bq w kr n cs q' y':=by have hz:=h.z;have hk:=h.k;exact⟨fun j u hj=>(he.cell (p:=⟨w.heap.size,0+j,none⟩) (by show w.heap.size<_;omega) (by show w.heap.size≠_;omega)).trans (h.c j u hj),bh h.t (by omega) he (by omega),bh h.b (by omega) he (by omega),hr,h.e.trans he,hk,Nat.lt_of_lt_of_le hz he.size⟩
theorem Bq.at{u:Value}(h:Bq w kr n cs q y)(j:Nat)(hj:cs[j]?=some u)(hn:j<n):y.cell? ⟨w.heap.size,j,none⟩=some u/\y.frozen? ⟨w.heap.size,j,none⟩=false:=by have h1:=h.c j u hj;have h2:=(h.t j hn).2;rw[Nat.zero_add]at h1 h2;exact⟨h1,h2⟩
theorem Bq.tab{C:Array Value}{t:TypeId}(h:Bq w kr n cs q y)(he:Ex kr (y.alloc (.cells C t)) y')(hr:Rq y' kr q'):Bq w kr n cs q' y'/\∀k,y'.cell? ⟨y.heap.size,k,none⟩=C[k]?:=
 ⟨h.ex ((Ex.of_below (ae bR _)).trans he) hr,fun k=>(he.cell (p:=⟨y.heap.size,k,none⟩) (by simp) (by show y.heap.size≠kr;have:=h.k;have:=h.z;omega)).trans (by simp[go_sem])⟩
theorem Bq.put(h:Bq w kr n cs q y)(o:Nat)(vs:List Value)(ho:o+vs.length<=n)(cs':List Value)(hc:∀j u,cs'[j]?=some u->(o<=j/\vs[j-o]?=some u)\/((j<o\/o+vs.length<=j)/\cs[j]?=some u)):Bq w kr n cs' q (y.setCells w.heap.size o vs):=by
 have he:Ex w.heap.size y (y.setCells w.heap.size o vs):=(Ex.refl _ _).cells _ _;have hz:=h.z;have hk:=h.k;refine⟨fun j u hj=>?_,World.there_setCells h.t _ _ _,bh h.b (by omega) he (by omega),h.r.grown ⟨he.os,he.tape,he.output,he.size,fun a h1 h2=>he.block a h1 (fun e=>h2 (by rw[e]))⟩ (fun a ha=>by cases ha;omega),h.e.grown ⟨he.os,he.tape,he.output,he.size,fun a h1 h2=>he.block a h1 (fun e=>h2 (by rw[e]))⟩ (fun a ha=>by cases ha;omega),hk,Nat.lt_of_lt_of_le hz he.size⟩;rcases hc j u hj with⟨h1,h2⟩|⟨h1,h2⟩
 ·
  have:=World.rangeAt_setCells_same y w.heap.size o vs (fun i hi=>by have:=h.t (o+i) (by omega);rwa [Nat.zero_add]at this) (j-o) u h2;rw[Nat.zero_add,show j=o+(j-o) by omega];exact this
 have h3:y.rangeAt w.heap.size j [u]:=fun i x hi=>by
  cases i with
  |zero=>cases hi;have:=h.c j u h2;rwa [Nat.zero_add]at this
  |succ i=>cases hi
 have:=World.rangeAt_setCells_apart h3 w.heap.size o vs (by simp only[List.length_singleton];omega) 0 u rfl
 rwa [Nat.add_zero,<-Nat.zero_add j]at this
end
theorem t3(a b c:Int){k:Nat}(h:k<3):∃z:Int,(#[.int .i64 a,.int .i64 b,.int .i64 c]:Array Value)[k]?=some (.int .i64 z)/\(z=a\/z=b\/z=c):=by
 match k,h with
 |0,_=>exact⟨_,rfl,by simp⟩
 |1,_=>exact⟨_,rfl,by simp⟩
 |2,_=>exact⟨_,rfl,by simp⟩
theorem t5(a b c d e:Int){k:Nat}(h:k<5):∃z:Int,(#[.int .i64 a,.int .i64 b,.int .i64 c,.int .i64 d,.int .i64 e]:Array Value)[k]?=some (.int .i64 z):=by
 match k,h with
 |0,_=>exact⟨_,rfl⟩
 |1,_=>exact⟨_,rfl⟩
 |2,_=>exact⟨_,rfl⟩
 |3,_=>exact⟨_,rfl⟩
 |4,_=>exact⟨_,rfl⟩
theorem Sf(a b c:ByteArray){k:Nat}(h:k<3):∃z:ByteArray,(#[.string a,.string b,.string c]:Array Value)[k]?=some (.string z)/\(z=a\/z=b\/z=c):=by
 match k,h with
 |0,_=>exact⟨_,rfl,by simp⟩
 |1,_=>exact⟨_,rfl,by simp⟩
 |2,_=>exact⟨_,rfl,by simp⟩
theorem fE{z n:Int}(h0:0<=z)(h1:z<n):∃k:Nat,z=(k:Int)/\(k:Int)<n:=⟨z.toNat,by omega,by omega⟩
theorem Pw{cs:List Value}{o:Nat}{v:Value}:∀j u,(cs.set o v)[j]?=some u->(o<=j/\[v][j-o]?=some u)\/((j<o\/o+[v].length<=j)/\cs[j]?=some u):=by
 intro j u hj;by_cases e:o=j
 ·
  subst e;rcases Nat.lt_or_ge o cs.length with h|h;·rw[List.getElem?_set_self h]at hj;exact Or.inl ⟨Nat.le_refl _,by rw[Nat.sub_self];exact hj⟩
  rw[List.getElem?_eq_none (by simpa using h)]at hj;cases hj
 rw[List.getElem?_set_ne e]at hj;exact Or.inr ⟨by simp only[List.length_singleton];omega,hj⟩
theorem Bq.set{w y:World}{kr n:Nat}{cs:List Value}{q:Int}(h:Bq w kr n cs q y)(o:Nat)(v:Value)(ho:o<n):Bq w kr n (cs.set o v) q (y.setCell ⟨w.heap.size,o,none⟩ v):=h.put o [v] (by simp only[List.length_singleton];omega) _ Pw
def UI(cs:List Value):Prop:=∃(c:ByteArray)(v:Int)(h:ByteArray)(p s d g:Int),cs=(iT c v h p s d g)/\c.size<=maxLen/\h.size<=maxLen
theorem kA(kr:Nat)(q:Int)(c h:ByteArray)(v p s d g:Int)(w:World)(hr:Rq w kr q)(hq:q<800000)(hcs:c.size<=maxLen)(np:h.size<=maxLen):
  Calls prog 103 #[.pointer (some ⟨kr,0,none⟩),.agg (aX c v h p s d g)] w fun e w'=>∃(c h:ByteArray)(v p s d g:Int),e=.returned (.agg (aX c v h p s d g))/\c.size<=maxLen/\h.size<=maxLen/\Rq w' kr (q+100)/\Ex kr w w':=by
 have hkr:=hr.lt;have hinfo:(prog.info? 37).map (·.size)=some 7:=by kernel_rfl
 go_enter func103,ntmps103
 go_wp2_with fail
 obtain⟨y,hy⟩:∃y,y=(w.alloc (.cells (aX c v h p s d g) 37)).alloc (.cells (aX ⟨#[]⟩ 0 ⟨#[]⟩ 0 0 0 0) 37):=⟨_,rfl⟩
 have b0:Below w.heap.size w y:=by rw[hy];exact ae (ae bR _) _
 have D0:Bq w kr 7 (iT c v h p s d g) q y:=⟨by rw[hy];exact fun j u hj=>by rw[<-hj];simp[go_sem],by rw[hy];exact fun j hj=>⟨by simp[go_sem];omega,by simp[go_sem]⟩,by rw[hy];exact fun j hj=>⟨by simp[go_sem];omega,by simp[go_sem]⟩,hr.below b0,Ex.of_below b0,hkr,by rw[hy];simp⟩
 rw[<-hy];refine(bO kr _ 7 _ D0.r (by omega) (by omega) (by omega)).mono ?_;rintro e y1 ⟨m1,rfl,m10,m11,r1,e1⟩;have D1:=ah (D0.ex e1 r1);clear D0 b0 hy r1 e1 hr;have hz1:=D1.out.z
 go_upto_block 0 with(fail)
 go_cut [] (fun wx=>∃cs,Hid (Bq w kr 7 cs (q+90) wx)/\UI cs)
 case first=>
  obtain rfl|rfl|rfl|rfl|rfl|rfl|rfl:m1=0\/m1=1\/m1=2\/m1=3\/m1=4\/m1=5\/m1=6:=by omega
  ·
   go_wp2_with fail
   refine(bO kr _ 2 _ D1.out.r (by omega) (by omega) (by omega)).mono ?_;rintro e y2 ⟨m2,rfl,m20,m21,r2,e2⟩;have D2:=ah (D1.out.ex e2 r2);clear D1 e2 r2 hz1;by_cases hm:m2=0
   case' pos=>
    subst hm;go_wp2_with fail
    refine(FF _).mono ?_
   case' neg=>
    obtain rfl:m2=1:=by omega
    go_wp2_with fail
    refine(FG _).mono ?_
   all_goals
    rintro e y3 ⟨x,rfl,hx,rfl⟩;go_wp2_with fail
    refine(bO kr _ 3 _ (D2.out.r.below (ae bR _)) (by omega) (by omega) (by omega)).mono ?_;rintro e y4 ⟨m4,rfl,UJ,UK,r4,e4⟩;obtain⟨k,rfl,hk⟩:=fE UJ UK;obtain⟨z,hz,hzz⟩:=Sf {data:=#[]} {data:=#[120,32,121]} x (k:=k) (by omega);obtain⟨D4,hcx⟩:=D2.out.tab e4 r4;have hc:=(hcx k).trans hz;clear hcx;obtain⟨c2,f2⟩:=D4.at 0 rfl (by omega);have z2:=D4.z;have hzs:z.size<=maxLen:=(by rcases hzz with rfl|rfl|rfl;(unfold maxLen;decide);(unfold maxLen;decide);exact hx);clear hz hzz;go_wp2_with fail
    go_meet
    have D5:=D4.set 0 (.string z) (by omega);exact⟨_,⟨D5.c,D5.t,D5.b,D5.r.up (by omega),D5.e,D5.k,D5.z⟩,⟨_,_,_,_,_,_,_,rfl,hzs,np⟩⟩
  ·
   obtain⟨c1,f1⟩:=D1.out.at 1 rfl (by omega);go_wp2_with fail
   refine(bO kr _ 3 _ (D1.out.r.below (ae bR _)) (by omega) (by omega) (by omega)).mono ?_;rintro e y2 ⟨m2,rfl,m20,m21,r2,e2⟩;obtain⟨k,rfl,hk⟩:=fE m20 m21;obtain⟨z,hz,hzz⟩:=t3 0 1000000 1000001 (k:=k) (by omega);obtain⟨D2,hcx⟩:=D1.out.tab e2 r2;have hc:=(hcx k).trans hz;clear hcx;obtain⟨c2,f2⟩:=D2.at 1 rfl (by omega);have z2:=D2.z;clear hz;go_wp2_with fail
   go_meet
   have D3:=D2.set 1 (.int .i64 z) (by omega);exact⟨_,⟨D3.c,D3.t,D3.b,D3.r.up (by omega),D3.e,D3.k,D3.z⟩,⟨_,_,_,_,_,_,_,rfl,hcs,np⟩⟩
  ·
   go_wp2_with fail
   refine(bO kr _ 3 _ (D1.out.r.below (ae bR _)) (by omega) (by omega) (by omega)).mono ?_;rintro e y2 ⟨m2,rfl,m20,m21,r2,e2⟩;obtain⟨k,rfl,hk⟩:=fE m20 m21;obtain⟨z,hz,hzz⟩:=Sf {data:=#[120,32,121]} {data:=#[42]} {data:=#[118,111,108]} (k:=k) (by omega);obtain⟨D2,hcx⟩:=D1.out.tab e2 r2;have hc:=(hcx k).trans hz;clear hcx;obtain⟨c2,f2⟩:=D2.at 2 rfl (by omega);have z2:=D2.z;have hzs:z.size<=maxLen:=by unfold maxLen;rcases hzz with rfl|rfl|rfl<;>decide
   clear hz hzz;go_wp2_with fail
   go_meet
   have D3:=D2.set 2 (.string z) (by omega);exact⟨_,⟨D3.c,D3.t,D3.b,D3.r.up (by omega),D3.e,D3.k,D3.z⟩,⟨_,_,_,_,_,_,_,rfl,hcs,hzs⟩⟩
  ·
   obtain⟨c1,f1⟩:=D1.out.at 3 rfl (by omega);go_wp2_with fail
   refine(bO kr _ 3 _ (D1.out.r.below (ae bR _)) (by omega) (by omega) (by omega)).mono ?_;rintro e y2 ⟨m2,rfl,m20,m21,r2,e2⟩;obtain⟨k,rfl,hk⟩:=fE m20 m21;obtain⟨z,hz,hzz⟩:=t3 (-1) 100 101 (k:=k) (by omega);obtain⟨D2,hcx⟩:=D1.out.tab e2 r2;have hc:=(hcx k).trans hz;clear hcx;obtain⟨c2,f2⟩:=D2.at 3 rfl (by omega);have z2:=D2.z;clear hz;go_wp2_with fail
   go_meet
   have D3:=D2.set 3 (.int .i64 z) (by omega);exact⟨_,⟨D3.c,D3.t,D3.b,D3.r.up (by omega),D3.e,D3.k,D3.z⟩,⟨_,_,_,_,_,_,_,rfl,hcs,np⟩⟩
  ·
   obtain⟨c1,f1⟩:=D1.out.at 4 rfl (by omega);go_wp2_with fail
   refine(bO kr _ 3 _ (D1.out.r.below (ae bR _)) (by omega) (by omega) (by omega)).mono ?_;rintro e y2 ⟨m2,rfl,m20,m21,r2,e2⟩;obtain⟨k,rfl,hk⟩:=fE m20 m21;obtain⟨z,hz,hzz⟩:=t3 (-1) 100 101 (k:=k) (by omega);obtain⟨D2,hcx⟩:=D1.out.tab e2 r2;have hc:=(hcx k).trans hz;clear hcx;obtain⟨c2,f2⟩:=D2.at 4 rfl (by omega);have z2:=D2.z;clear hz;go_wp2_with fail
   go_meet
   have D3:=D2.set 4 (.int .i64 z) (by omega);exact⟨_,⟨D3.c,D3.t,D3.b,D3.r.up (by omega),D3.e,D3.k,D3.z⟩,⟨_,_,_,_,_,_,_,rfl,hcs,np⟩⟩
  ·
   obtain⟨c1,f1⟩:=D1.out.at 5 rfl (by omega);go_wp2_with fail
   refine(bO kr _ 3 _ (D1.out.r.below (ae bR _)) (by omega) (by omega) (by omega)).mono ?_;rintro e y2 ⟨m2,rfl,m20,m21,r2,e2⟩;obtain⟨k,rfl,hk⟩:=fE m20 m21;obtain⟨z,hz,hzz⟩:=t3 (-1) 100 101 (k:=k) (by omega);obtain⟨D2,hcx⟩:=D1.out.tab e2 r2;have hc:=(hcx k).trans hz;clear hcx;obtain⟨c2,f2⟩:=D2.at 5 rfl (by omega);have z2:=D2.z;clear hz;go_wp2_with fail
   go_meet
   have D3:=D2.set 5 (.int .i64 z) (by omega);exact⟨_,⟨D3.c,D3.t,D3.b,D3.r.up (by omega),D3.e,D3.k,D3.z⟩,⟨_,_,_,_,_,_,_,rfl,hcs,np⟩⟩
  obtain⟨c1,f1⟩:=D1.out.at 6 rfl (by omega);go_wp2_with fail
  refine(bO kr _ 3 _ (D1.out.r.below (ae bR _)) (by omega) (by omega) (by omega)).mono ?_;rintro e y2 ⟨m2,rfl,m20,m21,r2,e2⟩;obtain⟨k,rfl,hk⟩:=fE m20 m21;obtain⟨z,hz,hzz⟩:=t3 (-1) 100 101 (k:=k) (by omega);obtain⟨D2,hcx⟩:=D1.out.tab e2 r2;have hc:=(hcx k).trans hz;clear hcx;obtain⟨c2,f2⟩:=D2.at 6 rfl (by omega);have z2:=D2.z;clear hz;go_wp2_with fail
  go_meet
  have D3:=D2.set 6 (.int .i64 z) (by omega);exact⟨_,⟨D3.c,D3.t,D3.b,D3.r.up (by omega),D3.e,D3.k,D3.z⟩,⟨_,_,_,_,_,_,_,rfl,hcs,np⟩⟩
 case rest=>
  obtain⟨cs,D9,hsh⟩:=hcut;obtain⟨c,v,h,p,s,d,g,rfl,hc,hh⟩:=hsh;clear D1;have k0:=(D9.out.at 0 rfl (by omega)).1;have k1:=(D9.out.at 1 rfl (by omega)).1;have k2:=(D9.out.at 2 rfl (by omega)).1;have k3:=(D9.out.at 3 rfl (by omega)).1;have k4:=(D9.out.at 4 rfl (by omega)).1;have k5:=(D9.out.at 5 rfl (by omega)).1;have k6:=(D9.out.at 6 rfl (by omega)).1;have z9:=D9.out.z;go_wp2_with (refine wpList_store_mid (by rfl) 37 _ _ (by rfl) (w.heap.size+1) 0 (aX c v h p s d g) (by rfl) (by rfl) (by exact D9.out.b) hinfo (by simp[Value.oneCell']) ?_)
  have hrg:=World.rangeAt_setCells_same wc (w.heap.size+1) 0 (iT c v h p s d g) D9.out.b;have he:Ex (w.heap.size+1) wc (wc.setCells (w.heap.size+1) 0 (iT c v h p s d g)):=(Ex.refl _ _).cells _ _;have hg:wc.grownBy (wc.setCells (w.heap.size+1) 0 (iT c v h p s d g)) (some (w.heap.size+1)):=⟨he.os,he.tape,he.output,he.size,fun a h1 h2=>he.block a h1 (fun e=>h2 (by rw[e]))⟩
  have d0:=hrg 0 _ rfl;have d1:=hrg 1 _ rfl;have d2:=hrg 2 _ rfl;have d3:=hrg 3 _ rfl;have d4:=hrg 4 _ rfl;have d5:=hrg 5 _ rfl;have d6:=hrg 6 _ rfl;simp only[Nat.zero_add]at d0 d1 d2 d3 d4 d5 d6;exact bodyPost_ret (v:=.agg (aX c v h p s d g)) (by simp[results,results103,go_sem,d0,d1,d2,d3,d4,d5,d6]) rfl ⟨c,h,v,p,s,d,g,rfl,hc,hh,(D9.out.r.grown hg (fun a ha=>by cases ha;omega)).up (by omega),D9.out.e.grown hg (fun a ha=>by cases ha;omega)⟩
def UL(cs:List Value):Prop:=∃(c:ByteArray)(v:Int)(h:ByteArray)(p s d g x1 x2 x3 x4:Int),cs=(ko c v h p s d g x1 x2 x3 x4)/\x2<=2000/\(-2000<=x3/\x3<=2000)/\c.size<=maxLen/\h.size<=maxLen
theorem pH(kr:Nat)(q:Int)(c h:ByteArray)(v p s d g x1 x2 x3 x4:Int)(w:World)(hr:Rq w kr q)(hq:q<700000)(hx2:x2<=1000)(hx3:-1000<=x3/\x3<=1000)(hcs:c.size<=maxLen)(np:h.size<=maxLen):
  Calls prog 106 #[.pointer (some ⟨kr,0,none⟩),.agg (aL c v h p s d g x1 x2 x3 x4)] w fun e w'=>∃(c h:ByteArray)(v p s d g x1 x2 x3 x4:Int),e=.returned (.agg (aL c v h p s d g x1 x2 x3 x4))/\x2<=2000/\(-2000<=x3/\x3<=2000)/\c.size<=maxLen/\h.size<=maxLen/\Rq w' kr (q+200)/\Ex kr w w':=by
 have hkr:=hr.lt;have hinfo:(prog.info? 39).map (·.size)=some 11:=by kernel_rfl
 go_enter func106,ntmps106
 go_wp2_with fail
 obtain⟨y,hy⟩:∃y,y=(w.alloc (.cells (aL c v h p s d g x1 x2 x3 x4) 39)).alloc (.cells (aL ⟨#[]⟩ 0 ⟨#[]⟩ 0 0 0 0 0 0 0 0) 39):=⟨_,rfl⟩
 have b0:Below w.heap.size w y:=by rw[hy];exact ae (ae bR _) _
 have D0:Bq w kr 11 (ko c v h p s d g x1 x2 x3 x4) q y:=⟨by rw[hy];exact fun j u hj=>by rw[<-hj];simp[go_sem],by rw[hy];exact fun j hj=>⟨by simp[go_sem];omega,by simp[go_sem]⟩,by rw[hy];exact fun j hj=>⟨by simp[go_sem];omega,by simp[go_sem]⟩,hr.below b0,Ex.of_below b0,hkr,by rw[hy];simp⟩
 rw[<-hy];refine(bO kr _ 6 _ D0.r (by omega) (by omega) (by omega)).mono ?_;rintro e y1 ⟨m1,rfl,m10,m11,r1,e1⟩;have D1:=ah (D0.ex e1 r1);clear D0 b0 hy r1 e1 hr;have hz1:=D1.out.z
 go_upto_block 0 with(fail)
 go_cut [] (fun wx=>∃cs,Hid (Bq w kr 11 cs (q+190) wx)/\UL cs)
 case first=>
  obtain rfl|rfl|rfl|rfl|rfl|rfl:m1=0\/m1=1\/m1=2\/m1=3\/m1=4\/m1=5:=by omega
  ·
   have k0:=(D1.out.at 0 rfl (by omega)).1;have k1:=(D1.out.at 1 rfl (by omega)).1;have k2:=(D1.out.at 2 rfl (by omega)).1;have k3:=(D1.out.at 3 rfl (by omega)).1;have k4:=(D1.out.at 4 rfl (by omega)).1;have k5:=(D1.out.at 5 rfl (by omega)).1;have k6:=(D1.out.at 6 rfl (by omega)).1;have yU:(prog.info? 37).map (·.size)=some 7:=(by kernel_rfl);go_wp2_with fail
   refine(kA kr _ c h v p s d g y1 D1.out.r (by omega) hcs np).mono ?_;rintro e y2 ⟨c',h',v',p',s',d',g',rfl,g1,g2,r2,e2⟩;have D2:=D1.out.ex e2 r2;have hT:Hid (y2.there w.heap.size 0 7):=fun j hj=>D2.t j (by omega);have z2:=D2.z;clear k0 k1 k2 k3 k4 k5 k6;go_wp2_with (refine wpList_store_mid (by rfl) 37 _ _ (by rfl) w.heap.size 0 (aX c' v' h' p' s' d' g') (by rfl) (by rfl) (by exact hT.out) yU (by simp[Value.oneCell']) ?_)
   go_meet
   have D3:=D2.put 0 (iT c' v' h' p' s' d' g') (by simp) (ko c' v' h' p' s' d' g' x1 x2 x3 x4) (by
    intro j u hj;rcases Nat.lt_or_ge j 7 with h|h
    ·
     refine Or.inl ⟨Nat.zero_le _,?_⟩;rw[<-hj,Nat.sub_zero]
     match j,h with
     |0,_=>rfl
     |1,_=>rfl
     |2,_=>rfl
     |3,_=>rfl
     |4,_=>rfl
     |5,_=>rfl
     |6,_=>rfl
    refine Or.inr ⟨by simp;omega,?_⟩;rw[<-hj]
    match j,h with
    |j+7,_=>rfl)
   exact⟨_,⟨D3.c,D3.t,D3.b,D3.r.up (by omega),D3.e,D3.k,D3.z⟩,⟨_,_,_,_,_,_,_,_,_,_,_,rfl,by omega,⟨by omega,by omega⟩,g1,g2⟩⟩
  ·
   go_wp2_with fail
   refine(bO kr _ 9 _ D1.out.r (by omega) (by omega) (by omega)).mono ?_;rintro e y2 ⟨m2,rfl,m20,m21,r2,e2⟩;have D2:=D1.out.ex e2 r2;obtain⟨c2,f2⟩:=D2.at 7 rfl (by omega);have z2:=D2.z;go_wp2_with fail
   go_meet
   have D3:=D2.set 7 (.int .i64 (m2-1)) (by omega);exact⟨_,⟨D3.c,D3.t,D3.b,D3.r.up (by omega),D3.e,D3.k,D3.z⟩,⟨_,_,_,_,_,_,_,_,_,_,_,rfl,by omega,⟨by omega,by omega⟩,hcs,np⟩⟩
  ·
   obtain⟨c1,f1⟩:=D1.out.at 8 rfl (by omega);go_wp2_with fail
   refine(bO kr _ 3 _ (D1.out.r.below (ae bR _)) (by omega) (by omega) (by omega)).mono ?_;rintro e y2 ⟨m2,rfl,m20,m21,r2,e2⟩;obtain⟨k,rfl,hk⟩:=fE m20 m21;obtain⟨z,hz,hzz⟩:=t3 (-1) 100 101 (k:=k) (by omega);obtain⟨D2,hcx⟩:=D1.out.tab e2 r2;have hc:=(hcx k).trans hz;clear hcx;obtain⟨c2,f2⟩:=D2.at 8 rfl (by omega);have z2:=D2.z;clear hz;go_wp2_with fail
   go_meet
   have D3:=D2.set 8 (.int .i64 z) (by omega);exact⟨_,⟨D3.c,D3.t,D3.b,D3.r.up (by omega),D3.e,D3.k,D3.z⟩,⟨_,_,_,_,_,_,_,_,_,_,_,rfl,by omega,⟨by omega,by omega⟩,hcs,np⟩⟩
  ·
   obtain⟨c1,f1⟩:=D1.out.at 9 rfl (by omega);go_wp2_with fail
   refine(bO kr _ 3 _ (D1.out.r.below (ae bR _)) (by omega) (by omega) (by omega)).mono ?_;rintro e y2 ⟨m2,rfl,m20,m21,r2,e2⟩;obtain⟨k,rfl,hk⟩:=fE m20 m21;obtain⟨z,hz,hzz⟩:=t3 (-1) 1000 1001 (k:=k) (by omega);obtain⟨D2,hcx⟩:=D1.out.tab e2 r2;have hc:=(hcx k).trans hz;clear hcx;obtain⟨c2,f2⟩:=D2.at 9 rfl (by omega);have z2:=D2.z;clear hz;go_wp2_with fail
   go_meet
   have D3:=D2.set 9 (.int .i64 z) (by omega);exact⟨_,⟨D3.c,D3.t,D3.b,D3.r.up (by omega),D3.e,D3.k,D3.z⟩,⟨_,_,_,_,_,_,_,_,_,_,_,rfl,by omega,⟨by omega,by omega⟩,hcs,np⟩⟩
  ·
   obtain⟨c1,f1⟩:=D1.out.at 10 rfl (by omega);go_wp2_with fail
   refine(bO kr _ 5 _ (D1.out.r.below (ae bR _)) (by omega) (by omega) (by omega)).mono ?_;rintro e y2 ⟨m2,rfl,m20,m21,r2,e2⟩;obtain⟨k,rfl,hk⟩:=fE m20 m21;obtain⟨z,hz⟩:=t5 (-1) 0 1 1000016 1000017 (k:=k) (by omega);obtain⟨D2,hcx⟩:=D1.out.tab e2 r2;have hc:=(hcx k).trans hz;clear hcx;obtain⟨c2,f2⟩:=D2.at 10 rfl (by omega);have z2:=D2.z;clear hz;go_wp2_with fail
   go_meet
   have D3:=D2.set 10 (.int .i64 z) (by omega);exact⟨_,⟨D3.c,D3.t,D3.b,D3.r.up (by omega),D3.e,D3.k,D3.z⟩,⟨_,_,_,_,_,_,_,_,_,_,_,rfl,by omega,⟨by omega,by omega⟩,hcs,np⟩⟩
  obtain⟨c2,f2⟩:=D1.out.at 2 rfl (by omega);go_wp2_with fail
  go_meet
  have D3:=D1.out.set 2 (.string ⟨#[]⟩) (by omega);exact⟨_,⟨D3.c,D3.t,D3.b,D3.r.up (by omega),D3.e,D3.k,D3.z⟩,⟨_,_,_,_,_,_,_,_,_,_,_,rfl,by omega,⟨by omega,by omega⟩,hcs,by unfold maxLen;decide⟩⟩
 case rest=>
  obtain⟨cs,D9,hsh⟩:=hcut;obtain⟨c,v,h,p,s,d,g,x1,x2,x3,x4,rfl,h2,h3,hc,hh⟩:=hsh;clear D1;have k0:=(D9.out.at 0 rfl (by omega)).1;have k1:=(D9.out.at 1 rfl (by omega)).1;have k2:=(D9.out.at 2 rfl (by omega)).1;have k3:=(D9.out.at 3 rfl (by omega)).1;have k4:=(D9.out.at 4 rfl (by omega)).1;have k5:=(D9.out.at 5 rfl (by omega)).1;have k6:=(D9.out.at 6 rfl (by omega)).1;have k7:=(D9.out.at 7 rfl (by omega)).1;have k8:=(D9.out.at 8 rfl (by omega)).1;have k9:=(D9.out.at 9 rfl (by omega)).1;have k10:=(D9.out.at 10 rfl (by omega)).1;have z9:=D9.out.z;go_wp2_with (refine wpList_store_mid (by rfl) 39 _ _ (by rfl) (w.heap.size+1) 0 (aL c v h p s d g x1 x2 x3 x4) (by rfl) (by rfl) (by exact D9.out.b) hinfo (by simp[Value.oneCell']) ?_)
  have hrg:=World.rangeAt_setCells_same wc (w.heap.size+1) 0 (ko c v h p s d g x1 x2 x3 x4) D9.out.b;have he:Ex (w.heap.size+1) wc (wc.setCells (w.heap.size+1) 0 (ko c v h p s d g x1 x2 x3 x4)):=(Ex.refl _ _).cells _ _;have hg:wc.grownBy (wc.setCells (w.heap.size+1) 0 (ko c v h p s d g x1 x2 x3 x4)) (some (w.heap.size+1)):=⟨he.os,he.tape,he.output,he.size,fun a h1 h2=>he.block a h1 (fun e=>h2 (by rw[e]))⟩
  have d0:=hrg 0 _ rfl;have d1:=hrg 1 _ rfl;have d2:=hrg 2 _ rfl;have d3:=hrg 3 _ rfl;have d4:=hrg 4 _ rfl;have d5:=hrg 5 _ rfl;have d6:=hrg 6 _ rfl;have d7:=hrg 7 _ rfl;have d8:=hrg 8 _ rfl;have d9:=hrg 9 _ rfl;have kQ:=hrg 10 _ rfl;simp only[Nat.zero_add]at d0 d1 d2 d3 d4 d5 d6 d7 d8 d9 kQ;exact bodyPost_ret (v:=.agg (aL c v h p s d g x1 x2 x3 x4)) (by simp[results,results106,go_sem,d0,d1,d2,d3,d4,d5,d6,d7,d8,d9,kQ]) rfl ⟨c,h,v,p,s,d,g,x1,x2,x3,x4,rfl,h2,h3,hc,hh,(D9.out.r.grown hg (fun a ha=>by cases ha;omega)).up (by omega),D9.out.e.grown hg (fun a ha=>by cases ha;omega)⟩
theorem jI(n:Int)(h0:0<=n)(h1:n<10)(w:World):
  Calls prog 104 #[.int .i64 n] w fun e w'=>∃x:ByteArray,e=.returned (.string x)/\x.size=1/\Below w.heap.size w w':=by
 have hb:=nt;have hc:=pC;go_enter func104,ntmps104
 go_wp2
 go_ret
 exact⟨_,rfl,rfl,ae bR _⟩
def pQ(md:Region.Mode)(ops:Array Oper)(i j:Nat):Bool:=match ops[i]? with
 |some o=>o.after.toList.any (fun e=>Region.binds md e&&e.on==j)
 |none=>false
theorem aK{md:Region.Mode}{ops:Array Oper}{listed:Array Bool}{i j:Nat}(hi:i∈Region.ready md ops listed)(hd:pQ md ops i j=true):listed.getD j false=true:=by
 unfold pQ at hd;split at hd
 ·rename_i o ho;exact bL hi ho hd
 cases hd
theorem aB{listed:Array Bool}{i:Nat}(ho:listed.getD i true=false)(h:listed.getD i false=true):False:=by
 simp only[Array.getD_eq_getD_getElem?]at ho h;cases hb:listed[i]? with
 |none=>rw[hb]at ho;cases ho
 |some b=>rw[hb]at ho h;simp only[Option.getD_some]at ho h;rw[ho]at h;cases h
theorem dZ{listed:Array Bool}{i j:Nat}(hne:j≠i):(listed.setIfInBounds i true).getD j false=listed.getD j false:=by simp only[Array.getD_eq_getD_getElem?];rw[Array.getElem?_setIfInBounds_ne (fun x=>hne x.symm)]
theorem dp{listed:Array Bool}{i:Nat}(hi:i<listed.size):(listed.setIfInBounds i true).getD i false=true:=by simp only[Array.getD_eq_getD_getElem?];rw[Array.getElem?_setIfInBounds_self_of_lt hi,Option.getD_some]
theorem not_true{b:Bool}(h:b=true->False):b=false:=by
 cases b;·rfl
 exact(h rfl).elim
structure Ir(lo n A:Nat)(md:Region.Mode)(ops:Array Oper)(a0:Act)(G:World->Nat->Value->Prop)(V:Array Bool->World->Prop)(listed:Array Bool)(a:Act)(w:World):Prop where
 df:a.defers=a0.defers
 sz:a.tmps.size=a0.tmps.size
 out:∀k,k<lo\/lo+n<=k->a.tmps.getD k undef=a0.tmps.getD k undef
 lz:listed.size=n+1
 tr:∀i j,pQ md ops i j=true->listed.getD i false=true->listed.getD j false=true
 good:∀i,i<n->listed.getD i false=true->(listed.getD A false=false\/(A<=i/\listed.getD n false=false))->G w i (a.tmps.getD (lo+i) undef)
 v:V listed w
section
variable {lo n A:Nat} {md:Region.Mode} {ops:Array Oper} {a0:Act} {G:World->Nat->Value->Prop} {V:Array Bool->World->Prop} {listed:Array Bool} {a:Act} {w w':World} {i:Nat} {v:Value}
theorem qS(hr:i∈Region.ready md ops listed)(hz:i<listed.size)(tr:∀i j,pQ md ops i j=true->listed.getD i false=true->listed.getD j false=true):∀k j,pQ md ops k j=true->(listed.setIfInBounds i true).getD k false=true->(listed.setIfInBounds i true).getD j false=true:=by
 intro k j hd hk;by_cases ej:j=i;·subst ej;exact dp hz
 rw[dZ ej];by_cases ek:k=i;·subst ek;exact aK hr hd
 rw[dZ ek]at hk;exact tr k j hd hk
theorem Ir.put(h:Ir lo n A md ops a0 G V listed a w)(hr:i∈Region.ready md ops listed)(hi:i<n)(hn:lo+n<=a0.tmps.size)(hg:G w' i v)
  (hk:∀j u,j<n->j≠i->listed.getD j false=true->((listed.setIfInBounds i true).getD A false=false\/A<=j)->G w j u->G w' j u) (hv:V (listed.setIfInBounds i true) w'):
  Ir lo n A md ops a0 G V (listed.setIfInBounds i true) (a.put (some (lo+i)) v) w':=by
 have hsz:=h.sz;have hlz:=h.lz;refine⟨h.df,by simpa[Act.put]using hsz,?_,by simpa using hlz,qS hr (by omega) h.tr,?_,hv⟩
 ·
  intro k hko;rw[<-h.out k hko];simp only[Act.put,Array.getD_eq_getD_getElem?];rw[Array.getElem?_setIfInBounds_ne (by omega)]
 ·
  intro j hj hl hc;by_cases e:j=i
  ·
   subst e;simp only[Act.put,Array.getD_eq_getD_getElem?];rw[Array.getElem?_setIfInBounds_self_of_lt (by omega)];exact hg
  rw[dZ e]at hl;have hc':listed.getD A false=false\/(A<=j/\listed.getD n false=false):=by
   rcases hc with hc|⟨hc,hc2⟩
   ·
    left;by_cases eA:A=i
    ·
     subst eA;by_cases hA:A<listed.size;·rw[dp hA]at hc;cases hc
     exact absurd hi (by omega)
    rwa [dZ eA]at hc
   right;rw[dZ (by omega)]at hc2;exact⟨hc,hc2⟩
  have h1:=hk j _ hj e hl (hc.imp id (fun h=>h.1)) (h.good j hj hl hc');simp only[Act.put,Array.getD_eq_getD_getElem?]at h1 ⊢;rw[Array.getElem?_setIfInBounds_ne (by omega)];exact h1
theorem Ir.last(h:Ir lo n A md ops a0 G V listed a w)(hr:n∈Region.ready md ops listed)(hA:A=n\/listed.getD A false=true)(hv:V (listed.setIfInBounds n true) w'){u:Value}:
  Ir lo n A md ops a0 G V (listed.setIfInBounds n true) (a.put none u) w':=by
 have hlz:=h.lz;refine⟨h.df,h.sz,h.out,by simpa using hlz,qS hr (by omega) h.tr,?_,hv⟩;intro j hj hl hc;have hsn:(listed.setIfInBounds n true).getD n false=true:=dp (by omega);rcases hc with hc|⟨hc,hc2⟩
 ·
  rcases hA with rfl|hA;·rw[hsn]at hc;cases hc
  by_cases e:A=n;·subst e;rw[hsn]at hc;cases hc
  rw[dZ e,hA]at hc;cases hc
 ·rw[hsn]at hc2;cases hc2
theorem tv(df:a.defers=a0.defers)(sz:a.tmps.size=a0.tmps.size)(out:∀k,k<lo\/lo+n<=k->a.tmps.getD k undef=a0.tmps.getD k undef)(hn:lo+n<=a0.tmps.size):
  ∃l:List Value,l.length=n/\a=⟨(a0.tmps.toList.take lo++(l++a0.tmps.toList.drop (lo+n))).toArray,a0.defers⟩:=by
 obtain⟨⟨t⟩,d⟩:=a;obtain⟨⟨t0⟩,d0⟩:=a0;simp only at df;subst df;have sz:t.length=t0.length:=sz;have hn:lo+n<=t0.length:=hn;refine⟨(t.drop lo).take n,by simp;omega,?_⟩;have e:t=t0.take lo++((t.drop lo).take n++t0.drop (lo+n)):=by
  apply List.ext_getElem?;intro k;rcases Nat.lt_or_ge k lo with h1|h1
  ·
   have h2:=out k (Or.inl h1);rw[List.getElem?_append_left (by simp;omega),List.getElem?_take_of_lt h1];simp only[Array.getD_eq_getD_getElem?,List.getElem?_toArray]at h2;rw[List.getElem?_eq_getElem (by omega),List.getElem?_eq_getElem (by omega)]at h2 ⊢;simpa using h2
  rw[List.getElem?_append_right (by simp;omega)];have hl:(t0.take lo).length=lo:=by simp;omega
  rw[hl];rcases Nat.lt_or_ge k (lo+n)with h3|h3
  ·
   rw[List.getElem?_append_left (by simp;omega),List.getElem?_take_of_lt (by omega),List.getElem?_drop];congr 1;omega
  rw[List.getElem?_append_right (by simp;omega)];have hl2:((t.drop lo).take n).length=n:=by simp;omega
  rw[hl2,List.getElem?_drop];have e2:lo+n+(k-lo-n)=k:=by omega
  rw[e2];have h2:=out k (Or.inr h3);simp only[Array.getD_eq_getD_getElem?,List.getElem?_toArray]at h2;rcases Nat.lt_or_ge k t.length with h4|h4
  ·
   rw[List.getElem?_eq_getElem (by omega),List.getElem?_eq_getElem (by omega)]at h2 ⊢;simpa using h2
  rw[List.getElem?_eq_none h4,List.getElem?_eq_none (by omega)]
 show Act.mk ⟨t⟩ d=Act.mk ⟨_⟩ d;exact congrArg (fun l=>Act.mk ⟨l⟩ d) e
end
theorem aD{l:List Value}{k:Nat}(h:l.length=k+1):∃x t,l=x::t/\t.length=k:=by
 cases l with
 |nil=>cases h
 |cons x t=>exact⟨x,t,rfl,by simpa using h⟩
theorem fI{l:List Value}(h:l.length=0):l=[]:=List.eq_nil_of_length_eq_zero h
def Vr(A n:Nat)(D:Int->World->Prop)(E:World->Prop)(q:Int)(listed:Array Bool)(w:World):Prop:=
 (listed.getD A false=false->∃p,D p w/\p+200*(dG listed:Int)<=q+200*((n:Int)+1))/\(listed.getD n false=true->E w)
theorem Vr.mk{A n:Nat}{D:Int->World->Prop}{E:World->Prop}{q p:Int}{listed:Array Bool}{w:World}(hD:D p w)(hp:p+200*(dG listed:Int)<=q+200*((n:Int)+1))(hn:listed.getD n false=false):Vr A n D E q listed w:=
 ⟨fun _=>⟨p,hD,hp⟩,fun h=>by rw[hn]at h;cases h⟩
theorem Vr.past{A n:Nat}{D:Int->World->Prop}{E:World->Prop}{q:Int}{listed:Array Bool}{w:World}(hA:listed.getD A false=true)(hn:listed.getD n false=false):Vr A n D E q listed w:=
 ⟨fun h=>(by rw[hA]at h;cases h),fun h=>(by rw[hn]at h;cases h)⟩
theorem Vr.fin{A n:Nat}{D:Int->World->Prop}{E:World->Prop}{q:Int}{listed:Array Bool}{w:World}(hA:listed.getD A false=true)(hE:E w):Vr A n D E q listed w:=
 ⟨fun h=>(by rw[hA]at h;cases h),fun _=>hE⟩
theorem iI{P:Program}{w:World}{o:Oper}{a:Act}{K:Act->World->Prop}{Q:Exit->Act->World->Prop}(s x:Operand)(t:TypeId)
  (ho:o.op=.call {callee:=.builtin .append,args:=#[s,x],argTypes:=#[t,t]})
  (base:Nat) (e:TypeId) (i:TypeInfo) (z:Value) (size bytes:Nat) (ht:P.underlying t=some (.slice e)) (hi:P.info? e=some i) (hz:i.zero=some z)
  (hsize:i.size=size) (hby:i.bytes=bytes) (hzs:z.cells.size=size) (hsz:0<size)
  (v:Value) (n:Nat) (xs:List Value) (hs:a.eval s=v) (hown:w.ownsRow base e size v n xs)
  (ad:Addr) (m c:Nat) (news:List Value) (hx:a.eval x=.slice (some ad) m c) (hl:news.length=m*size) (hnews:∀j u,news[j]?=some u->w.cell? (ad.add j)=some u) (h1:∀u∈news,u.oneCell'=true)
  (h63:n+m<=maxLen) (hbytes:(n+m)*bytes<=140737488355328) (hbase:base<=w.heap.size)
  (h:∀v' w',w'.ownsRow base e size v' (n+m) (xs++news)->w.grownBy w' v.ownBlock->(v'.ownBlock=v.ownBlock\/v'.ownBlock=some w.heap.size)->K (a.put o.dst v') w'):o.wp P a w K Q:=by
 obtain⟨v',w',hr,h2,h3,h4,h5⟩:=run_append_own_at (P:=P) w base t o.type e i z size bytes ht hi hz hsize hby hzs hsz v n xs hown ad m c news hl hnews h1 h63 hbytes hbase;unfold Oper.wp execOp;simp only[ho,resolve,invoke,builtin,Sem.run_bind,Sem.run_pure,Result.andThen_ok,List.map_toArray,List.map_cons,List.map_nil,hs,hx,hr];exact h v' w' h2 h3 h5
theorem fZ(k i:Nat):(Array.replicate k false).getD i false=false:=by simp only[Array.getD_eq_getD_getElem?,Array.getElem?_replicate];split<;>rfl
theorem lj(k:Nat):dG (Array.replicate k false)<=k:=by unfold dG;exact Nat.le_trans List.countP_le_length (by simp)
theorem Vr.same{A n:Nat}{D:Int->World->Prop}{E:World->Prop}{q:Int}{listed:Array Bool}{w:World}{i:Nat}(h:Vr A n D E q listed w)(ho:listed.getD i true=false)(hA:i≠A)(hn:i≠n):Vr A n D E q (listed.setIfInBounds i true) w:=by
 have hop:=et ho;refine⟨fun h1=>?_,fun h1=>?_⟩
 ·
  rw[dZ (fun e=>hA e.symm)]at h1;obtain⟨p,hD,hp⟩:=h.1 h1;exact⟨p,hD,by omega⟩
 rw[dZ (fun e=>hn e.symm)]at h1;exact h.2 h1
theorem Vr.turn{A n:Nat}{D:Int->World->Prop}{E:World->Prop}{q p:Int}{listed:Array Bool}{w:World}{i:Nat}(ho:listed.getD i true=false)(hn:listed.getD n false=false)(hin:i≠n)(hD:D p w)(hp:p+200*(dG listed:Int)<=q+200*((n:Int)+1)+200):Vr A n D E q (listed.setIfInBounds i true) w:=by have hop:=et ho;exact Vr.mk hD (by omega) (by rw[dZ (fun e=>hin e.symm)];exact hn)
theorem ja{P:Program}{ops:Array Oper}{Q:Exit->Act->World->Prop}{a0:Act}{w0:World}(lo n A:Nat)(G:World->Nat->Value->Prop)(D:Int->World->Prop)(E:World->Prop)(q:Int)
  (hd:qQ ops=true) (hops:ops.size=n+1) (hsz:lo+n<=a0.tmps.size) (hD:D q w0)
  (done:∀l y,l.length=n->E y->Q .normal ⟨(a0.tmps.toList.take lo++(l++a0.tmps.toList.drop (lo+n))).toArray,a0.defers⟩ y)
  (step:∀listed x y i,Ir lo n A .any ops a0 G (Vr A n D E q) listed x y->i∈Region.ready .any ops listed->i<n+1->wpOp P ops Q i (Ir lo n A .any ops a0 G (Vr A n D E q) (listed.setIfInBounds i true)) x y):
  wpAny P .any ops Q ops.size (Array.replicate ops.size false) a0 w0:=by
 refine iB (Ir lo n A .any ops a0 G (Vr A n D E q)) (fun listed x y i hI hi=>step listed x y i hI hi (by have:=List.mem_range.1 (List.mem_filter.1 hi).1;omega)) ?_ _ _ _ _ (lj _) ?_
 ·
  intro listed x y hI hr;have hall:=i6 hd hr (by rw[hI.lz,hops]);obtain⟨l,hl,rfl⟩:=tv hI.df hI.sz hI.out hsz;exact done l y hl (hI.v.2 (hall n (by omega)))
 ·
  refine⟨rfl,rfl,fun _ _=>rfl,by simp[hops],?_,?_,?_⟩
  ·
   intro i j _ h;rw[fZ]at h;cases h
  ·
   intro i _ h;rw[fZ]at h;cases h
  have h1:=lj ops.size;exact Vr.mk hD (by omega) (fZ _ _)
theorem wp_hide{P:Program}{o:Oper}{a:Act}{w:World}{I:Act->World->Prop}{Q:Exit->Act->World->Prop}(h:∀K:Act->World->Prop,Hid (∀a w,I a w->K a w)->o.wp P a w K Q):o.wp P a w I Q:=h I (fun _ _ h=>h)
theorem dy{P:Program}{ops:Array Oper}{Q:Exit->Act->World->Prop}{i:Nat}{o:Oper}{I:Act->World->Prop}{a:Act}{w:World}(ho:ops[i]?=some o)(hg:o.guard=none)(h:∀K:Act->World->Prop,Hid (∀a w,I a w->K a w)->o.wp P a w K Q):wpOp P ops Q i I a w:=aO ho hg (wp_hide h)
end Go.Proofs.YtlfnpjcjapljpaaGreatDoor
