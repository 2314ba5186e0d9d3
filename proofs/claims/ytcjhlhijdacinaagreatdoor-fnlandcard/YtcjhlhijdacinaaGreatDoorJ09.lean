import Derived.Test.YtcjhlhijdacinaaGreatDoorJ06
import Derived.Test.YtcjhlhijdacinaaGreatDoorJ08
import Derived.Test.YtcjhlhijdacinaaGreatDoorJ02
import Derived.Test.YtcjhlhijdacinaaGreatDoorJ01
import Derived.Laws.AppendOwn
namespace Go.Proofs.YtcjhlhijdacinaaGreatDoor
open Go.RowKit Go.Maps Go.WideMaps
set_option linter.unusedVariables false
theorem heap_alloc_newL (w:World) (o:Obj):(w.alloc o).heap[w.heap.size]?=some o:=by
 show (w.heap.push o)[w.heap.size]?=some o
 simp
def sl5:Nat→Nat
 | 0=>29
 | 1=>30
 | 2=>31
 | 3=>32
 | 4=>33
 | 5=>34
 | 6=>35
 | 7=>36
 | _=>0
theorem sl5_inj (i:Nat) (hi:i < 8):∀ j,j < 8→sl5 j=sl5 i→j=i:=by
 have h:∀ a:_root_.Fin 8,∀ b:_root_.Fin 8,sl5 b.1=sl5 a.1→b.1=a.1:=by decide
 intro j hj e
 exact h ⟨i,hi⟩ ⟨j,hj⟩ e
theorem sl5_far:∀ j,(j < 29∨29+8≤j)→∀ i,i < 8→sl5 i≠j:=by
 intro j h2 i hi
 match i,hi with
 | 0,_=>show 29≠j; omega
 | 1,_=>show 30≠j; omega
 | 2,_=>show 31≠j; omega
 | 3,_=>show 32≠j; omega
 | 4,_=>show 33≠j; omega
 | 5,_=>show 34≠j; omega
 | 6,_=>show 35≠j; omega
 | 7,_=>show 36≠j; omega
def FrV (Z:Nat) (ws:List W.WantD) (w:World) (v:Value):Prop:=W.Sl w v ws Z
def FrC (Z:Nat) (ws:List W.WantD) (w:World) (v:Value):Prop:=W.Sl w v ws Z∧CapOk v
theorem FrC.keep {Z:Nat} {ws:List W.WantD} {w w':World} {v:Value} (h:FrC Z ws w v) (hb:Below w.heap.size w w'):FrC Z ws w' v:=⟨h.1.keep hb,h.2⟩
set_option maxHeartbeats 1000000 in
theorem W.fresh_cap (a:Option Addr) (c:Nat) (l:List W.WantD) (w:World) (h:W.Src w a c l) (hl:l.length≤1048576) :
  Calls Tryz.prog 54 #[.slice a l.length c] w fun e w'=>(∃ v,e=.returned v∧FrC w.heap.size l w' v)∧Below w.heap.size w w':=by
 obtain ⟨i0,hi,hz0,hz1,hz2⟩:=info_parts W.infoR
 rcases h with ⟨rfl,rfl,rfl⟩ | ⟨g,rfl,hg,hr⟩
 ·
  show Calls Tryz.prog _ #[.slice none 0 0] w _
  go_enter Tryz.func54,Tryz.ntmps54
  go_wp2_with (at_builtin; refine wpList_append_own_none rfl _ _ 27 rfl w.heap.size 56 i0 7 Tryz.underlying27 hi (.slice none 0 0) 0 [] rfl (World.ownsRow_nil _ _ _ _) rfl ?_)
  go_ret
  exact ⟨⟨_,rfl,Or.inl ⟨rfl,rfl⟩,fun a n c h=>by cases h; exact Nat.le_refl _⟩,Below.refl _ _⟩
 ·
  go_enter Tryz.func54,Tryz.ntmps54
  go_wp2_with (at_builtin; refine wpList_append_own _ rfl _ _ 27 rfl w.heap.size 56 i0 _ 7 72 Tryz.underlying27 hi hz0 hz1 hz2 rfl (by decide) (.slice none 0 0) 0 [] rfl (World.ownsRow_nil _ _ _ _) ⟨g,0,none⟩ l.length c (W.flatR l) rfl (W.flatR_len l) (W.flat_cells hr) (W.flatR_one l) (by unfold maxLen; omega) (by omega) (Nat.le_refl _) ?_; intro v' w1 ho1 hg1 hn1)
  go_ret
  have ho2:w1.ownsRow w.heap.size 56 7 v' l.length (W.flatR l):=by simpa using ho1
  exact ⟨⟨v',rfl,W.Sl.of_owns ho2,cap_owns ho2⟩,Below.grown bR hg1 (Nat.le_refl _) (fun j hj=>by cases hj)⟩
def G5 (lb pb g2 k n c2 Z:Nat) (q:P.PlaceD) (w:World):Nat→Value→Prop
 | 0,v=>v=.pointer (some ⟨lb,2,none⟩)
 | 1,v=>v=.slice (some ⟨g2,0,none⟩) n c2
 | 2,v=>v=.int .i64 (k:Int)
 | 3,v=>v=.pointer (some ⟨pb,2,none⟩)
 | 4,v=>v=.slice q.a q.ws.length q.c
 | 5,v=>FrC Z q.ws w v
 | 6,v=>v=.pointer (some ⟨g2,k * 3,none⟩)
 | 7,v=>v=.pointer (some ⟨g2,k * 3+2,none⟩)
 | _,_=>True
theorem G5.keep {lb pb g2 k n c2 Z:Nat} {q:P.PlaceD} {w w':World} (hb:Below w.heap.size w w'):∀ j v,G5 lb pb g2 k n c2 Z q w j v→G5 lb pb g2 k n c2 Z q w' j v
 | 0,_,h=>h
 | 1,_,h=>h
 | 2,_,h=>h
 | 3,_,h=>h
 | 4,_,h=>h
 | 5,_,h=>FrC.keep h hb
 | 6,_,h=>h
 | 7,_,h=>h
 | _+8,_,h=>h
set_option maxRecDepth 4000 in
set_option maxHeartbeats 4000000 in
theorem told_any (hK1:G.KeysSay) (hS1:G.SortedSay) (hK2:Pr.KeysSay) (hS2:Pr.SortedSay) (d m1 m2:Nat) (t:Int) (gs:List G.GrantD) (qs0:List P.PlaceD) (ps:List Pr.PlRaw) (hps:ps=qs0.map Pr.raw) (w:World) (hB:Book w d t m1 m2 gs ps) (s1:G.Srt gs) (s2:Pr.Srt ps) (f1:∀ r∈gs,r.h.size≤maxLen) (f2:∀ r∈ps,r.b.size≤maxLen) (k1:gs.length≤1048576) (k2:ps.length≤1048576) (hsrc:∀ q∈qs0,W.Src w q.a q.c q.ws∧q.ws.length≤1048576) :
  Calls Tryz.prog 48 #[.pointer (some ⟨d,0,none⟩)] w fun e w'=>(∃ B Z lb qs s1 a2 c2,e=.returned (.agg #[.int .i64 t,s1,.slice a2 qs0.length c2])∧w.heap.size < B∧Pt w' B Z lb t gs qs0 qs qs0.length s1 a2 c2)∧Below w.heap.size w w':=by
 have hinfo:(Tryz.prog.info? 26).map (·.size)=some 3:=by kernel_rfl
 obtain ⟨W0,hW0⟩:∃ W0,W0=w.alloc (.cells #[.int .i64 0,.slice none 0 0,.slice none 0 0] 26):=⟨_,rfl⟩
 obtain ⟨B,hBe⟩:∃ B,B=W0.heap.size:=⟨_,rfl⟩
 have HBz:Hid (B≤W0.heap.size):=by show _≤_; omega
 have HW0:=hidP hW0
 have HB0':Hid (Below w.heap.size w W0):=by rw [hW0]; exact bl_alloc bR _
 have HBw1:Hid (w.heap.size < B):=by rw [hBe,hW0]; show _ < _; simp
 have HBq:Hid (W0.heap.size≤B):=by show _≤_; omega
 have HB:=hidP (hB.keep HB0'.out)
 have IG:Hid (∀ y,Below W0.heap.size W0 y→Calls Tryz.prog 74 #[.map (some m1)] y fun e w'=>(∃ v,e=.returned v∧w'.ownsRow y.heap.size 40 5 v gs.length (G.flatR gs))∧Below y.heap.size y w'):=fun y hy=>by
  obtain ⟨n,o⟩:=(HB.out.keep hy).o1
  exact G.inOrderO hK1 hS1 m1 n gs y o s1 f1 k1
 have IQ:Hid (∀ y,Below W0.heap.size W0 y→Calls Tryz.prog 53 #[.map (some m2)] y fun e w'=>(∃ v,e=.returned v∧w'.ownsRow y.heap.size 54 3 v ps.length (Pr.flatR ps))∧Below y.heap.size y w'):=fun y hy=>by
  obtain ⟨n,o⟩:=(HB.out.keep hy).o2
  exact Pr.inOrderO hK2 hS2 m2 n ps y o s2 f2 k2
 have HPS:=hidP hps
 have HSR:Hid (∀ y,Below W0.heap.size W0 y→∀ q∈qs0,W.Src y q.a q.c q.ws∧q.ws.length≤1048576):=fun y hy q hq=>⟨(hsrc q hq).1.keep (bl_trans HB0'.out hy),(hsrc q hq).2⟩
 have T0:Hid (W0.there w.heap.size 0 3):=by rw [hW0]; exact there_land (heap_alloc_newL _ _)
 have ZW:Hid (w.heap.size < W0.heap.size):=by rw [hW0]; show _ < _; simp
 clear hB hK1 hS1 hK2 hS2 s1 s2 f1 f2 hW0 hps hsrc
 go_enter Tryz.func48,Tryz.ntmps48
 go_wp2_with fail
 rw [← HW0.out]
 refine wp_region_any (by kernel_rfl) ?_
 refine reg_invT slTo 16 3 (GTo d m1 m2 B t gs ps) (fun y=>Below W0.heap.size W0 y) (fun u y=>∃ lb a1 c1 a2 c2,u=.pointer (some ⟨lb,0,none⟩)∧Ld y B lb t gs ps (.slice a1 gs.length c1) (.slice a2 ps.length c2)∧Below W0.heap.size W0 y) (by decide) rfl bD ?done ?step
 case done =>
  intro a y hdf hsz hout hE
  obtain ⟨lb,a1,c1,a2,c2,hu,hL,hb⟩:=hE
  obtain ⟨l,hl,ha⟩:=frameP_two (lo:=6) (n:=15) (se:=3) hdf hsz (lE rfl) (lE rfl) (fun j hj1 hj2=>hout j (fun i hi=>slTo_far j hj1 hj2 i hi))
  rw [hu] at ha
  have HL:=hidP hL
  have HY:=hidP hb
  clear hL hb hu hdf hsz hout
  subst ha
  obtain ⟨v0,l0,rfl,hl0⟩:=lenP_succ hl
  obtain ⟨v1,l1,rfl,hl1⟩:=lenP_succ hl0
  obtain ⟨v2,l2,rfl,hl2⟩:=lenP_succ hl1
  obtain ⟨v3,l3,rfl,hl3⟩:=lenP_succ hl2
  obtain ⟨v4,l4,rfl,hl4⟩:=lenP_succ hl3
  obtain ⟨v5,l5,rfl,hl5⟩:=lenP_succ hl4
  obtain ⟨v6,l6,rfl,hl6⟩:=lenP_succ hl5
  obtain ⟨v7,l7,rfl,hl7⟩:=lenP_succ hl6
  obtain ⟨v8,l8,rfl,hl8⟩:=lenP_succ hl7
  obtain ⟨v9,l9,rfl,hl9⟩:=lenP_succ hl8
  obtain ⟨v10,l10,rfl,hl10⟩:=lenP_succ hl9
  obtain ⟨v11,l11,rfl,hl11⟩:=lenP_succ hl10
  obtain ⟨v12,l12,rfl,hl12⟩:=lenP_succ hl11
  obtain ⟨v13,l13,rfl,hl13⟩:=lenP_succ hl12
  obtain ⟨v14,l14,rfl,hl14⟩:=lenP_succ hl13
  obtain rfl:=lenP_zero hl14
  simp only [List.setIfInBounds_toArray,List.set_cons_succ,List.set_cons_zero,List.take_succ_cons,List.take_zero,List.drop_succ_cons,List.drop_zero,List.cons_append,List.nil_append,Nat.reduceAdd]
  obtain ⟨Z,hZ⟩:∃ Z,Z=y.heap.size:=⟨_,rfl⟩
  have HPt:Hid (Pt y B Z lb t gs qs0 qs0 0 (.slice a1 gs.length c1) a2 c2):=by
   have h:=HL.out
   rw [HPS.out] at h
   rw [hZ]
   exact pt_start h
  have hlen:ps.length=qs0.length:=by rw [HPS.out]; exact List.length_map ..
  clear hZ HL
  have q2:=HPt.out.c 2 _ rfl
  simp only [Nat.zero_add] at q2
  clear IG IQ
  go_wp2_with fail
  go_loopw [24] (fun i wx=>∃ (k:Nat) (qs:List P.PlaceD),k≤qs0.length∧i=.int .i64 (k:Int)∧Hid (Pt wx B Z lb t gs qs0 qs k (.slice a1 gs.length c1) a2 c2)∧Hid (Below W0.heap.size W0 wx)) (fun i _=>qs0.length - (intOf i).toNat)
  case atStart=>exact ⟨0,qs0,Nat.zero_le _,rfl,HPt.out,HY.out⟩
  obtain ⟨k,qs,hk,rfl,HP,HBW⟩:=hrel
  by_cases hlt:k < qs0.length
  ·
   have hki:(k:Int) < (qs0.length:Int):=by omega
   obtain ⟨g2,rfl,hg2,hR,hT⟩:=pt_blk HP.out (by omega)
   obtain ⟨q,hq⟩:∃ q,qs[k]?=some q:=⟨qs[k]'(by have:=HP.out.like.len; omega),List.getElem?_eq_getElem _⟩
   obtain ⟨r0,r1,r2⟩:=pt_row hR hq
   have hq0:q∈qs0:=List.mem_of_getElem? ((HP.out.old k (Nat.le_refl _)).symm.trans hq)
   have HQ:=hidP hq
   have HQ0:=hidP hq0
   have HTh:=hidP hT
   have HG2:Hid (W0.heap.size≤g2):=Nat.le_trans HBq.out (pt_ge HP.out)
   clear hR hT hq hq0
   go_wp2_with fail
   obtain ⟨Wk,hWk⟩:∃ Wk,Wk=wr.alloc (.cells #[.string q.b,.int .i64 q.s,.slice q.a q.ws.length q.c] 54):=⟨_,rfl⟩
   have HWk:=hidP hWk
   have BWk:Hid (Below wr.heap.size wr Wk):=by rw [hWk]; exact bl_alloc bR _
   have L3:Hid (∀ y,Below Wk.heap.size Wk y→y.cell? ⟨wr.heap.size,2,none⟩=some (.slice q.a q.ws.length q.c)):=by
    intro y hb
    rw [hWk] at hb
    rw [box_keep hb 2]
    simp [go_sem]
   have L2:Hid (∀ y,Below Wk.heap.size Wk y→y.cell? ⟨lb,2,none⟩=some (.slice (some ⟨g2,0,none⟩) qs0.length c2)):=fun y hb=>by
    have h:=(HP.out.keep (bl_trans BWk.out hb)).c 2 _ rfl
    simpa only [Nat.zero_add] using h
   have L4:Hid (∀ y,Below Wk.heap.size Wk y→y.cell? ⟨g2,k * 3+2,none⟩=some (.slice q.a q.ws.length q.c)):=fun y hb=>((bl_trans BWk.out hb).cell (p:=⟨g2,k * 3+2,none⟩) hg2).trans r2
   have L5:Hid (∀ y,Below Wk.heap.size Wk y→y.frozen? ⟨g2,k * 3+2,none⟩=false):=fun y hb=>((bl_trans BWk.out hb).frozen (p:=⟨g2,k * 3+2,none⟩) hg2).trans (by have h:=(HTh.out (k * 3+2) (by omega)).2; simpa only [Nat.zero_add] using h)
   have FR:Hid (∀ y,Below Wk.heap.size Wk y→Calls Tryz.prog 54 #[.slice q.a q.ws.length q.c] y fun e w'=>(∃ v,e=.returned v∧FrC y.heap.size q.ws w' v)∧Below y.heap.size y w'):=fun y hb=>by
    obtain ⟨h1,h2⟩:=HSR.out y (bl_trans HBW.out (bl_trans BWk.out hb)) q HQ0.out
    exact W.fresh_cap q.a q.c q.ws y h1 h2
   clear hWk r0 r1 r2
   rw [← HWk.out]
   refine wp_region_any (by kernel_rfl) ?_
   refine reg_invT sl5 8 0 (G5 lb wr.heap.size g2 k qs0.length c2 Wk.heap.size q) (fun y=>Below Wk.heap.size Wk y) (fun _ y=>∃ y0 av cv,y=y0.setCell ⟨g2,k * 3+2,none⟩ (.slice av q.ws.length cv)∧Below Wk.heap.size Wk y0∧W.Sl y0 (.slice av q.ws.length cv) q.ws Wk.heap.size∧q.ws.length≤cv) (by decide) rfl bD ?done5 ?step5
   case done5 =>
    intro a y hdf hsz hout hE
    obtain ⟨y0,av,cv,rfl,hb,hv,hcv⟩:=hE
    obtain ⟨l',hl',ha⟩:=frameP_of (lo:=29) (n:=8) hdf hsz (fun j hj=>hout j (fun i hi=>sl5_far j hj i hi)) (lE rfl)
    have HS:=hidP (pt_step HP.out (bl_trans BWk.out hb) HQ.out (sl_lowW hv BWk.out.size) hcv)
    have HB9:Hid (Below W0.heap.size W0 (y0.setCell ⟨g2,k * 3+2,none⟩ (.slice av q.ws.length cv))):=Ex.mono (bl_trans HBW.out (bl_trans BWk.out hb)) ((Ex.refl _ _).set _ _) (HG2.out)
    clear hb hv hdf hsz hout
    subst ha
    obtain ⟨x0,m0,rfl,hm0⟩:=lenP_succ hl'
    obtain ⟨x1,m1,rfl,hm1⟩:=lenP_succ hm0
    obtain ⟨x2,m2,rfl,hm2⟩:=lenP_succ hm1
    obtain ⟨x3,m3,rfl,hm3⟩:=lenP_succ hm2
    obtain ⟨x4,m4,rfl,hm4⟩:=lenP_succ hm3
    obtain ⟨x5,m5,rfl,hm5⟩:=lenP_succ hm4
    obtain ⟨x6,m6,rfl,hm6⟩:=lenP_succ hm5
    obtain ⟨x7,m7,rfl,hm7⟩:=lenP_succ hm6
    obtain rfl:=lenP_zero hm7
    simp only [tkd,Nat.reduceAdd]
    go_wp2
    exact ⟨⟨k+1,_,by omega,by go_num,HS.out,HB9.out⟩,by simp [intOf]; omega⟩
   intro listed x y i hI hi hlt5
   have ho:=ready_open hi
   have HJ:=hidP hI
   have HI:=hidP hi
   obtain rfl | rfl | rfl | rfl | rfl | rfl | rfl | rfl | rfl:i=0∨i=1∨i=2∨i=3∨i=4∨i=5∨i=6∨i=7∨i=8:=by omega
   ·
    have hn:listed.getD 8 false=false:=hI.shut (i:=0) ho (Or.inl (by rfl))
    have e1:x.tmps[3]?.getD undef=.pointer (some ⟨lb,0,none⟩):=ev_tmp (hI.out 3 (fun i hi=>sl5_far 3 (by omega) i hi))
    have HD:=hidP (hI.d hn)
    clear hi hI
    refine op9 fun K hK=>?_
    go_simp
    exact hK.out _ _ (HJ.out.same HI.out (by omega) hn (lE rfl) (sl5_inj _ (by omega)) (rfl))
   ·
    have hn:listed.getD 8 false=false:=hI.shut (i:=1) ho (Or.inl (by rfl))
    have gf0:=hI.good 0 (by omega) (wO hi) hn
    have e1:x.tmps[29]?.getD undef=.pointer (some ⟨lb,2,none⟩):=ev_tmp gf0
    have k1:y.cell? ⟨lb,2,none⟩=some (.slice (some ⟨g2,0,none⟩) qs0.length c2):=L2.out y (hI.d hn)
    have HD:=hidP (hI.d hn)
    clear hi hI
    refine op9 fun K hK=>?_
    go_simp
    exact hK.out _ _ (HJ.out.same HI.out (by omega) hn (lE rfl) (sl5_inj _ (by omega)) (rfl))
   ·
    have hn:listed.getD 8 false=false:=hI.shut (i:=2) ho (Or.inl (by rfl))
    have e1:x.tmps[4]?.getD undef=.int .i64 (k:Int):=ev_tmp (hI.out 4 (fun i hi=>sl5_far 4 (by omega) i hi))
    have HD:=hidP (hI.d hn)
    clear hi hI
    refine op9 fun K hK=>?_
    go_simp
    exact hK.out _ _ (HJ.out.same HI.out (by omega) hn (lE rfl) (sl5_inj _ (by omega)) (rfl))
   ·
    have hn:listed.getD 8 false=false:=hI.shut (i:=3) ho (Or.inl (by rfl))
    have e1:x.tmps[5]?.getD undef=.pointer (some ⟨wr.heap.size,0,none⟩):=ev_tmp (hI.out 5 (fun i hi=>sl5_far 5 (by omega) i hi))
    have HD:=hidP (hI.d hn)
    clear hi hI
    refine op9 fun K hK=>?_
    go_simp
    exact hK.out _ _ (HJ.out.same HI.out (by omega) hn (lE rfl) (sl5_inj _ (by omega)) (rfl))
   ·
    have hn:listed.getD 8 false=false:=hI.shut (i:=4) ho (Or.inl (by rfl))
    have gf3:=hI.good 3 (by omega) (wO hi) hn
    have e1:x.tmps[32]?.getD undef=.pointer (some ⟨wr.heap.size,2,none⟩):=ev_tmp gf3
    have k1:y.cell? ⟨wr.heap.size,2,none⟩=some (.slice q.a q.ws.length q.c):=L3.out y (hI.d hn)
    have HD:=hidP (hI.d hn)
    clear hi hI
    refine op9 fun K hK=>?_
    go_simp
    exact hK.out _ _ (HJ.out.same HI.out (by omega) hn (lE rfl) (sl5_inj _ (by omega)) (rfl))
   ·
    have hn:listed.getD 8 false=false:=hI.shut (i:=5) ho (Or.inl (by rfl))
    have gf4:=hI.good 4 (by omega) (wO hi) hn
    have e1:x.tmps[33]?.getD undef=.slice q.a q.ws.length q.c:=ev_tmp gf4
    have HD:=hidP (hI.d hn)
    clear hi hI
    refine op9 fun K hK=>?_
    go_simp
    refine (FR.out y HD.out).mono ?_
    rintro e y' ⟨⟨v9,rfl,o9⟩,b9⟩
    exact hK.out _ _ (HJ.out.put HI.out (by omega) hn (lE rfl) (sl5_inj _ (by omega)) ⟨sl_lowW o9.1 HD.out.size,o9.2⟩ (fun j u _ h=>G5.keep b9 j u h) (bl_trans HD.out b9))
   ·
    have hn:listed.getD 8 false=false:=hI.shut2 (i:=6) (m:=7) ho (by rfl) (by rfl)
    have gf1:=hI.good 1 (by omega) (wO hi) hn
    have gf2:=hI.good 2 (by omega) (wO hi) hn
    have e1:x.tmps[30]?.getD undef=.slice (some ⟨g2,0,none⟩) qs0.length c2:=ev_tmp gf1
    have e2:x.tmps[31]?.getD undef=.int .i64 (k:Int):=ev_tmp gf2
    have HD:=hidP (hI.d hn)
    clear hi hI
    refine op9 fun K hK=>?_
    go_simp
    exact hK.out _ _ (HJ.out.same HI.out (by omega) hn (lE rfl) (sl5_inj _ (by omega)) (rfl))
   ·
    have hn:listed.getD 8 false=false:=hI.shut (i:=7) ho (Or.inl (by rfl))
    have gf6:=hI.good 6 (by omega) (wO hi) hn
    have e1:x.tmps[35]?.getD undef=.pointer (some ⟨g2,k * 3,none⟩):=ev_tmp gf6
    have HD:=hidP (hI.d hn)
    clear hi hI
    refine op9 fun K hK=>?_
    go_simp
    exact hK.out _ _ (HJ.out.same HI.out (by omega) hn (lE rfl) (sl5_inj _ (by omega)) (rfl))
   have hn:listed.getD 8 false=false:=hI.shut (i:=8) ho (Or.inr rfl)
   have gf5:=hI.good 5 (by omega) (wO hi) hn
   have gf7:=hI.good 7 (by omega) (wO hi) hn
   have o5:=gf5.1
   have oc:=gf5.2
   obtain ⟨av,cv,hv⟩:=W.Sl.shape o5
   have e1:x.tmps[36]?.getD undef=.pointer (some ⟨g2,k * 3+2,none⟩):=ev_tmp gf7
   have e2:x.tmps[34]?.getD undef=_:=ev_tmp hv
   rw [hv] at o5 oc
   have HC5:Hid (q.ws.length≤cv):=oc _ _ _ rfl
   have O5:=hidP o5
   have k1:y.cell? ⟨g2,k * 3+2,none⟩=some (.slice q.a q.ws.length q.c):=L4.out y (hI.d hn)
   have k2:y.frozen? ⟨g2,k * 3+2,none⟩=false:=L5.out y (hI.d hn)
   clear hv o5 oc gf5 gf7
   have HD:=hidP (hI.d hn)
   clear hi hI
   refine op9 fun K hK=>?_
   go_simp
   exact hK.out _ _ (HJ.out.last (u:=undef) HI.out ⟨y,av,cv,rfl,HD.out,O5.out,HC5.out⟩)
  have d0:=HP.out.c 0 _ rfl
  have d1:=HP.out.c 1 _ rfl
  have d2:=HP.out.c 2 _ rfl
  simp only [Nat.zero_add] at d0 d1 d2
  have TW:=hidP (there_keep2 T0.out ZW.out HBW.out)
  go_wp2_with (refine wpList_store_mid (by rfl) 26 _ _ (by rfl) w.heap.size 0 #[.int .i64 t,.slice a1 gs.length c1,.slice a2 qs0.length c2] (by rfl) (by rfl) (by exact TW.out) hinfo (by simp [Value.oneCell']) ?_)
  have hrg:=World.rangeAt_setCells_same wr w.heap.size 0 [.int .i64 t,.slice a1 gs.length c1,.slice a2 qs0.length c2] (by exact TW.out)
  have w0:=hrg 0 _ rfl
  have w1:=hrg 1 _ rfl
  have w2:=hrg 2 _ rfl
  simp only [Nat.zero_add] at w0 w1 w2
  have hk':k=qs0.length:=by omega
  have hx:Ex w.heap.size wr (wr.setCells w.heap.size 0 [.int .i64 t,.slice a1 gs.length c1,.slice a2 qs0.length c2]):=(Ex.refl _ _).cells _ _
  exact bodyPost_ret (v:=.agg #[.int .i64 t,.slice a1 gs.length c1,.slice a2 qs0.length c2]) (by simp [results,Tryz.results48,go_sem,w0,w1,w2]) rfl ⟨⟨B,Z,lb,qs,_,a2,c2,rfl,HBw1.out,by subst hk'; exact pt_other HP.out hx HBw1.out⟩,Ex.mono (bl_trans HB0'.out HBW.out) hx (Nat.le_refl _)⟩
 case step =>
  intro listed x y i hI hi hlt
  have ho:=ready_open hi
  have HJ:=hidP hI
  have HI:=hidP hi
  obtain rfl | rfl | rfl | rfl | rfl | rfl | rfl | rfl | rfl | rfl | rfl | rfl | rfl | rfl | rfl | rfl | rfl:i=0∨i=1∨i=2∨i=3∨i=4∨i=5∨i=6∨i=7∨i=8∨i=9∨i=10∨i=11∨i=12∨i=13∨i=14∨i=15∨i=16:=by omega
  ·
   have hn:listed.getD 16 false=false:=hI.shut (i:=0) ho (Or.inl (by rfl))
   have e1:x.tmps[0]?.getD undef=.pointer (some ⟨d,0,none⟩):=ev_tmp (hI.out 0 (fun i hi=>slTo_far 0 (by omega) (by omega) i hi))
   have HD:=hidP (hI.d hn)
   clear hi hI
   refine op9 fun K hK=>?_
   go_simp
   exact hK.out _ _ (HJ.out.same HI.out (by omega) hn (lE rfl) (slTo_inj _ (by omega)) (rfl))
  ·
   have hn:listed.getD 16 false=false:=hI.shut (i:=1) ho (Or.inl (by rfl))
   have g0:GTo d m1 m2 B t gs ps y 0 (x.tmps.getD 6 undef):=hI.good 0 (by omega) (wO hi) hn
   have e1:x.tmps[6]?.getD undef=.pointer (some ⟨d,0,none⟩):=ev_tmp g0
   have HD:=hidP (hI.d hn)
   clear hi hI
   refine op9 fun K hK=>?_
   go_simp
   exact hK.out _ _ (HJ.out.same HI.out (by omega) hn (lE rfl) (slTo_inj _ (by omega)) (rfl))
  ·
   have hn:listed.getD 16 false=false:=hI.shut (i:=2) ho (Or.inl (by rfl))
   have g1:GTo d m1 m2 B t gs ps y 1 (x.tmps.getD 7 undef):=hI.good 1 (by omega) (wO hi) hn
   have e1:x.tmps[7]?.getD undef=.pointer (some ⟨d,0,none⟩):=ev_tmp g1
   have HD:=hidP (hI.d hn)
   clear hi hI
   refine op9 fun K hK=>?_
   go_simp
   exact hK.out _ _ (HJ.out.same HI.out (by omega) hn (lE rfl) (slTo_inj _ (by omega)) (rfl))
  ·
   have hn:listed.getD 16 false=false:=hI.shut (i:=3) ho (Or.inl (by rfl))
   have g2:GTo d m1 m2 B t gs ps y 2 (x.tmps.getD 8 undef):=hI.good 2 (by omega) (wO hi) hn
   have e1:x.tmps[8]?.getD undef=.pointer (some ⟨d,0,none⟩):=ev_tmp g2
   have k1:y.cell? ⟨d,0,none⟩=some (.int .i64 t):=(HB.out.keep (hI.d hn)).c 0
   have HD:=hidP (hI.d hn)
   clear hi hI
   refine op9 fun K hK=>?_
   go_simp
   exact hK.out _ _ (HJ.out.same HI.out (by omega) hn (lE rfl) (slTo_inj _ (by omega)) (rfl))
  ·
   have hn:listed.getD 16 false=false:=hI.shut (i:=4) ho (Or.inl (by rfl))
   have e1:x.tmps[0]?.getD undef=.pointer (some ⟨d,0,none⟩):=ev_tmp (hI.out 0 (fun i hi=>slTo_far 0 (by omega) (by omega) i hi))
   have HD:=hidP (hI.d hn)
   clear hi hI
   refine op9 fun K hK=>?_
   go_simp
   exact hK.out _ _ (HJ.out.same HI.out (by omega) hn (lE rfl) (slTo_inj _ (by omega)) (rfl))
  ·
   have hn:listed.getD 16 false=false:=hI.shut (i:=5) ho (Or.inl (by rfl))
   have g4:GTo d m1 m2 B t gs ps y 4 (x.tmps.getD 10 undef):=hI.good 4 (by omega) (wO hi) hn
   have e1:x.tmps[10]?.getD undef=.pointer (some ⟨d,0,none⟩):=ev_tmp g4
   have HD:=hidP (hI.d hn)
   clear hi hI
   refine op9 fun K hK=>?_
   go_simp
   exact hK.out _ _ (HJ.out.same HI.out (by omega) hn (lE rfl) (slTo_inj _ (by omega)) (rfl))
  ·
   have hn:listed.getD 16 false=false:=hI.shut (i:=6) ho (Or.inl (by rfl))
   have g5:GTo d m1 m2 B t gs ps y 5 (x.tmps.getD 11 undef):=hI.good 5 (by omega) (wO hi) hn
   have e1:x.tmps[11]?.getD undef=.pointer (some ⟨d,0,none⟩):=ev_tmp g5
   have HD:=hidP (hI.d hn)
   clear hi hI
   refine op9 fun K hK=>?_
   go_simp
   exact hK.out _ _ (HJ.out.same HI.out (by omega) hn (lE rfl) (slTo_inj _ (by omega)) (rfl))
  ·
   have hn:listed.getD 16 false=false:=hI.shut (i:=7) ho (Or.inl (by rfl))
   have g6:GTo d m1 m2 B t gs ps y 6 (x.tmps.getD 12 undef):=hI.good 6 (by omega) (wO hi) hn
   have e1:x.tmps[12]?.getD undef=.pointer (some ⟨d,1,none⟩):=ev_tmp g6
   have k1:y.cell? ⟨d,1,none⟩=some (.map (some m1)):=(HB.out.keep (hI.d hn)).c 1
   have HD:=hidP (hI.d hn)
   clear hi hI
   refine op9 fun K hK=>?_
   go_simp
   exact hK.out _ _ (HJ.out.same HI.out (by omega) hn (lE rfl) (slTo_inj _ (by omega)) (rfl))
  ·
   have hn:listed.getD 16 false=false:=hI.shut (i:=8) ho (Or.inl (by rfl))
   have g7:GTo d m1 m2 B t gs ps y 7 (x.tmps.getD 13 undef):=hI.good 7 (by omega) (wO hi) hn
   have e1:x.tmps[13]?.getD undef=.map (some m1):=ev_tmp g7
   have HD:=hidP (hI.d hn)
   clear hi hI
   refine op9 fun K hK=>?_
   go_simp
   refine (IG.out y HD.out).mono ?_
   rintro e y' ⟨⟨v9,rfl,o9⟩,b9⟩
   have hw9:B≤y.heap.size:=Nat.le_trans HBz.out HD.out.size
   exact hK.out _ _ (HJ.out.put HI.out (by omega) hn (lE rfl) (slTo_inj _ (by omega)) (G.own_low o9 hw9) (fun j u _ h=>GTo.keep b9 j u h) (bl_trans HD.out b9))
  ·
   have hn:listed.getD 16 false=false:=hI.shut (i:=9) ho (Or.inl (by rfl))
   have e1:x.tmps[0]?.getD undef=.pointer (some ⟨d,0,none⟩):=ev_tmp (hI.out 0 (fun i hi=>slTo_far 0 (by omega) (by omega) i hi))
   have HD:=hidP (hI.d hn)
   clear hi hI
   refine op9 fun K hK=>?_
   go_simp
   exact hK.out _ _ (HJ.out.same HI.out (by omega) hn (lE rfl) (slTo_inj _ (by omega)) (rfl))
  ·
   have hn:listed.getD 16 false=false:=hI.shut (i:=10) ho (Or.inl (by rfl))
   have g9:GTo d m1 m2 B t gs ps y 9 (x.tmps.getD 15 undef):=hI.good 9 (by omega) (wO hi) hn
   have e1:x.tmps[15]?.getD undef=.pointer (some ⟨d,0,none⟩):=ev_tmp g9
   have HD:=hidP (hI.d hn)
   clear hi hI
   refine op9 fun K hK=>?_
   go_simp
   exact hK.out _ _ (HJ.out.same HI.out (by omega) hn (lE rfl) (slTo_inj _ (by omega)) (rfl))
  ·
   have hn:listed.getD 16 false=false:=hI.shut (i:=11) ho (Or.inl (by rfl))
   have g10:GTo d m1 m2 B t gs ps y 10 (x.tmps.getD 16 undef):=hI.good 10 (by omega) (wO hi) hn
   have e1:x.tmps[16]?.getD undef=.pointer (some ⟨d,0,none⟩):=ev_tmp g10
   have HD:=hidP (hI.d hn)
   clear hi hI
   refine op9 fun K hK=>?_
   go_simp
   exact hK.out _ _ (HJ.out.same HI.out (by omega) hn (lE rfl) (slTo_inj _ (by omega)) (rfl))
  ·
   have hn:listed.getD 16 false=false:=hI.shut (i:=12) ho (Or.inl (by rfl))
   have g11:GTo d m1 m2 B t gs ps y 11 (x.tmps.getD 17 undef):=hI.good 11 (by omega) (wO hi) hn
   have e1:x.tmps[17]?.getD undef=.pointer (some ⟨d,2,none⟩):=ev_tmp g11
   have k1:y.cell? ⟨d,2,none⟩=some (.map (some m2)):=(HB.out.keep (hI.d hn)).c 2
   have HD:=hidP (hI.d hn)
   clear hi hI
   refine op9 fun K hK=>?_
   go_simp
   exact hK.out _ _ (HJ.out.same HI.out (by omega) hn (lE rfl) (slTo_inj _ (by omega)) (rfl))
  ·
   have hn:listed.getD 16 false=false:=hI.shut (i:=13) ho (Or.inl (by rfl))
   have g12:GTo d m1 m2 B t gs ps y 12 (x.tmps.getD 18 undef):=hI.good 12 (by omega) (wO hi) hn
   have e1:x.tmps[18]?.getD undef=.map (some m2):=ev_tmp g12
   have HD:=hidP (hI.d hn)
   clear hi hI
   refine op9 fun K hK=>?_
   go_simp
   refine (IQ.out y HD.out).mono ?_
   rintro e y' ⟨⟨v9,rfl,o9⟩,b9⟩
   have hw9:B≤y.heap.size:=Nat.le_trans HBz.out HD.out.size
   exact hK.out _ _ (HJ.out.put HI.out (by omega) hn (lE rfl) (slTo_inj _ (by omega)) (Pr.own_low o9 hw9) (fun j u _ h=>GTo.keep b9 j u h) (bl_trans HD.out b9))
  ·
   have hn:listed.getD 16 false=false:=hI.shut (i:=14) ho (Or.inl (by rfl))
   have g3:GTo d m1 m2 B t gs ps y 3 (x.tmps.getD 9 undef):=hI.good 3 (by omega) (wO hi) hn
   have g8:GTo d m1 m2 B t gs ps y 8 (x.tmps.getD 14 undef):=hI.good 8 (by omega) (wO hi) hn
   have g13:GTo d m1 m2 B t gs ps y 13 (x.tmps.getD 19 undef):=hI.good 13 (by omega) (wO hi) hn
   have e1:x.tmps[9]?.getD undef=.int .i64 t:=ev_tmp g3
   have o1:OG B gs y _:=g8
   have o2:OQ B ps y _:=g13
   obtain ⟨a1,c1,h1⟩:=o1.shape
   obtain ⟨a2,c2,h2⟩:=o2.shape
   have e2:x.tmps[14]?.getD undef=_:=ev_tmp h1
   have e3:x.tmps[19]?.getD undef=_:=ev_tmp h2
   rw [h1] at o1
   rw [h2] at o2
   have O1:=hidP o1
   have O2:=hidP o2
   clear h1 h2 g3 g8 g13 o1 o2
   have HD:=hidP (hI.d hn)
   clear hi hI
   refine op9 fun K hK=>?_
   go_simp
   exact hK.out _ _ (HJ.out.same HI.out (by omega) hn (lE rfl) (slTo_inj _ (by omega)) (⟨a1,c1,a2,c2,rfl,O1.out,O2.out⟩))
  ·
   have hn:listed.getD 16 false=false:=hI.shut (i:=15) ho (Or.inl (by rfl))
   have HD:=hidP (hI.d hn)
   clear hi hI
   refine op9 fun K hK=>?_
   go_simp
   have hbl:Below y.heap.size y (y.alloc (.cells #[.int .i64 0,.slice none 0 0,.slice none 0 0] 26)):=bl_alloc bR _
   have hw9:B≤y.heap.size:=Nat.le_trans HBz.out HD.out.size
   exact hK.out _ _ (HJ.out.put HI.out (by omega) hn (lE rfl) (slTo_inj _ (by omega)) (⟨y.heap.size,rfl,hw9,by simp,heap_alloc_newL y _⟩) (fun j u _ h=>GTo.keep hbl j u h) (bl_trans HD.out hbl))
  have hn:listed.getD 16 false=false:=hI.shut (i:=16) ho (Or.inr rfl)
  have g14:GTo d m1 m2 B t gs ps y 14 (x.tmps.getD 20 undef):=hI.good 14 (by omega) (wO hi) hn
  have g15:GTo d m1 m2 B t gs ps y 15 (x.tmps.getD 3 undef):=hI.good 15 (by omega) (wO hi) hn
  obtain ⟨a1,c1,a2,c2,h1,o1,o2⟩:=g14
  obtain ⟨lb,h2,z1,z2,hl⟩:=g15
  have HD:=hidP (hI.d hn)
  clear hi hI
  refine op9 fun K hK=>?_
  refine wp_store_mid 26 _ _ rfl lb 0 #[.int .i64 t,.slice a1 gs.length c1,.slice a2 ps.length c2] h2 h1 (there_land hl) hinfo (by simp [Value.oneCell']) ?_
  have hE:=ld_put (t:=t) ⟨z1,z2⟩ hl o1 o2
  have hx:Ex lb y (y.setCells lb 0 [.int .i64 t,.slice a1 gs.length c1,.slice a2 ps.length c2]):=(Ex.refl _ _).cells _ _
  exact hK.out _ _ (HJ.out.last (u:=undef) HI.out ⟨lb,_,_,_,_,h2,hE,Ex.mono HD.out hx (Nat.le_trans HBq.out z1)⟩)
end Go.Proofs.YtcjhlhijdacinaaGreatDoor
namespace Go.Proofs.YtcjhlhijdacinaaGreatDoor.Pc
open Go.RowKit
set_option linter.unusedVariables false
structure PcRaw where
 k:Int
 b:ByteArray
 s:Int
 a:Option Addr
 n:Nat
 c:Nat
 h:ByteArray
 p:ByteArray
 t:Int
def PcRaw.cells (r:PcRaw):List Value:=[.int .i64 r.k,.string r.b,.int .i64 r.s,.slice r.a r.n r.c,.string r.h,.string r.p,.int .i64 r.t]
def RowsAt (w:World) (b off:Nat) (rs:List PcRaw):Prop:=∀ k r,rs[k]?=some r→w.rangeAt b (off+k * 7) r.cells
theorem RowsAt.at {w:World} {b off:Nat} {rs:List PcRaw} (h:RowsAt w b off rs) {k:Nat} {r:PcRaw} (hk:rs[k]?=some r) :
  w.cell? ⟨b,off+k * 7,none⟩=some (.int .i64 r.k)∧w.cell? ⟨b,off+k * 7+1,none⟩=some (.string r.b)∧w.cell? ⟨b,off+k * 7+2,none⟩=some (.int .i64 r.s)∧w.cell? ⟨b,off+k * 7+3,none⟩=some (.slice r.a r.n r.c)∧w.cell? ⟨b,off+k * 7+4,none⟩=some (.string r.h)∧w.cell? ⟨b,off+k * 7+5,none⟩=some (.string r.p)∧w.cell? ⟨b,off+k * 7+6,none⟩=some (.int .i64 r.t) :=
 ⟨h k r hk 0 _ rfl,h k r hk 1 _ rfl,h k r hk 2 _ rfl,h k r hk 3 _ rfl,h k r hk 4 _ rfl,h k r hk 5 _ rfl,h k r hk 6 _ rfl⟩
end Go.Proofs.YtcjhlhijdacinaaGreatDoor.Pc
namespace Go.Proofs.YtcjhlhijdacinaaGreatDoor.Pc
open Go.RowKit
set_option linter.unusedVariables false
def flatR (rs:List PcRaw):List Value:=rs.flatMap PcRaw.cells
theorem flatR_at:∀ (rs:List PcRaw) (k:Nat) (r:PcRaw),rs[k]?=some r→∀ j,j < 7→(flatR rs)[k * 7+j]?=r.cells[j]?
 | [],k,r,h,j,hj=>by simp at h
 | q :: rs,0,r,h,j,hj=>by
  simp at h; subst h
  rw [flatR,List.flatMap_cons,List.getElem?_append_left (by show _ < 7; omega)]
  simp
 | q :: rs,k+1,r,h,j,hj=>by
  have ih:=flatR_at rs k r (by simpa using h) j hj
  rw [flatR,List.flatMap_cons,List.getElem?_append_right (by show 7≤_; omega)]
  rw [← ih]
  show (flatR rs)[(k+1) * 7+j - 7]?=_
  rw [show (k+1) * 7+j - 7=k * 7+j from by omega]
theorem flatR_one (rs:List PcRaw):∀ u∈flatR rs,u.oneCell'=true:=by
 intro u hu
 obtain ⟨r,-,h⟩:=List.mem_flatMap.1 hu
 simp [PcRaw.cells] at h
 rcases h with rfl | rfl | rfl | rfl | rfl | rfl | rfl <;> rfl
theorem rows_of_owns {w:World} {base:Nat} {v:Value} {rs:List PcRaw} (h:w.ownsRow base 29 7 v rs.length (flatR rs)) :
  (v=.slice none 0 0∧rs=[])∨∃ g cap,v=.slice (some ⟨g,0,none⟩) rs.length cap∧base≤g∧g < w.heap.size∧RowsAt w g 0 rs∧w.there g 0 (rs.length * 7):=by
 obtain ⟨hl,⟨rfl,hn⟩ | ⟨g,cap,cur,rfl,hb,hg,hnc,hcm,hcs,htk⟩⟩:=h
 · exact Or.inl ⟨rfl,List.length_eq_zero_iff.1 hn⟩
 ·
  refine Or.inr ⟨g,cap,rfl,hb,(Array.getElem?_eq_some_iff.1 hg).1, ?_, ?_⟩
  ·
   intro k r hk j u hj
   have hjn:j < 7:=by
    rcases Nat.lt_or_ge j 7 with h' | h'
    · exact h'
    rw [List.getElem?_eq_none (by simpa [PcRaw.cells] using h')] at hj; cases hj
   have hf:=flatR_at rs k r hk j hjn
   rw [hj,← htk,List.getElem?_take] at hf
   split at hf
   ·
    rw [cell_of_row w g _ cur _ (0,0) hg,Nat.zero_add]
    simpa using hf
   cases hf
  intro j hj
  have hlt:j < cur.size:=by
   have:rs.length * 7≤cap * 7:=Nat.mul_le_mul_right 7 hnc
   omega
  refine ⟨?_, ?_⟩
  ·
   rw [cell_of_row w g _ cur _ (0,0) hg,Nat.zero_add]
   simp [Array.getElem?_eq_getElem hlt]
  simp [World.frozen?,hg]
theorem owns_below {x y:World} {base:Nat} {e:TypeId} {size:Nat} {v:Value} {n:Nat} {xs:List Value} (h:x.ownsRow base e size v n xs) (hb:Below x.heap.size x y):y.ownsRow base e size v n xs :=
 h.kept (row:=none) ⟨hb.os,hb.tape,hb.output,hb.size,fun k hk _=>hb.block k hk⟩ (by cases hv:v.ownBlock <;> simp)
theorem cellsR_one (r:PcRaw):∀ u∈r.cells,u.oneCell'=true:=fun u hu=>flatR_one [r] u (by simpa [flatR] using hu)
theorem infoR:(Tryz.prog.info? 29).map (fun i=>(i.zero,i.size,i.bytes))=some (some (.agg #[.int .i64 0,.string ⟨#[]⟩,.int .i64 0,.slice none 0 0,.string ⟨#[]⟩,.string ⟨#[]⟩,.int .i64 0]),7,96):=by kernel_rfl
end Go.Proofs.YtcjhlhijdacinaaGreatDoor.Pc
namespace Go.Proofs.YtcjhlhijdacinaaGreatDoor.Pc
open Go.RowKit
set_option linter.unusedVariables false
def Sl (w:World) (v:Value) (l:List PcRaw) (B:Nat):Prop:=(v=.slice none 0 0∧l=[])∨∃ g cap,v=.slice (some ⟨g,0,none⟩) l.length cap∧B≤g∧g < w.heap.size∧RowsAt w g 0 l∧w.there g 0 (l.length * 7)
theorem Sl.of_owns {w:World} {v:Value} {l:List PcRaw} {B:Nat} (h:w.ownsRow B 29 7 v l.length (flatR l)):Sl w v l B:=rows_of_owns h
theorem Sl.grown {w w':World} {v:Value} {l:List PcRaw} {B:Nat} {row:Option Nat} (h:Sl w v l B) (hg:w.grownBy w' row) (hne:v.ownBlock=none∨v.ownBlock≠row):Sl w' v l B:=by
 rcases h with h | ⟨g,cap,rfl,h1,h2,h3,h4⟩
 · exact Or.inl h
 have hn:some g≠row:=by simpa [Value.ownBlock] using hne
 have hc:∀ o,w'.cell? ⟨g,o,none⟩=w.cell? ⟨g,o,none⟩:=fun o=>World.cell?_of_block (w:=w) (a:=⟨g,o,none⟩) (hg.block g h2 hn)
 have hfz:∀ o,w'.frozen? ⟨g,o,none⟩=w.frozen? ⟨g,o,none⟩:=fun o=>World.frozen?_of_block (w:=w) (a:=⟨g,o,none⟩) (hg.block g h2 hn)
 exact Or.inr ⟨g,cap,rfl,h1,Nat.lt_of_lt_of_le h2 hg.size,fun k r hk j v hj=>(hc _).trans (h3 k r hk j v hj),fun j hj=>⟨by rw [hc]; exact (h4 j hj).1,by rw [hfz]; exact (h4 j hj).2⟩⟩
theorem Sl.keep {w w':World} {v:Value} {l:List PcRaw} {B:Nat} (h:Sl w v l B) (hb:Below w.heap.size w w'):Sl w' v l B :=
 h.grown (row:=none) ⟨hb.os,hb.tape,hb.output,hb.size,fun k hk _=>hb.block k hk⟩ (by cases hv:v.ownBlock <;> simp)
theorem Sl.lt {w:World} {v:Value} {l:List PcRaw} {B:Nat} (h:Sl w v l B):∀ g,v.ownBlock=some g→B≤g∧g < w.heap.size:=by
 rcases h with ⟨rfl,-⟩ | ⟨g,cap,rfl,h1,h2,-⟩
 · intro g hg; simp [Value.ownBlock] at hg
 intro g' hg; simp [Value.ownBlock] at hg; subst hg; exact ⟨h1,h2⟩
theorem Sl.shape {w:World} {v:Value} {l:List PcRaw} {B:Nat} (h:Sl w v l B):∃ a c,v=.slice a l.length c:=by
 rcases h with ⟨rfl,rfl⟩ | ⟨g,cap,rfl,-⟩
 · exact ⟨none,0,rfl⟩
 exact ⟨_,_,rfl⟩
end Go.Proofs.YtcjhlhijdacinaaGreatDoor.Pc
