import Derived.Test.YtcjhlhijdacinaaGreatDoorJ02
import Derived.Test.YtcjhlhijdacinaaGreatDoorJ03
import Derived.Test.YtcjhlhijdacinaaGreatDoorJ04
import Derived.Deep.MidRow
import Derived.Test.YtcjhlhijdacinaaGreatDoorJ01
import Derived.Laws.BytesString
import Derived.Deep.RegionHeld3
import Derived.Laws.Pointers
import Derived.StillTactics
import Derived.Laws.MakeOwn
namespace Go.Proofs.YtcjhlhijdacinaaGreatDoor
open Go.RowKit Go.Maps Go.WideMaps
set_option linter.unusedVariables false
def MG (B:Nat) (gs:List G.GrantD) (w:World) (v:Value):Prop:=∃ m n,v=.map (some m)∧B≤m∧m < w.heap.size∧w.ownsMap Tryz.prog 9 G.RV m n (G.dec gs)∧n≤1048576
def MQ (B:Nat) (ps:List Pr.PlRaw) (w:World) (v:Value):Prop:=∃ m n,v=.map (some m)∧B≤m∧m < w.heap.size∧w.ownsMap Tryz.prog 9 Pr.RV m n (Pr.dec ps)∧n≤1048576
theorem MG.keep {B:Nat} {gs:List G.GrantD} {w w':World} {v:Value} (h:MG B gs w v) (hb:Below w.heap.size w w'):MG B gs w' v:=by
 obtain ⟨m,n,h1,h2,h3,h4,h5⟩:=h
 exact ⟨m,n,h1,h2,Nat.lt_of_lt_of_le h3 hb.size,G.mapv_below h4 hb,h5⟩
theorem MQ.keep {B:Nat} {gs:List Pr.PlRaw} {w w':World} {v:Value} (h:MQ B gs w v) (hb:Below w.heap.size w w'):MQ B gs w' v:=by
 obtain ⟨m,n,h1,h2,h3,h4,h5⟩:=h
 exact ⟨m,n,h1,h2,Nat.lt_of_lt_of_le h3 hb.size,Pr.mapv_below h4 hb,h5⟩
structure Book (w:World) (d:Nat) (t:Int) (m1 m2:Nat) (gs:List G.GrantD) (ps:List Pr.PlRaw):Prop where
 c:∀ k,w.cell? ⟨d,k,none⟩=(#[.int .i64 t,.map (some m1),.map (some m2)]:Array Value)[k]?
 f:∀ k,w.frozen? ⟨d,k,none⟩=false
 l:d < w.heap.size
 o1:∃ n,w.ownsMap Tryz.prog 9 G.RV m1 n (G.dec gs)
 o2:∃ n,w.ownsMap Tryz.prog 9 Pr.RV m2 n (Pr.dec ps)
 ne:m1≠m2
theorem Book.keep {w w':World} {d:Nat} {t:Int} {m1 m2:Nat} {gs:List G.GrantD} {ps:List Pr.PlRaw} (h:Book w d t m1 m2 gs ps) (hb:Below w.heap.size w w'):Book w' d t m1 m2 gs ps:=by
 obtain ⟨n1,o1⟩:=h.o1
 obtain ⟨n2,o2⟩:=h.o2
 exact ⟨fun k=>(hb.cell (p:=⟨d,k,none⟩) h.l).trans (h.c k),fun k=>(hb.frozen (p:=⟨d,k,none⟩) h.l).trans (h.f k),Nat.lt_of_lt_of_le h.l hb.size,⟨n1,G.mapv_below o1 hb⟩,⟨n2,Pr.mapv_below o2 hb⟩,h.ne⟩
def Bk0 (B:Nat) (t:Int) (gs:List G.GrantD) (ps:List Pr.PlRaw) (w:World) (v:Value):Prop:=∃ m1 m2 n1 n2,v=.agg #[.int .i64 t,.map (some m1),.map (some m2)]∧(B≤m1∧m1 < w.heap.size)∧(B≤m2∧m2 < w.heap.size)∧w.ownsMap Tryz.prog 9 G.RV m1 n1 (G.dec gs)∧w.ownsMap Tryz.prog 9 Pr.RV m2 n2 (Pr.dec ps)∧m1≠m2∧n2≤1048576∧n1≤1048576
theorem Bk0.keep {B:Nat} {t:Int} {gs:List G.GrantD} {ps:List Pr.PlRaw} {w w':World} {v:Value} (h:Bk0 B t gs ps w v) (hb:Below w.heap.size w w'):Bk0 B t gs ps w' v:=by
 obtain ⟨m1,m2,n1,n2,h1,h2,h3,h4,h5,h6⟩:=h
 exact ⟨m1,m2,n1,n2,h1,⟨h2.1,Nat.lt_of_lt_of_le h2.2 hb.size⟩,⟨h3.1,Nat.lt_of_lt_of_le h3.2 hb.size⟩,G.mapv_below h4 hb,Pr.mapv_below h5 hb,h6⟩
def Bk (B:Nat) (t:Int) (gs:List G.GrantD) (ps:List Pr.PlRaw) (w:World) (v:Value):Prop:=∃ d m1 m2,v=.pointer (some ⟨d,0,none⟩)∧(B≤d∧B≤m1∧B≤m2∧d≠m1∧d≠m2)∧Book w d t m1 m2 gs ps∧(∃ n,n≤1048576∧w.ownsMap Tryz.prog 9 Pr.RV m2 n (Pr.dec ps))∧∃ n,n≤1048576∧w.ownsMap Tryz.prog 9 G.RV m1 n (G.dec gs)
theorem Bk.keep {B:Nat} {t:Int} {gs:List G.GrantD} {ps:List Pr.PlRaw} {w w':World} {v:Value} (h:Bk B t gs ps w v) (hb:Below w.heap.size w w'):Bk B t gs ps w' v:=by
 obtain ⟨d,m1,m2,h1,h2,h3,⟨n,h4,h5⟩,n',h6,h7⟩:=h
 exact ⟨d,m1,m2,h1,h2,h3.keep hb,⟨n,h4,Pr.mapv_below h5 hb⟩,n',h6,G.mapv_below h7 hb⟩
theorem own_lt {P:Program} {kt:TypeId} {H:Type} {RVx:Value→Option (DataW H × List MemPlace)} {b n:Nat} {d:DataW H} {w:World} (h:w.ownsMap P kt RVx b n d):b < w.heap.size:=h.lt
def slBk:Nat→Nat
 | 0=>3
 | 1=>4
 | 2=>5
 | 3=>6
 | 4=>7
 | 5=>8
 | 6=>9
 | 7=>10
 | 8=>11
 | 9=>12
 | 10=>2
 | _=>0
theorem slBk_inj (i:Nat) (hi:i < 11):∀ j,j < 11→slBk j=slBk i→j=i:=by
 have h:∀ a:_root_.Fin 11,∀ b:_root_.Fin 11,slBk b.1=slBk a.1→b.1=a.1:=by decide
 intro j hj e
 exact h ⟨i,hi⟩ ⟨j,hj⟩ e
theorem slBk_far:∀ j,j≠2→(j < 3∨3+10≤j)→∀ i,i < 11→slBk i≠j:=by
 intro j h1 h2 i hi
 match i,hi with
 | 0,_=>show 3≠j; omega
 | 1,_=>show 4≠j; omega
 | 2,_=>show 5≠j; omega
 | 3,_=>show 6≠j; omega
 | 4,_=>show 7≠j; omega
 | 5,_=>show 8≠j; omega
 | 6,_=>show 9≠j; omega
 | 7,_=>show 10≠j; omega
 | 8,_=>show 11≠j; omega
 | 9,_=>show 12≠j; omega
 | 10,_=>show 2≠j; omega
def GBk (bx B:Nat) (b1 b2:Option Addr) (c1 c2:Nat) (t:Int) (gs:List G.GrantD) (ps:List Pr.PlRaw) (w:World):Nat→Value→Prop
 | 0,v=>v=.pointer (some ⟨bx,0,none⟩)
 | 1,v=>v=.int .i64 t
 | 2,v=>v=.pointer (some ⟨bx,1,none⟩)
 | 3,v=>v=.slice b1 gs.length c1
 | 4,v=>MG B gs w v
 | 5,v=>v=.pointer (some ⟨bx,2,none⟩)
 | 6,v=>v=.slice b2 ps.length c2
 | 7,v=>MQ B ps w v
 | 8,v=>Bk0 B t gs ps w v
 | 9,v=>Bk B t gs ps w v
 | 10,v=>Bk B t gs ps w v
 | _,_=>True
theorem GBk.keep {bx B:Nat} {b1 b2:Option Addr} {c1 c2:Nat} {t:Int} {gs:List G.GrantD} {ps:List Pr.PlRaw} {w w':World} (hb:Below w.heap.size w w'):∀ j v,GBk bx B b1 b2 c1 c2 t gs ps w j v→GBk bx B b1 b2 c1 c2 t gs ps w' j v
 | 0,_,h=>h
 | 1,_,h=>h
 | 2,_,h=>h
 | 3,_,h=>h
 | 4,_,h=>MG.keep h hb
 | 5,_,h=>h
 | 6,_,h=>h
 | 7,_,h=>MQ.keep h hb
 | 8,_,h=>Bk0.keep h hb
 | 9,_,h=>Bk.keep h hb
 | 10,_,h=>Bk.keep h hb
 | _+11,_,h=>h
set_option maxRecDepth 4000 in
set_option maxHeartbeats 4000000 in
theorem bookOf_z (t:Int) (gs:List G.GrantD) (ps:List Pr.PlRaw) (b1 b2:Option Addr) (c1 c2:Nat) (w:World) (h1:G.GvG w b1 gs) (h2:Pr.GvQ w b2 ps) (f1:∀ r∈gs,r.h.size≤maxLen) (f2:∀ r∈ps,r.b.size≤maxLen) (k1:gs.length≤1048576) (k2:ps.length≤1048576) (s1:G.Srt gs) (s2:Pr.Srt ps) :
  Calls Tryz.prog 47 #[.agg #[.int .i64 t,.slice b1 gs.length c1,.slice b2 ps.length c2]] w fun e w'=>(∃ d m1 m2,e=.returned (.pointer (some ⟨d,0,none⟩))∧(w.heap.size≤d∧w.heap.size≤m1∧w.heap.size≤m2∧d≠m1∧d≠m2)∧Book w' d t m1 m2 gs ps∧(∃ n,n≤1048576∧w'.ownsMap Tryz.prog 9 Pr.RV m2 n (Pr.dec ps))∧∃ n,n≤1048576∧w'.ownsMap Tryz.prog 9 G.RV m1 n (G.dec gs))∧Below w.heap.size w w':=by
 have HK1:=hidP k1
 have HK2:=hidP k2
 obtain ⟨W0,hW0⟩:∃ W0,W0=(w.alloc (.cells #[.int .i64 t,.slice b1 gs.length c1,.slice b2 ps.length c2] 26)):=⟨_,rfl⟩
 have HW0:=hidP hW0
 have B0:Hid (Below w.heap.size w W0):=by rw [hW0]; exact bl_alloc bR _
 have K0:Hid (∀ y,Below W0.heap.size W0 y→∀ j,y.cell? ⟨w.heap.size,j,none⟩=(#[.int .i64 t,.slice b1 gs.length c1,.slice b2 ps.length c2]:Array Value)[j]?):=by
  intro y hb j
  rw [hW0] at hb
  rw [box_keep hb j]
  simp [go_sem]
 have BG:Hid (∀ y,Below W0.heap.size W0 y→Calls Tryz.prog 72 #[.slice b1 gs.length c1,.func (.func 57) #[] #[]] y fun e w'=>e=.returned (.map (some y.heap.size))∧w'.ownsMap Tryz.prog 9 G.RV y.heap.size gs.length (G.dec gs)∧Below y.heap.size y w'):=fun y hy =>
  G.byName_x b1 c1 gs y (h1.keep (bl_trans B0.out hy)) f1 k1 s1
 have BQ:Hid (∀ y,Below W0.heap.size W0 y→Calls Tryz.prog 73 #[.slice b2 ps.length c2,.func (.func 62) #[] #[]] y fun e w'=>e=.returned (.map (some y.heap.size))∧w'.ownsMap Tryz.prog 9 Pr.RV y.heap.size ps.length (Pr.dec ps)∧Below y.heap.size y w'):=fun y hy =>
  Pr.byName_x b2 c2 ps y (h2.keep (bl_trans B0.out hy)) f2 k2 s2
 clear h1 h2 f1 f2 s1 s2 hW0 k1 k2
 go_enter Tryz.func47,Tryz.ntmps47
 go_wp2_with fail
 rw [← HW0.out]
 refine wp_region_any (by kernel_rfl) ?_
 refine reg_invQ slBk 11 4 7 (GBk w.heap.size w.heap.size b1 b2 c1 c2 t gs ps) (fun y=>Below W0.heap.size W0 y) (by decide) rfl bD ?done ?step
 case done =>
  intro a y hI
  obtain ⟨d,m1,m2,hv,hz,hB,hNB⟩:=hI.all 10 (by omega)
  have r3:a.tmps.getD 2 undef=.pointer (some ⟨d,0,none⟩):=hv
  obtain ⟨l,hl,ha⟩:=frameP_two (lo:=3) (n:=10) (se:=2) hI.df hI.sz (lE rfl) (lE rfl) (fun j hj1 hj2=>hI.out j (fun i hi=>slBk_far j hj1 hj2 i hi))
  rw [r3] at ha
  have HB:=hidP hB
  have HNB:=hidP hNB
  clear hNB
  have HD:=hidP hI.d
  clear hI r3 hv hB
  subst ha
  obtain ⟨v0,l0,rfl,hl0⟩:=lenP_succ hl
  obtain ⟨v1,l1,rfl,hl1⟩:=lenP_succ hl0
  obtain ⟨v2,l2,rfl,hl2⟩:=lenP_succ hl1
  obtain ⟨v3,l3,rfl,hl3⟩:=lenP_succ hl2
  obtain ⟨v4,l4,rfl,hl4⟩:=lenP_succ hl3
  obtain ⟨v5,l5,rfl,hl5⟩:=lenP_succ hl4
  obtain ⟨v6,l6,rfl,hl6⟩:=lenP_succ hl5
  obtain ⟨v7,l7,rfl,hl7⟩:=lenP_succ hl6
  obtain ⟨v8,l8,rfl,hl8⟩:=lenP_succ hl7
  obtain ⟨v9,l9,rfl,hl9⟩:=lenP_succ hl8
  obtain rfl:=lenP_zero hl9
  simp only [List.setIfInBounds_toArray,List.set_cons_succ,List.set_cons_zero,List.take_succ_cons,List.take_zero,List.drop_succ_cons,List.drop_zero,List.cons_append,List.nil_append,Nat.reduceAdd]
  go_wp2_with fail
  go_ret
  exact ⟨⟨d,m1,m2,rfl,hz,HB.out,HNB.out⟩,bl_trans B0.out HD.out⟩
 case step =>
  intro listed x y i hI hN hi hlt
  have HD:=hidP hI.d
  have HJ:=hidP hI
  obtain rfl | rfl | rfl | rfl | rfl | rfl | rfl | rfl | rfl | rfl | rfl:i=0∨i=1∨i=2∨i=3∨i=4∨i=5∨i=6∨i=7∨i=8∨i=9∨i=10:=by omega
  ·
   have e1:x.tmps[1]?.getD undef=.pointer (some ⟨w.heap.size,0,none⟩):=ev_tmp (hI.out 1 (fun i hi=>slBk_far 1 (by omega) (by omega) i hi))
   have HN:=hidP hN
   clear hN
   clear hi hI
   refine op9 fun K hK=>?_
   go_simp
   exact hK.out _ _ ⟨HJ.out.put (by omega) (lE rfl) (slBk_inj _ (by omega)) (rfl) (fun j u _ h=>h) HJ.out.d,HN.out.other (by decide) (by decide) (by decide) (by decide)⟩
  ·
   have g0:GBk w.heap.size w.heap.size b1 b2 c1 c2 t gs ps y 0 (x.tmps.getD 3 undef):=hI.good 0 (by omega) (wO hi)
   have e1:x.tmps[3]?.getD undef=.pointer (some ⟨w.heap.size,0,none⟩):=ev_tmp g0
   have k1:y.cell? ⟨w.heap.size,0,none⟩=some (.int .i64 t):=K0.out y hI.d 0
   have HN:=hidP hN
   clear hN
   clear hi hI
   refine op9 fun K hK=>?_
   go_simp
   exact hK.out _ _ ⟨HJ.out.put (by omega) (lE rfl) (slBk_inj _ (by omega)) (rfl) (fun j u _ h=>h) HJ.out.d,HN.out.other (by decide) (by decide) (by decide) (by decide)⟩
  ·
   have e1:x.tmps[1]?.getD undef=.pointer (some ⟨w.heap.size,0,none⟩):=ev_tmp (hI.out 1 (fun i hi=>slBk_far 1 (by omega) (by omega) i hi))
   have HN:=hidP hN
   clear hN
   clear hi hI
   refine op9 fun K hK=>?_
   go_simp
   exact hK.out _ _ ⟨HJ.out.put (by omega) (lE rfl) (slBk_inj _ (by omega)) (rfl) (fun j u _ h=>h) HJ.out.d,HN.out.other (by decide) (by decide) (by decide) (by decide)⟩
  ·
   have g2:GBk w.heap.size w.heap.size b1 b2 c1 c2 t gs ps y 2 (x.tmps.getD 5 undef):=hI.good 2 (by omega) (wO hi)
   have e1:x.tmps[5]?.getD undef=.pointer (some ⟨w.heap.size,1,none⟩):=ev_tmp g2
   have k1:y.cell? ⟨w.heap.size,1,none⟩=some (.slice b1 gs.length c1):=K0.out y hI.d 1
   have HN:=hidP hN
   clear hN
   clear hi hI
   refine op9 fun K hK=>?_
   go_simp
   exact hK.out _ _ ⟨HJ.out.put (by omega) (lE rfl) (slBk_inj _ (by omega)) (rfl) (fun j u _ h=>h) HJ.out.d,HN.out.other (by decide) (by decide) (by decide) (by decide)⟩
  ·
   have g3:GBk w.heap.size w.heap.size b1 b2 c1 c2 t gs ps y 3 (x.tmps.getD 6 undef):=hI.good 3 (by omega) (wO hi)
   have e1:x.tmps[6]?.getD undef=.slice b1 gs.length c1:=ev_tmp g3
   have HN:=hidP hN
   clear hN
   clear hi hI
   refine op9 fun K hK=>?_
   go_simp
   refine (BG.out y HD.out).mono ?_
   rintro e y' ⟨rfl,o9,b9⟩
   have hz9:y.heap.size < y'.heap.size:=own_lt o9
   have hw9:w.heap.size≤y.heap.size:=(bl_trans B0.out HD.out).size
   exact hK.out _ _ ⟨HJ.out.put (by omega) (lE rfl) (slBk_inj _ (by omega)) (⟨y.heap.size,_,rfl,hw9,hz9,o9,HK1.out⟩) (fun j u _ h=>GBk.keep b9 j u h) (bl_trans HD.out b9),Nq.first (by decide) (by decide) (by rw [HJ.out.sz]; exact lE rfl) (fun hl9 e9=>by obtain ⟨m9,n9,h9,-,z9,-⟩:=HJ.out.good 7 (by omega) hl9; rw [h9] at e9; injection e9 with e9; injection e9 with e9; omega)⟩
  ·
   have e1:x.tmps[1]?.getD undef=.pointer (some ⟨w.heap.size,0,none⟩):=ev_tmp (hI.out 1 (fun i hi=>slBk_far 1 (by omega) (by omega) i hi))
   have HN:=hidP hN
   clear hN
   clear hi hI
   refine op9 fun K hK=>?_
   go_simp
   exact hK.out _ _ ⟨HJ.out.put (by omega) (lE rfl) (slBk_inj _ (by omega)) (rfl) (fun j u _ h=>h) HJ.out.d,HN.out.other (by decide) (by decide) (by decide) (by decide)⟩
  ·
   have g5:GBk w.heap.size w.heap.size b1 b2 c1 c2 t gs ps y 5 (x.tmps.getD 8 undef):=hI.good 5 (by omega) (wO hi)
   have e1:x.tmps[8]?.getD undef=.pointer (some ⟨w.heap.size,2,none⟩):=ev_tmp g5
   have k1:y.cell? ⟨w.heap.size,2,none⟩=some (.slice b2 ps.length c2):=K0.out y hI.d 2
   have HN:=hidP hN
   clear hN
   clear hi hI
   refine op9 fun K hK=>?_
   go_simp
   exact hK.out _ _ ⟨HJ.out.put (by omega) (lE rfl) (slBk_inj _ (by omega)) (rfl) (fun j u _ h=>h) HJ.out.d,HN.out.other (by decide) (by decide) (by decide) (by decide)⟩
  ·
   have g6:GBk w.heap.size w.heap.size b1 b2 c1 c2 t gs ps y 6 (x.tmps.getD 9 undef):=hI.good 6 (by omega) (wO hi)
   have e1:x.tmps[9]?.getD undef=.slice b2 ps.length c2:=ev_tmp g6
   have HN:=hidP hN
   clear hN
   clear hi hI
   refine op9 fun K hK=>?_
   go_simp
   refine (BQ.out y HD.out).mono ?_
   rintro e y' ⟨rfl,o9,b9⟩
   have hz9:y.heap.size < y'.heap.size:=own_lt o9
   have hw9:w.heap.size≤y.heap.size:=(bl_trans B0.out HD.out).size
   exact hK.out _ _ ⟨HJ.out.put (by omega) (lE rfl) (slBk_inj _ (by omega)) (⟨y.heap.size,_,rfl,hw9,hz9,o9,HK2.out⟩) (fun j u _ h=>GBk.keep b9 j u h) (bl_trans HD.out b9),Nq.second (by decide) (by decide) (by rw [HJ.out.sz]; exact lE rfl) (fun hl9 e9=>by obtain ⟨m9,n9,h9,-,z9,-⟩:=HJ.out.good 4 (by omega) hl9; rw [h9] at e9; injection e9 with e9; injection e9 with e9; omega)⟩
  ·
   have g1:GBk w.heap.size w.heap.size b1 b2 c1 c2 t gs ps y 1 (x.tmps.getD 4 undef):=hI.good 1 (by omega) (wO hi)
   have g4:GBk w.heap.size w.heap.size b1 b2 c1 c2 t gs ps y 4 (x.tmps.getD 7 undef):=hI.good 4 (by omega) (wO hi)
   have g7:GBk w.heap.size w.heap.size b1 b2 c1 c2 t gs ps y 7 (x.tmps.getD 10 undef):=hI.good 7 (by omega) (wO hi)
   have e1:x.tmps[4]?.getD undef=.int .i64 t:=ev_tmp g1
   obtain ⟨m1,n1,h1,z1,z1',o1,hn1⟩:=g4
   obtain ⟨m2,n2,h2,z2,z2',o2,hn2⟩:=g7
   have hne9:m1≠m2:=fun e=>hN (wO hi) (wO hi) (by show x.tmps.getD 7 undef=x.tmps.getD 10 undef; rw [h1,h2,e])
   have e2:x.tmps[7]?.getD undef=_:=ev_tmp h1
   have e3:x.tmps[10]?.getD undef=_:=ev_tmp h2
   have O1:=hidP o1
   have O2:=hidP o2
   clear h1 h2 g1 o1 o2
   have HN:=hidP hN
   clear hN
   clear hi hI
   refine op9 fun K hK=>?_
   go_simp
   exact hK.out _ _ ⟨HJ.out.put (by omega) (lE rfl) (slBk_inj _ (by omega)) (⟨m1,m2,n1,n2,rfl,⟨z1,z1'⟩,⟨z2,z2'⟩,O1.out,O2.out,hne9,hn2,hn1⟩) (fun j u _ h=>h) HJ.out.d,HN.out.other (by decide) (by decide) (by decide) (by decide)⟩
  ·
   have g8:GBk w.heap.size w.heap.size b1 b2 c1 c2 t gs ps y 8 (x.tmps.getD 11 undef):=hI.good 8 (by omega) (wO hi)
   obtain ⟨m1,m2,n1,n2,h1,⟨z1,z1'⟩,⟨z2,z2'⟩,o1,o2,hne9,hn2,hn1⟩:=g8
   have e1:x.tmps[11]?.getD undef=_:=ev_tmp h1
   have O1:=hidP o1
   have O2:=hidP o2
   clear h1 o1 o2
   have HN:=hidP hN
   clear hN
   clear hi hI
   refine op9 fun K hK=>?_
   go_simp
   have hbl:Below y.heap.size y (y.alloc (.cells #[.int .i64 t,.map (some m1),.map (some m2)] 93)):=bl_alloc bR _
   have hw9:w.heap.size≤y.heap.size:=(bl_trans B0.out HD.out).size
   exact hK.out _ _ ⟨HJ.out.put (by omega) (lE rfl) (slBk_inj _ (by omega)) (⟨y.heap.size,m1,m2,rfl,⟨hw9,z1,z2,by omega,by omega⟩,⟨fun k=>by simp [go_sem],fun k=>by simp [go_sem],by simp,⟨n1,G.mapv_below O1.out hbl⟩,⟨n2,Pr.mapv_below O2.out hbl⟩,hne9⟩,⟨n2,hn2,Pr.mapv_below O2.out hbl⟩,n1,hn1,G.mapv_below O1.out hbl⟩) (fun j u _ h=>GBk.keep hbl j u h) (bl_trans HD.out hbl),HN.out.other (by decide) (by decide) (by decide) (by decide)⟩
  have g9:GBk w.heap.size w.heap.size b1 b2 c1 c2 t gs ps y 9 (x.tmps.getD 12 undef):=hI.good 9 (by omega) (wO hi)
  obtain ⟨d,m1,m2,h1,hz,hB,hNB⟩:=g9
  have e1:x.tmps[12]?.getD undef=_:=ev_tmp h1
  have HB:=hidP hB
  have HNB:=hidP hNB
  clear h1 hB hNB
  have HN:=hidP hN
  clear hN
  clear hi hI
  refine op9 fun K hK=>?_
  go_simp
  exact hK.out _ _ ⟨HJ.out.put (by omega) (lE rfl) (slBk_inj _ (by omega)) (⟨d,m1,m2,rfl,hz,HB.out,HNB.out⟩) (fun j u _ h=>h) HJ.out.d,HN.out.other (by decide) (by decide) (by decide) (by decide)⟩
theorem noT {b:Bool} (h:b=true→False):b=false:=by
 cases b with
 | false=>rfl
 | true=>exact (h rfl).elim
theorem setT_ne {l:Array Bool} {i j:Nat} (h:j≠i):(l.setIfInBounds i true).getD j false=l.getD j false:=by
 simp only [Array.getD_eq_getD_getElem?]
 rw [Array.getElem?_setIfInBounds_ne (fun e=>h e.symm)]
theorem setT_same {l:Array Bool} {i:Nat} (h:i < l.size):(l.setIfInBounds i true).getD i false=true:=by
 simp only [Array.getD_eq_getD_getElem?]
 rw [Array.getElem?_setIfInBounds_self_of_lt h,Option.getD_some]
theorem openT {l:Array Bool} {i:Nat} (ho:l.getD i true=false) (h:l.getD i false=true):False:=by
 simp only [Array.getD_eq_getD_getElem?] at ho h
 cases e:l[i]? with
 | none=>rw [e] at ho; cases ho
 | some b=>rw [e] at ho h; simp at ho h; rw [h] at ho; cases ho
structure It (sl:Nat→Nat) (n se:Nat) (ops:Array Oper) (a0:Act) (G:World→Nat→Value→Prop) (D:World→Prop) (E:Value→World→Prop) (listed:Array Bool) (a:Act) (w:World):Prop where
 df:a.defers=a0.defers
 sz:a.tmps.size=a0.tmps.size
 out:∀ k,(∀ i,i < n→sl i≠k)→a.tmps.getD k undef=a0.tmps.getD k undef
 lz:listed.size=n+1
 tr:∀ i j,waits .any ops i j=true→listed.getD i false=true→listed.getD j false=true
 good:∀ i,i < n→listed.getD i false=true→listed.getD n false=false→G w i (a.tmps.getD (sl i) undef)
 d:listed.getD n false=false→D w
 e:listed.getD n false=true→E (a.tmps.getD se undef) w
section
variable {sl:Nat→Nat} {n se:Nat} {ops:Array Oper} {a0:Act} {G:World→Nat→Value→Prop} {D:World→Prop} {E:Value→World→Prop} {listed:Array Bool} {a:Act} {w w':World} {i:Nat} {v:Value}
theorem trT (hr:i∈Region.ready .any ops listed) (hi:i < listed.size) (h:∀ i j,waits .any ops i j=true→listed.getD i false=true→listed.getD j false=true) :
  ∀ k j,waits .any ops k j=true→(listed.setIfInBounds i true).getD k false=true→(listed.setIfInBounds i true).getD j false=true:=by
 intro k j hw hk
 by_cases ej:j=i
 · subst ej; exact setT_same hi
 rw [setT_ne ej]
 by_cases ek:k=i
 · subst ek; exact waits_of hr hw
 · rw [setT_ne ek] at hk; exact h k j hw hk
theorem It.put (h:It sl n se ops a0 G D E listed a w) (hr:i∈Region.ready .any ops listed) (hi:i < n) (hn:listed.getD n false=false) (hlt:sl i < a0.tmps.size) (hinj:∀ j,j < n→sl j=sl i→j=i) (hg:G w' i v)
  (hk:∀ j u,j < n→G w j u→G w' j u) (hd:D w'):It sl n se ops a0 G D E (listed.setIfInBounds i true) (a.put (some (sl i)) v) w':=by
 have hsz:=h.sz
 have hlz:=h.lz
 have hnn:(listed.setIfInBounds i true).getD n false=false:=by rw [setT_ne (by omega)]; exact hn
 refine ⟨h.df,by simpa [Act.put] using hsz, ?_,by simpa using hlz,trT hr (by omega) h.tr, ?_,fun _=>hd,fun e=>by rw [hnn] at e; cases e⟩
 ·
  intro k hko
  rw [← h.out k hko]
  simp only [Act.put,Array.getD_eq_getD_getElem?]
  rw [Array.getElem?_setIfInBounds_ne (hko i hi)]
 ·
  intro j hj hl _
  by_cases e:j=i
  ·
   subst e
   simp only [Act.put,Array.getD_eq_getD_getElem?]
   rw [Array.getElem?_setIfInBounds_self_of_lt (by omega)]
   exact hg
  rw [setT_ne e] at hl
  have h1:=hk j _ hj (h.good j hj hl hn)
  simp only [Act.put,Array.getD_eq_getD_getElem?] at h1 ⊢
  rw [Array.getElem?_setIfInBounds_ne (fun e'=>e (hinj j hj e'.symm))]
  exact h1
theorem It.same (h:It sl n se ops a0 G D E listed a w) (hr:i∈Region.ready .any ops listed) (hi:i < n) (hn:listed.getD n false=false) (hlt:sl i < a0.tmps.size) (hinj:∀ j,j < n→sl j=sl i→j=i) (hg:G w i v):It sl n se ops a0 G D E (listed.setIfInBounds i true) (a.put (some (sl i)) v) w :=
 h.put hr hi hn hlt hinj hg (fun _ _ _ h=>h) (h.d hn)
theorem It.last (h:It sl n se ops a0 G D E listed a w) (hr:n∈Region.ready .any ops listed) {u:Value} (he:E (a.tmps.getD se undef) w'):It sl n se ops a0 G D E (listed.setIfInBounds n true) (a.put none u) w':=by
 have hlz:=h.lz
 have hnn:(listed.setIfInBounds n true).getD n false=true:=setT_same (by omega)
 exact ⟨h.df,h.sz,h.out,by simpa using hlz,trT hr (by omega) h.tr,(fun j hj hl hc=>by rw [hnn] at hc; cases hc),(fun e=>by rw [hnn] at e; cases e),fun _=>he⟩
theorem It.shut (h:It sl n se ops a0 G D E listed a w) (ho:listed.getD i true=false) (hw:waits .any ops n i=true∨n=i):listed.getD n false=false:=by
 cases hx:listed.getD n false with
 | false=>rfl
 | true =>
  rcases hw with hw | rfl
  · exact (openT ho (h.tr n i hw hx)).elim
  exact (openT ho hx).elim
theorem It.shut2 {m:Nat} (h:It sl n se ops a0 G D E listed a w) (ho:listed.getD i true=false) (hw:waits .any ops n m=true) (hm:waits .any ops m i=true):listed.getD n false=false:=by
 cases hx:listed.getD n false with
 | false=>rfl
 | true=>exact (openT ho (h.tr m i hm (h.tr n m hw hx))).elim
end
theorem reg_invT {P:Program} {ops:Array Oper} {Q:Exit→Act→World→Prop} {a0:Act} {w0:World} (sl:Nat→Nat) (n se:Nat) (G:World→Nat→Value→Prop) (D:World→Prop) (E:Value→World→Prop)
  (hd:depsOk ops=true) (hops:ops.size=n+1) (hD:D w0)
  (done:∀ a y,a.defers=a0.defers→a.tmps.size=a0.tmps.size→(∀ k,(∀ i,i < n→sl i≠k)→a.tmps.getD k undef=a0.tmps.getD k undef)→E (a.tmps.getD se undef) y→Q .normal a y)
  (step:∀ listed x y i,It sl n se ops a0 G D E listed x y→i∈Region.ready .any ops listed→i < n+1→wpOp P ops Q i (It sl n se ops a0 G D E (listed.setIfInBounds i true)) x y) :
  wpAny P .any ops Q ops.size (Array.replicate ops.size false) a0 w0:=by
 have hrep:openOf (Array.replicate ops.size false)≤ops.size:=by
  unfold openOf
  exact Nat.le_trans List.countP_le_length (by simp)
 have hno:∀ k j,(Array.replicate k false).getD j false=false:=fun k j=>by
  simp only [Array.getD_eq_getD_getElem?,Array.getElem?_replicate]
  split <;> rfl
 refine wpAny_inv (It sl n se ops a0 G D E) (fun listed x y i hI hi=>step listed x y i hI hi (by have:=List.mem_range.1 (List.mem_filter.1 hi).1; omega)) ?_ _ _ _ _ hrep ?_
 ·
  intro listed x y hI hr
  have hall:=all_listed hd hr (by rw [hI.lz,hops])
  exact done x y hI.df hI.sz hI.out (hI.e (hall n (by omega)))
 · exact ⟨rfl,rfl,fun _ _=>rfl,by simp [hops],(fun i j _ h=>by rw [hno] at h; cases h),(fun i _ h=>by rw [hno] at h; cases h),(fun _=>hD),(fun h=>by rw [hno] at h; cases h)⟩
def chT (ops:Array Oper):List Nat→Bool
 | a :: b :: l=>waits .any ops a b && chT ops (b :: l)
 | _=>true
theorem ntr {ops:Array Oper} {l:Array Bool} {i:Nat} (tr:∀ i j,waits .any ops i j=true→l.getD i false=true→l.getD j false=true) (ho:l.getD i true=false):∀ (c:List Nat) (k:Nat),chT ops (k :: c)=true→(k :: c).getLast?=some i→l.getD k false=false
 | [],k,_,e=>by simp at e; subst e; exact noT (fun h=>openT ho h)
 | b :: c,k,hc,e=>by
  simp only [chT,Bool.and_eq_true] at hc
  have h1:=ntr tr ho c b hc.2 (by rw [← e]; rfl)
  exact noT (fun h=>by rw [tr k b hc.1 h] at h1; cases h1)
end Go.Proofs.YtcjhlhijdacinaaGreatDoor
namespace Go.Proofs.YtcjhlhijdacinaaGreatDoor
open Go.RowKit Go.Maps Go.WideMaps
set_option linter.unusedVariables false
def OG (B:Nat) (gs:List G.GrantD) (w:World) (v:Value):Prop:=w.ownsRow B 40 5 v gs.length (G.flatR gs)
def OQ (B:Nat) (ps:List Pr.PlRaw) (w:World) (v:Value):Prop:=w.ownsRow B 54 3 v ps.length (Pr.flatR ps)
theorem OG.keep {B:Nat} {gs:List G.GrantD} {w w':World} {v:Value} (h:OG B gs w v) (hb:Below w.heap.size w w'):OG B gs w' v:=G.owns_below h hb
theorem OQ.keep {B:Nat} {gs:List Pr.PlRaw} {w w':World} {v:Value} (h:OQ B gs w v) (hb:Below w.heap.size w w'):OQ B gs w' v:=Pr.owns_below h hb
theorem OG.shape {B:Nat} {gs:List G.GrantD} {w:World} {v:Value} (h:OG B gs w v):∃ a c,v=.slice a gs.length c:=(G.Sl.of_owns h).shape
theorem OQ.shape {B:Nat} {gs:List Pr.PlRaw} {w:World} {v:Value} (h:OQ B gs w v):∃ a c,v=.slice a gs.length c:=(Pr.Sl.of_owns h).shape
def Ld0 (B:Nat) (t:Int) (gs:List G.GrantD) (ps:List Pr.PlRaw) (w:World) (v:Value):Prop:=∃ a1 c1 a2 c2,v=.agg #[.int .i64 t,.slice a1 gs.length c1,.slice a2 ps.length c2]∧OG B gs w (.slice a1 gs.length c1)∧OQ B ps w (.slice a2 ps.length c2)
theorem Ld0.keep {B:Nat} {t:Int} {gs:List G.GrantD} {ps:List Pr.PlRaw} {w w':World} {v:Value} (h:Ld0 B t gs ps w v) (hb:Below w.heap.size w w'):Ld0 B t gs ps w' v:=by
 obtain ⟨a1,c1,a2,c2,h1,h2,h3⟩:=h
 exact ⟨a1,c1,a2,c2,h1,h2.keep hb,h3.keep hb⟩
def Bx (B:Nat) (w:World) (v:Value):Prop:=∃ lb,v=.pointer (some ⟨lb,0,none⟩)∧B≤lb∧lb < w.heap.size∧w.heap[lb]?=some (.cells #[.int .i64 0,.slice none 0 0,.slice none 0 0] 26 (0,0))
theorem Bx.keep {B:Nat} {w w':World} {v:Value} (h:Bx B w v) (hb:Below w.heap.size w w'):Bx B w' v:=by
 obtain ⟨lb,h1,h2,h3,h4⟩:=h
 exact ⟨lb,h1,h2,Nat.lt_of_lt_of_le h3 hb.size,(hb.block lb h3).trans h4⟩
def slTo:Nat→Nat
 | 0=>6
 | 1=>7
 | 2=>8
 | 3=>9
 | 4=>10
 | 5=>11
 | 6=>12
 | 7=>13
 | 8=>14
 | 9=>15
 | 10=>16
 | 11=>17
 | 12=>18
 | 13=>19
 | 14=>20
 | 15=>3
 | _=>0
theorem slTo_inj (i:Nat) (hi:i < 16):∀ j,j < 16→slTo j=slTo i→j=i:=by
 have h:∀ a:_root_.Fin 16,∀ b:_root_.Fin 16,slTo b.1=slTo a.1→b.1=a.1:=by decide
 intro j hj e
 exact h ⟨i,hi⟩ ⟨j,hj⟩ e
theorem slTo_far:∀ j,j≠3→(j < 6∨6+15≤j)→∀ i,i < 16→slTo i≠j:=by
 intro j h1 h2 i hi
 match i,hi with
 | 0,_=>show 6≠j; omega
 | 1,_=>show 7≠j; omega
 | 2,_=>show 8≠j; omega
 | 3,_=>show 9≠j; omega
 | 4,_=>show 10≠j; omega
 | 5,_=>show 11≠j; omega
 | 6,_=>show 12≠j; omega
 | 7,_=>show 13≠j; omega
 | 8,_=>show 14≠j; omega
 | 9,_=>show 15≠j; omega
 | 10,_=>show 16≠j; omega
 | 11,_=>show 17≠j; omega
 | 12,_=>show 18≠j; omega
 | 13,_=>show 19≠j; omega
 | 14,_=>show 20≠j; omega
 | 15,_=>show 3≠j; omega
 | m+16,h=>exact absurd h (by omega)
def GTo (d m1 m2 B:Nat) (t:Int) (gs:List G.GrantD) (ps:List Pr.PlRaw) (w:World):Nat→Value→Prop
 | 0,v=>v=.pointer (some ⟨d,0,none⟩)
 | 1,v=>v=.pointer (some ⟨d,0,none⟩)
 | 2,v=>v=.pointer (some ⟨d,0,none⟩)
 | 3,v=>v=.int .i64 t
 | 4,v=>v=.pointer (some ⟨d,0,none⟩)
 | 5,v=>v=.pointer (some ⟨d,0,none⟩)
 | 6,v=>v=.pointer (some ⟨d,1,none⟩)
 | 7,v=>v=.map (some m1)
 | 8,v=>OG B gs w v
 | 9,v=>v=.pointer (some ⟨d,0,none⟩)
 | 10,v=>v=.pointer (some ⟨d,0,none⟩)
 | 11,v=>v=.pointer (some ⟨d,2,none⟩)
 | 12,v=>v=.map (some m2)
 | 13,v=>OQ B ps w v
 | 14,v=>Ld0 B t gs ps w v
 | 15,v=>Bx B w v
 | _,_=>True
theorem GTo.keep {d m1 m2 B:Nat} {t:Int} {gs:List G.GrantD} {ps:List Pr.PlRaw} {w w':World} (hb:Below w.heap.size w w'):∀ j v,GTo d m1 m2 B t gs ps w j v→GTo d m1 m2 B t gs ps w' j v
 | 0,_,h=>h
 | 1,_,h=>h
 | 2,_,h=>h
 | 3,_,h=>h
 | 4,_,h=>h
 | 5,_,h=>h
 | 6,_,h=>h
 | 7,_,h=>h
 | 8,_,h=>OG.keep h hb
 | 9,_,h=>h
 | 10,_,h=>h
 | 11,_,h=>h
 | 12,_,h=>h
 | 13,_,h=>OQ.keep h hb
 | 14,_,h=>Ld0.keep h hb
 | 15,_,h=>Bx.keep h hb
 | _+16,_,h=>h
structure Ld (w:World) (B lb:Nat) (t:Int) (gs:List G.GrantD) (ps:List Pr.PlRaw) (s1 s2:Value):Prop where
 c:w.rangeAt lb 0 [.int .i64 t,s1,s2]
 f:w.there lb 0 3
 z:B≤lb∧lb < w.heap.size
 g:OG B gs w s1
 p:OQ B ps w s2
 n1:s1.ownBlock≠some lb
 n2:s2.ownBlock≠some lb
theorem og_ne {B:Nat} {gs:List G.GrantD} {w:World} {v:Value} {lb:Nat} {c0:Array Value} (h:OG B gs w v) (hl:w.heap[lb]?=some (.cells c0 26 (0,0))):v.ownBlock≠some lb:=by
 intro e
 obtain ⟨-,⟨rfl,-⟩ | ⟨g,cap,cur,rfl,-,hg,-⟩⟩:=h
 · cases e
 have e1:g=lb:=Option.some.inj e
 rw [e1,hl] at hg
 have e2:26=40:=by
  have:=Option.some.inj hg
  injection this
 exact absurd e2 (by decide)
theorem oq_ne {B:Nat} {gs:List Pr.PlRaw} {w:World} {v:Value} {lb:Nat} {c0:Array Value} (h:OQ B gs w v) (hl:w.heap[lb]?=some (.cells c0 26 (0,0))):v.ownBlock≠some lb:=by
 intro e
 obtain ⟨-,⟨rfl,-⟩ | ⟨g,cap,cur,rfl,-,hg,-⟩⟩:=h
 · cases e
 have e1:g=lb:=Option.some.inj e
 rw [e1,hl] at hg
 have e2:26=54:=by
  have:=Option.some.inj hg
  injection this
 exact absurd e2 (by decide)
theorem OG.grown {B:Nat} {gs:List G.GrantD} {w w':World} {v:Value} {row:Option Nat} (h:OG B gs w v) (hg:w.grownBy w' row) (hne:v.ownBlock=none∨v.ownBlock≠row):OG B gs w' v:=by
 obtain ⟨h0,h1 | ⟨g,cap,cur,rfl,hb,hgg,hr⟩⟩:=h
 · exact ⟨h0,Or.inl h1⟩
 have hn:some g≠row:=by simpa [Value.ownBlock] using hne
 exact ⟨h0,Or.inr ⟨g,cap,cur,rfl,hb,(hg.block g (Array.getElem?_eq_some_iff.1 hgg).1 hn).trans hgg,hr⟩⟩
theorem OQ.grown {B:Nat} {gs:List Pr.PlRaw} {w w':World} {v:Value} {row:Option Nat} (h:OQ B gs w v) (hg:w.grownBy w' row) (hne:v.ownBlock=none∨v.ownBlock≠row):OQ B gs w' v:=by
 obtain ⟨h0,h1 | ⟨g,cap,cur,rfl,hb,hgg,hr⟩⟩:=h
 · exact ⟨h0,Or.inl h1⟩
 have hn:some g≠row:=by simpa [Value.ownBlock] using hne
 exact ⟨h0,Or.inr ⟨g,cap,cur,rfl,hb,(hg.block g (Array.getElem?_eq_some_iff.1 hgg).1 hn).trans hgg,hr⟩⟩
theorem there_land {w:World} {lb:Nat} (h:w.heap[lb]?=some (.cells #[.int .i64 0,.slice none 0 0,.slice none 0 0] 26 (0,0))):w.there lb 0 3:=fun j hj=>by
 refine ⟨?_, ?_⟩
 · simp [World.cell?,h]; omega
 simp [World.frozen?,h]
theorem ld_put {w:World} {B lb:Nat} {t:Int} {gs:List G.GrantD} {ps:List Pr.PlRaw} {s1 s2:Value} (hz:B≤lb∧lb < w.heap.size) (hl:w.heap[lb]?=some (.cells #[.int .i64 0,.slice none 0 0,.slice none 0 0] 26 (0,0))) (hg:OG B gs w s1) (hp:OQ B ps w s2):Ld (w.setCells lb 0 [.int .i64 t,s1,s2]) B lb t gs ps s1 s2:=by
 have he:Ex lb w (w.setCells lb 0 [.int .i64 t,s1,s2]):=(Ex.refl _ _).cells _ _
 have hgr:=(⟨he.os,he.tape,he.output,he.size,fun k hk hne=>he.block k hk (fun e=>hne (by rw [e]))⟩:w.grownBy _ (some lb))
 have n1:=og_ne hg hl
 have n2:=oq_ne hp hl
 exact ⟨World.rangeAt_setCells_same w lb 0 _ (there_land hl),World.there_setCells (there_land hl) lb 0 _,⟨hz.1,Nat.lt_of_lt_of_le hz.2 he.size⟩,hg.grown hgr (Or.inr n1),hp.grown hgr (Or.inr n2),n1,n2⟩
theorem size_front (c:UInt8) (t:ByteArray):(({ data:=#[c] }:ByteArray)++t).size=1+t.size:=by rw [ByteArray.size_append']; rfl
theorem build_byte (n:Int) (w:World):Sem.run Tryz.prog (Instr.buildSlice 22 1 #[(0,.int .u8 n)]) w=.ok (.slice (some ⟨w.heap.size,0,none⟩) 1 1) (w.alloc (.cells #[.int .u8 n] 5)):=by kernel_rfl
theorem conv_byte (n:Int) (w:World):Sem.run Tryz.prog (convert 22 9 (.slice (some ⟨w.heap.size,0,none⟩) 1 1)) (w.alloc (.cells #[.int .u8 n] 5))=.ok (.string ⟨#[UInt8.ofNat n.toNat]⟩) (w.alloc (.cells #[.int .u8 n] 5)):=by
 rw [run_convert_bytes_string _ _ _ 5 _ _ _ Tryz.underlying22 Tryz.underlying5 Tryz.underlying9]
 rw [run_bytesToString _ _ _ _ [n] (by simp [loadCells,go_sem])]
 rfl
def Sl (w:World) (v:Value) (l:List RunD) (B:Nat):Prop:=(v=.slice none 0 0∧l=[])∨∃ g cap,v=.slice (some ⟨g,0,none⟩) l.length cap∧B≤g∧g < w.heap.size∧RowsAt w g 0 l∧w.there g 0 (l.length * 11)
theorem Sl.grown {w w':World} {v:Value} {l:List RunD} {B:Nat} {row:Option Nat} (h:Sl w v l B) (hg:w.grownBy w' row) (hne:v.ownBlock=none∨v.ownBlock≠row):Sl w' v l B:=by
 rcases h with h | ⟨g,cap,rfl,h1,h2,h3,h4⟩
 · exact Or.inl h
 have hn:some g≠row:=by simpa [Value.ownBlock] using hne
 have hc:∀ o,w'.cell? ⟨g,o,none⟩=w.cell? ⟨g,o,none⟩:=fun o=>World.cell?_of_block (w:=w) (a:=⟨g,o,none⟩) (hg.block g h2 hn)
 have hfz:∀ o,w'.frozen? ⟨g,o,none⟩=w.frozen? ⟨g,o,none⟩:=fun o=>World.frozen?_of_block (w:=w) (a:=⟨g,o,none⟩) (hg.block g h2 hn)
 exact Or.inr ⟨g,cap,rfl,h1,Nat.lt_of_lt_of_le h2 hg.size,fun k r hk j v hj=>(hc _).trans (h3 k r hk j v hj),fun j hj=>⟨by rw [hc]; exact (h4 j hj).1,by rw [hfz]; exact (h4 j hj).2⟩⟩
theorem Sl.keep {w w':World} {v:Value} {l:List RunD} {B:Nat} (h:Sl w v l B) (hb:Below w.heap.size w w'):Sl w' v l B :=
 h.grown (row:=none) ⟨hb.os,hb.tape,hb.output,hb.size,fun k hk _=>hb.block k hk⟩ (by cases hv:v.ownBlock <;> simp)
theorem Sl.lt {w:World} {v:Value} {l:List RunD} {B:Nat} (h:Sl w v l B):∀ g,v.ownBlock=some g→B≤g∧g < w.heap.size:=by
 rcases h with ⟨rfl,-⟩ | ⟨g,cap,rfl,h1,h2,-⟩
 · intro g hg; simp [Value.ownBlock] at hg
 intro g' hg; simp [Value.ownBlock] at hg; subst hg; exact ⟨h1,h2⟩
theorem ex_grown {w w':World} {kr:Nat} (h:Ex kr w w'):w.grownBy w' (some kr):=⟨h.os,h.tape,h.output,h.size,fun k hk hne=>h.block k hk (fun e=>hne (by rw [e]))⟩
theorem flat_cells {w:World} {g:Nat} {l:List RunD} (h:RowsAt w g 0 l):∀ j u,(flatR l)[j]?=some u→w.cell? ((⟨g,0,none⟩:Addr).add j)=some u:=by
 intro j u hj
 have hlt:j < l.length * 11:=by rw [← flatR_len]; exact (List.getElem?_eq_some_iff.1 hj).1
 have hk:j / 11 < l.length:=by omega
 have hr:j % 11 < 11:=Nat.mod_lt _ (by decide)
 have e:j / 11 * 11+j % 11=j:=by omega
 have h1:=flatR_at l (j / 11) l[j / 11] (List.getElem?_eq_getElem hk) (j % 11) hr
 rw [e,hj] at h1
 have h2:=h (j / 11) l[j / 11] (List.getElem?_eq_getElem hk) (j % 11) u h1.symm
 rw [Addr.add_mid]
 rw [show 0+j / 11 * 11+j % 11=0+j from by omega] at h2
 exact h2
end Go.Proofs.YtcjhlhijdacinaaGreatDoor
