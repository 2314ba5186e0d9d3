import Derived.Test.YtcjhlhijdacinaaGreatDoorJ29
import Derived.Test.YtcjhlhijdacinaaGreatDoorJ16
namespace Go.Proofs.YtcjhlhijdacinaaGreatDoor
open Go.RowKit
set_option linter.unusedVariables false
def arr2 (m n:Int):Array Value:=#[.int .u8 m,.int .u8 n]
theorem bld2b (m n:Int) (w:World):Sem.run Tryz.prog (Instr.buildSlice 22 2 #[(0,.int .u8 m),(1,.int .u8 n)]) w=.ok (.slice (some ⟨w.heap.size,0,none⟩) 2 2) (w.alloc (.cells (arr2 m n) 5)):=by kernel_rfl
theorem conv_2 (g:Nat) (m n:Int) (w:World) (h:w.heap[g]?=some (.cells (arr2 m n) 5 (0,0))):Sem.run Tryz.prog (convert 22 9 (.slice (some ⟨g,0,none⟩) 2 2)) w=.ok (.string ⟨#[UInt8.ofNat m.toNat,UInt8.ofNat n.toNat]⟩) w:=by
 have h0:w.cell? ⟨g,0,none⟩=some (.int .u8 m):=blk_cells h 0 _ rfl
 have h1:w.cell? ⟨g,1,none⟩=some (.int .u8 n):=blk_cells h 1 _ rfl
 rw [run_convert_bytes_string _ _ _ 5 _ _ _ Tryz.underlying22 Tryz.underlying5 Tryz.underlying9]
 rw [run_bytesToString _ _ _ _ [m,n] (by simp [loadCells,go_sem,h0,h1])]
 rfl
def B2 (Z:Nat) (y:World) (v:Value):Prop:=∃ b m n,v=.slice (some ⟨b,0,none⟩) 2 2∧Z≤b∧y.heap[b]?=some (.cells (arr2 m n) 5 (0,0))
theorem B2.keep {Z:Nat} {y y':World} {v:Value} (h:B2 Z y v) (hF:Fa Z y y'):B2 Z y' v:=by
 obtain ⟨b,m,n,h1,h2,h3⟩:=h
 exact ⟨b,m,n,h1,h2,(hF.block b (some_lt h3) (by omega)).trans h3⟩
theorem OGz.ex {X B:Nat} {gs:List G.GrantD} {y y':World} {v:Value} (h:OGz B gs y v) (he:Ex X y y') (hX:∀ g,v.ownBlock=some g→g≠X):OGz B gs y' v:=h.imp (fun h=>OG.ex h he hX) id
def LAn:List Nat:=[28,29,30,31,32,33,34,35,36,37,38,39,40,41,42,43,44,45,46,47,48,49,100022]
def GAn (Z kr lb B k:Nat) (t:Int) (gs:List G.GrantD) (qs:List P.PlaceD) (s1 s2:Value) (y:World) (V:Nat→Value):Nat→Prop
 | 0=>V 0=.pointer (some ⟨lb,1,none⟩)
 | 1=>V 1=s1
 | 2=>V 2=.int .i64 (k:Int)
 | 3=>∃ z,V 3=.int .i64 z
 | 4=>∃ z,V 4=.int .i64 z
 | 5=>∃ z,V 5=.int .u8 z
 | 6=>V 6=.int .i64 (k:Int)
 | 7=>∃ z,V 7=.int .i64 z
 | 8=>∃ z,V 8=.int .i64 z
 | 9=>∃ z,V 9=.int .u8 z
 | 10=>B2 Z y (V 10)
 | 11=>Tx 2 (V 11)
 | 12=>Tx 4 (V 12)
 | 13=>V 13=.pointer (some ⟨lb,0,none⟩)
 | 14=>V 14=.int .i64 t
 | 15=>V 15=.pointer (some ⟨kr,0,none⟩)
 | 16=>Nm 0 (3 - 1) (V 16)
 | 17=>∃ z,V 17=.int .i64 z
 | 18=>∃ g:G.GrantD,V 18=.agg #[.string g.h,.string g.b,.string g.c,.int .i64 g.t,.int .i64 g.u]∧Sg g
 | 19=>G1 Z y (V 19)
 | 20=>Ap lb B gs qs s2 y (V 20)
 | 21=>V 21=.pointer (some ⟨lb,1,none⟩)
 | 22=>∃ v,Ap lb B gs qs s2 y v∧y.rangeAt lb 0 [.int .i64 t,v,s2]∧y.there lb 0 3
 | _=>True
theorem GAn.keep {Z kr lb B k:Nat} {t:Int} {gs:List G.GrantD} {qs:List P.PlaceD} {s1 s2:Value} {i:Nat} {y y':World} {V:Nat→Value} (hk:kr < Z) (hl:lb < Z) (hr:∀ g,s1.ownBlock=some g→g < Z) (hkB:kr < B) (hlk:lb≠kr) (hf:Fd kr lb 20 22 s1.ownBlock i y y'):∀ j,i≠j→(i=20→j≠22)→GAn Z kr lb B k t gs qs s1 s2 y V j→GAn Z kr lb B k t gs qs s1 s2 y' V j:=by
 have hf':=hf.fa hk hl hr
 have hb:Fb 26 Z y y':=Or.inl hf'
 intro j hne hA h
 match j,h with
 | 0,h=>exact h
 | 1,h=>exact h
 | 2,h=>exact h
 | 3,h=>exact h
 | 4,h=>exact h
 | 5,h=>exact h
 | 6,h=>exact h
 | 7,h=>exact h
 | 8,h=>exact h
 | 9,h=>exact h
 | 10,h=>exact B2.keep h hf'
 | 11,h=>exact h
 | 12,h=>exact h
 | 13,h=>exact h
 | 14,h=>exact h
 | 15,h=>exact h
 | 16,h=>exact h
 | 17,h=>exact h
 | 18,h=>exact h
 | 19,h=>exact G1.keep h hf'
 | 20,h=>exact Ap.fd h hf hne hkB
 | 21,h=>exact h
 | 22,h =>
  obtain ⟨v,h1,h2,h3⟩:=h
  have he:=hf.kr (fun e=>hA e rfl) hne
  exact ⟨v,h1.ex he (Or.inr hkB),range_off h2 (off_of_ex he) (there_lt h3) hlk,there_off h3 (off_of_ex he) (there_lt h3) hlk⟩
 | _+23,h=>exact h
def LAq:List Nat:=[52,53,54,55,56,57,58,6]
def GAq (kr lb:Nat) (t:Int) (y:World) (V:Nat→Value):Nat→Prop
 | 0=>V 0=.pointer (some ⟨lb,0,none⟩)
 | 1=>V 1=.int .i64 t
 | 2=>∃ z,V 2=.int .i64 z
 | 3=>V 3=.pointer (some ⟨kr,0,none⟩)
 | 4=>Nm 0 (2 - 1) (V 4)
 | 5=>∃ z,V 5=.int .i64 z
 | 6=>∃ z,V 6=.int .i64 z
 | 7=>∃ z,V 7=.int .i64 z
 | _=>True
theorem GAq.keep {kr lb:Nat} {t:Int} {y y':World} {V:Nat→Value}  : ∀ j,GAq kr lb t y V j→GAq kr lb t y' V j
 | 0,h=>h
 | 1,h=>h
 | 2,h=>h
 | 3,h=>h
 | 4,h=>h
 | 5,h=>h
 | 6,h=>h
 | 7,h=>h
 | _+8,h=>h
set_option maxRecDepth 4000 in
set_option maxHeartbeats 4000000 in
theorem any6 (kr:Nat) (q:Int) (w:World) (hr:Rq w kr q) (hq:q < 100000) :
  Calls Tryz.prog 17 #[.pointer (some ⟨kr,0,none⟩)] w fun e w'=>∃ t gs qs s1 s2,e=.returned (.agg #[.int .i64 t,s1,s2])∧LdB w' w.heap.size gs qs s1 s2∧Fz gs qs∧Rq w' kr (q+400000)∧Ex kr w w':=by
 have hinfo:(Tryz.prog.info? 26).map (·.size)=some 3:=by kernel_rfl
 have hkr:=hr.lt
 have HR:=hidP hr
 clear hr
 go_enter Tryz.func17,Tryz.ntmps17
 go_wp2_with fail
 obtain ⟨W1,hW1⟩:∃ W1,W1=w.alloc (.cells #[.int .i64 0,.slice none 0 0,.slice none 0 0] 26):=⟨_,rfl⟩
 have B1:Below w.heap.size w W1:=by rw [hW1]; exact bl_alloc bR _
 have T1:W1.there w.heap.size 0 3:=by rw [hW1]; exact fun j hj=>⟨by simp [go_sem]; omega,by simp [go_sem]⟩
 have z1:W1.heap.size=w.heap.size+1:=by rw [hW1]; simp
 rw [← hW1]
 refine (draw6 kr q W1 (HR.out.below B1) (by omega)).mono ?_
 rintro e w1 ⟨t,gs,qs,s1,s2,rfl,hl,hog,hF0,hg3,⟨hq4,hqk⟩,ht,hr1,he1⟩
 have hF:Fz gs qs:=⟨hF0,by omega,hqk⟩
 obtain ⟨d1,k1,rfl⟩:=G.Sl.shape hl.g
 obtain ⟨d2,k2,hs2⟩:=Pr.Sl.shape hl.p.o
 rw [List.length_map] at hs2
 subst hs2
 obtain ⟨B,hB⟩:∃ B,B=W1.heap.size:=⟨_,rfl⟩
 obtain ⟨lb,hlb⟩:∃ lb,lb=w1.heap.size:=⟨_,rfl⟩
 have hBl:B≤lb:=by rw [hB,hlb]; exact he1.size
 have K0:Hid (∀ y,y=w1.alloc (.cells #[.int .i64 t,.slice d1 gs.length k1,.slice d2 qs.length k2] 26)→Bkz lb B t gs qs (.slice d1 gs.length k1) (.slice d2 qs.length k2) y∧OGz B gs y (.slice d1 gs.length k1)∧y.there w.heap.size 0 3∧Rq y kr (q+100000)∧Ex kr w y∧lb < y.heap.size):=by
  rintro y rfl
  have hb2:Below w1.heap.size w1 (w1.alloc (.cells #[.int .i64 t,.slice d1 gs.length k1,.slice d2 qs.length k2] 26)):=bl_alloc bR _
  rw [hB,hlb]
  exact ⟨⟨fun j u hj=>by rw [← hj]; simp [go_sem],fun j hj=>⟨by simp [go_sem]; omega,by simp [go_sem]⟩,hl.keep hb2,fun g hg=>by have:=(hl.lt g hg).2; omega⟩,hog.keep hb2,there_keep2 (there_ex T1 (by omega) he1 (by omega)) (by omega) hb2,hr1.below hb2,((Ex.of_below B1).trans he1).trans (Ex.of_below hb2),by simp⟩
 clear HR hl hog hr1 he1 B1 T1 hW1 hF0 hqk
 go_wp2_with fail
 rw [← hlb]
 obtain ⟨w1',hw1'⟩:∃ y,y=w1.alloc (.cells #[.int .i64 t,.slice d1 gs.length k1,.slice d2 qs.length k2] 26):=⟨_,rfl⟩
 have K1:=K0.out w1' hw1'
 rw [← hw1']
 obtain ⟨kb,ko,kt,kr1,ke,kl⟩:=K1
 have hkB:kr < B:=by omega
 have hbB:w.heap.size < B:=by omega
 have hwB:w.heap.size≤B:=by omega
 have hlk:lb≠kr:=by omega
 have hbk:w.heap.size≠kr:=by omega
 refine (pickQ kr (q+100000) 20 _ kr1 (by omega) (by omega) (by omega)).mono ?_
 rintro e w2 ⟨m,rfl,m0,m1,r2,e2⟩
 have HR2:Hid (Rq w2 kr (q+100001)):=r2.up (by omega)
 have HE2:Hid (Ex kr w w2):=ke.trans e2
 have HC:Hid (∀ y,Ex kr w2 y→Bkz lb B t gs qs (.slice d1 gs.length k1) (.slice d2 qs.length k2) y):=fun y hy=>kb.ex (e2.trans hy) hkB hlk
 have HOZ:Hid (∀ y,Ex kr w2 y→OGz B gs y (.slice d1 gs.length k1)):=fun y hy=>OGz.ex ko (e2.trans hy) (fun g hg=>by have:=(kb.l.g.lt g hg).1; omega)
 have HT:Hid (∀ y,Ex kr w2 y→y.there w.heap.size 0 3):=fun y hy=>there_off kt (off_of_ex (e2.trans hy)) (there_lt kt) hbk
 have HF:=hidP hF
 have HX:Hid (FeX lb w.heap.size B t gs qs (.slice d1 gs.length k1) (.slice d2 qs.length k2) w2):=⟨(HC.out w2 (Ex.refl _ _)).c,there_lt (HC.out w2 (Ex.refl _ _)).f,HT.out w2 (Ex.refl _ _),(HC.out w2 (Ex.refl _ _)).l.b,hF⟩
 have hkz:kr < w2.heap.size:=Nat.lt_of_lt_of_le hkr HE2.out.size
 have hlz:lb < w2.heap.size:=Nat.lt_of_lt_of_le kl e2.size
 have hz:kr < w.heap.size∧w.heap.size≤w.heap.size∧w.heap.size < lb∧lb < w2.heap.size:=by omega
 obtain ⟨l0,l1,l2⟩:=(HC.out w2 (Ex.refl _ _)).cs
 clear kb ko kt kr1 ke kl r2 e2 hF K0 hw1' hlb hB
 obtain rfl | rfl | rfl | hm:m=0∨m=1∨m=2∨2 < m:=by omega
 ·
  have HL:Hid (P.LandZ w2 gs qs d1 d2 k1):=(HC.out w2 (Ex.refl _ _)).l.z
  go_wp2_with fail
  refine (spoil6 kr (q+100001) t gs qs d1 d2 k1 k2 w2 HL.out HF.out (by omega) (by omega) ht HR2.out (by omega)).mono ?_
  rintro e w3 ⟨t3,gs3,qs3,v1,v2,rfl,hl3,hf3,hr3,he3⟩
  obtain ⟨d1,k1,rfl⟩:=G.Sl.shape hl3.g
  obtain ⟨d2,k2,hs2⟩:=Pr.Sl.shape hl3.o
  rw [List.length_map] at hs2
  subst hs2
  have TB:Hid (w3.there w.heap.size 0 3):=HT.out w3 he3
  have hx:Ex w.heap.size w3 (w3.setCells w.heap.size 0 [.int .i64 t3,.slice d1 gs3.length k1,.slice d2 qs3.length k2]):=(Ex.refl _ _).cells _ _
  have RG:=World.rangeAt_setCells_same w3 w.heap.size 0 [.int .i64 t3,.slice d1 gs3.length k1,.slice d2 qs3.length k2] TB.out
  have c0:=RG 0 _ rfl
  have c1:=RG 1 _ rfl
  have c2:=RG 2 _ rfl
  simp only [Nat.zero_add] at c0 c1 c2
  have KE:Hid (LdB (w3.setCells w.heap.size 0 [.int .i64 t3,.slice d1 gs3.length k1,.slice d2 qs3.length k2]) w.heap.size gs3 qs3 (.slice d1 gs3.length k1) (.slice d2 qs3.length k2)∧Fz gs3 qs3∧Rq (w3.setCells w.heap.size 0 [.int .i64 t3,.slice d1 gs3.length k1,.slice d2 qs3.length k2]) kr (q+400000)∧Ex kr w (w3.setCells w.heap.size 0 [.int .i64 t3,.slice d1 gs3.length k1,.slice d2 qs3.length k2])):=⟨(hl3.ex hx (by omega)).low (by omega),hf3,(hr3.grown (W.ex_grown hx) (fun k e=>by cases e; omega)).up (by omega),Ex.other (HE2.out.trans he3) hx (Nat.le_refl _)⟩
  clear RG hl3 hr3 he3 hx l0 l1 l2 HX
  go_wp2_with (refine wpList_store_mid (by rfl) 26 _ _ (by rfl) w.heap.size 0 #[.int .i64 t3,.slice d1 gs3.length k1,.slice d2 qs3.length k2] (by rfl) (by rfl) (by exact TB.out) hinfo (by simp [Value.oneCell']) ?_)
  exact bodyPost_ret (v:=.agg #[.int .i64 t3,.slice d1 gs3.length k1,.slice d2 qs3.length k2]) (by simp [results,Tryz.results17,go_sem,c0,c1,c2]) rfl ⟨t3,gs3,qs3,_,_,rfl,KE.out⟩
 ·
  go_wp2_with fail
  refine (pickQ kr _ 2 _ HR2.out (by omega) (by omega) (by omega)).mono ?_
  rintro e w3 ⟨m,rfl,m0,m1,r3,e3⟩
  obtain ⟨n,hn⟩:∃ n:Int,n=40 - m:=⟨_,rfl⟩
  have hw:IntKind.i64.wrap (40 - m)=40 - m:=by rw [IntKind.wrap_i64]; omega
  have I0:Hid (Bkz lb B t gs qs (.slice d1 gs.length k1) (.slice d2 qs.length k2) w3∧OGz B gs w3 (.slice d1 gs.length k1)∧w3.there w.heap.size 0 3∧Fz gs qs∧Rq w3 kr (q+100002)∧Ex kr w w3∧lb < w3.heap.size):=⟨HC.out w3 e3,HOZ.out w3 e3,HT.out w3 e3,HF.out,r3.up (by omega),HE2.out.trans e3,Nat.lt_of_lt_of_le hlz e3.size⟩
  have hn40:n≤40:=by omega
  clear HC HOZ HT HF HX HR2 HE2 r3 e3 l0 l1 l2 hkz hlz hz
  go_wp2_with fail
  rw [← hn]
  clear hn hw m0 m1
  go_loopw [5] (fun i wx=>∃ (k:Nat) (gs:List G.GrantD) (d1:Option Addr) (k1:Nat),i=.int .i64 (k:Int)∧k≤gs.length∧gs.length≤43∧Hid (Bkz lb B t gs qs (.slice d1 gs.length k1) (.slice d2 qs.length k2) wx∧OGz B gs wx (.slice d1 gs.length k1)∧wx.there w.heap.size 0 3∧Fz gs qs∧Rq wx kr (q+100002+4800 * k)∧Ex kr w wx∧lb < wx.heap.size)) (fun i _=>50 - (intOf i).toNat)
  case atStart=>exact ⟨0,gs,d1,k1,rfl,by omega,by omega,I0.out.1,I0.out.2.1,I0.out.2.2.1,I0.out.2.2.2.1,I0.out.2.2.2.2.1.up (by omega),I0.out.2.2.2.2.2⟩
  obtain ⟨k,gs,d1,k1,rfl,hkg,hg43,HI⟩:=hrel
  obtain ⟨kb,ko,kt,hF,kr1,ke,hlz⟩:=HI.out
  obtain ⟨l0,l1,l2⟩:=kb.cs
  obtain ⟨q2,hq2⟩:∃ q2,q2=q+100002+4800 * (k:Int):=⟨_,rfl⟩
  have HR2:Hid (Rq wr kr q2):=by rw [hq2]; exact kr1
  have HE2:=hidP ke
  have HC:Hid (∀ y,Ex kr wr y→Bkz lb B t gs qs (.slice d1 gs.length k1) (.slice d2 qs.length k2) y):=fun y hy=>kb.ex hy hkB hlk
  have HOZ:Hid (∀ y,Ex kr wr y→OGz B gs y (.slice d1 gs.length k1)):=fun y hy=>OGz.ex ko hy (fun g hg=>by have:=(kb.l.g.lt g hg).1; omega)
  have HT:Hid (∀ y,Ex kr wr y→y.there w.heap.size 0 3):=fun y hy=>there_off kt (off_of_ex hy) (there_lt kt) hbk
  have HF:=hidP hF
  have hkz:kr < wr.heap.size:=Nat.lt_of_lt_of_le hkr ke.size
  have hz:kr < w.heap.size∧w.heap.size≤w.heap.size∧w.heap.size < lb∧lb < wr.heap.size:=by omega
  have hgl:gs.length≤1000:=by omega
  clear I0 HI kb ko kt hF kr1 ke
  by_cases hlt:(gs.length:Int) < n
  ·
   obtain ⟨Z,hZ⟩:∃ Z,Z=wr.heap.size:=⟨_,rfl⟩
   have hkZ:kr < Z:=by omega
   have hlZ:lb < Z:=by omega
   have hD:∀ i c S y,Da kr q2 w wr w.heap.size lb t (.slice d1 gs.length k1) (.slice d2 qs.length k2) 20 22 c S y→Da kr q2 w wr w.heap.size lb t (.slice d1 gs.length k1) (.slice d2 qs.length k2) 20 22 (c+1) (sset S i) y:=fun i c S y h=>h.up
   have hnx:∀ {ops:Array Oper} i,Nx kr q2 ops (Da kr q2 w wr w.heap.size lb t (.slice d1 gs.length k1) (.slice d2 qs.length k2) 20 22) i:=fun i=>Da.nx hz i
   have hZs:∀ c S y,Da kr q2 w wr w.heap.size lb t (.slice d1 gs.length k1) (.slice d2 qs.length k2) 20 22 c S y→Z≤y.heap.size:=fun c S y h=>by rw [hZ]; exact h.s
   have hRx:∀ i,i≠20→i≠22→∀ y,Fd kr lb 20 22 (Value.ownBlock (.slice d1 gs.length k1)) i y y:=fun i h1 h2 y=>by unfold Fd; rw [if_neg h1,if_neg h2]; exact Ex.refl _ _
   have hFx:∀ i,i≠20→i≠22→∀ y y',Ex kr y y'→Fd kr lb 20 22 (Value.ownBlock (.slice d1 gs.length k1)) i y y':=fun i h1 h2 y y' h=>by unfold Fd; rw [if_neg h1,if_neg h2]; exact h
   have hq1:q2+200 * (LAn.length:Int) < 1000000:=by show q2+200 * ((23:Nat):Int) < 1000000; omega
   go_wp2_with fail
   refine wp_region_any (by kernel_rfl) ?_
   refine reg_invZ LAn (GAn Z kr lb B k t gs qs (.slice d1 gs.length k1) (.slice d2 qs.length k2)) (Da kr q2 w wr w.heap.size lb t (.slice d1 gs.length k1) (.slice d2 qs.length k2) 20 22) (Fd kr lb 20 22 (Value.ownBlock (.slice d1 gs.length k1))) (by kernel_rfl) (fun i j y y' V S hne hY hj hf h=>GAn.keep hkZ hlZ (fun g hg=>by rw [hZ]; exact ((HC.out wr (Ex.refl _ _)).l.g.lt g hg).2) hkB hlk hf j hne (fun e1 e2=>by subst e1 e2; have:=hY.tr 22 20 rfl hj; rw [hY.n] at this; cases this) h) ?stAn ?ctAn ?doneAn
   case' ctAn =>
    intro i hi
    match i,hi with
    | 0,_ =>
     refine ctp (hD _) (hRx _ (by decide) (by decide)) rfl rfl rfl fun x y c S yy g oo dd K hK=>?_
     have o5:x.tmps[3]?.getD undef=.pointer (some ⟨lb,0,none⟩):=ev_tmp (oo.out 3 rfl)
     clear g oo dd yy
     go_simp
     exact hK.out _ rfl
    | 1,_ =>
     refine ctp (hD _) (hRx _ (by decide) (by decide)) rfl rfl rfl fun x y c S yy g oo dd K hK=>?_
     have e1:x.tmps[28]?.getD undef=_:=ev_tmp (g.out 0 rfl)
     obtain ⟨-,k1,-⟩:=(HC.out y (dd.out.o (yy.out.no [1] 20 rfl rfl))).cs
     clear g oo dd yy
     go_simp
     exact hK.out _ rfl
    | 2,_ =>
     exact ctOut (hD _) (hRx _ (by decide) (by decide)) rfl rfl rfl rfl rfl rfl (fun _ _ e=>e)
    | 3,_ =>
     refine ctp (hD _) (hRx _ (by decide) (by decide)) rfl rfl rfl fun x y c S yy g oo dd K hK=>?_
     have e1:x.tmps[30]?.getD undef=_:=ev_tmp (g.out 2 rfl)
     clear g oo dd yy
     go_simp
     exact hK.out _ ⟨_,rfl⟩
    | 4,_ =>
     refine ctp (hD _) (hRx _ (by decide) (by decide)) rfl rfl rfl fun x y c S yy g oo dd K hK=>?_
     obtain ⟨z,e1⟩:=g.out 3 rfl
     have e1:x.tmps[31]?.getD undef=_:=ev_tmp e1
     clear g oo dd yy
     go_simp
     exact hK.out _ ⟨_,rfl⟩
    | 5,_ =>
     refine ctp (hD _) (hRx _ (by decide) (by decide)) rfl rfl rfl fun x y c S yy g oo dd K hK=>?_
     obtain ⟨z,e1⟩:=g.out 4 rfl
     have e1:x.tmps[32]?.getD undef=_:=ev_tmp e1
     clear g oo dd yy
     go_simp
     exact hK.out _ ⟨_,rfl⟩
    | 6,_ =>
     exact ctOut (hD _) (hRx _ (by decide) (by decide)) rfl rfl rfl rfl rfl rfl (fun _ _ e=>e)
    | 7,_ =>
     refine ctp (hD _) (hRx _ (by decide) (by decide)) rfl rfl rfl fun x y c S yy g oo dd K hK=>?_
     have e1:x.tmps[34]?.getD undef=_:=ev_tmp (g.out 6 rfl)
     clear g oo dd yy
     go_simp
     exact hK.out _ ⟨_,rfl⟩
    | 8,_ =>
     refine ctp (hD _) (hRx _ (by decide) (by decide)) rfl rfl rfl fun x y c S yy g oo dd K hK=>?_
     obtain ⟨z,e1⟩:=g.out 7 rfl
     have e1:x.tmps[35]?.getD undef=_:=ev_tmp e1
     clear g oo dd yy
     go_simp
     exact hK.out _ ⟨_,rfl⟩
    | 9,_ =>
     refine ctp (hD _) (hRx _ (by decide) (by decide)) rfl rfl rfl fun x y c S yy g oo dd K hK=>?_
     obtain ⟨z,e1⟩:=g.out 8 rfl
     have e1:x.tmps[36]?.getD undef=_:=ev_tmp e1
     clear g oo dd yy
     go_simp
     exact hK.out _ ⟨_,rfl⟩
    | 10,_ =>
     refine ct rfl rfl rfl fun x y c S hc yy g oo dd K hK=>?_
     obtain ⟨z1,e1⟩:=g.out 5 rfl
     have e1:x.tmps[33]?.getD undef=_:=ev_tmp e1
     obtain ⟨z2,e2⟩:=g.out 9 rfl
     have e2:x.tmps[37]?.getD undef=_:=ev_tmp e2
     have hb:=bld2b z1 z2
     clear g oo
     go_simp
     have hbl:Below y.heap.size y (y.alloc (.cells (arr2 z1 z2) 5)):=bl_alloc bR _
     exact hK.out _ _ ⟨_,z1,z2,rfl,hZs c S y dd.out,heap_newZ y _⟩ ((hnx _).below yy.out dd.out hbl) (hFx _ (by decide) (by decide) _ _ (Ex.of_below hbl))
    | 11,_ =>
     refine ctp (hD _) (hRx _ (by decide) (by decide)) rfl rfl rfl fun x y c S yy g oo dd K hK=>?_
     obtain ⟨b,z1,z2,e1,hb1,hb2⟩:=g.out 10 rfl
     have e1:x.tmps[38]?.getD undef=_:=ev_tmp e1
     have hcv:=conv_2 b z1 z2 y hb2
     clear g oo dd yy
     go_simp
     exact hK.out _ ⟨_,rfl,Nat.le_refl 2⟩
    | 12,_ =>
     refine ctp (hD _) (hRx _ (by decide) (by decide)) rfl rfl rfl fun x y c S yy g oo dd K hK=>?_
     obtain ⟨s,e1,hs⟩:=g.out 11 rfl
     have e1:x.tmps[39]?.getD undef=_:=ev_tmp e1
     have hsz:¬ (9223372036854775807 < 1+s.size):=by omega
     clear g oo dd yy
     go_simp
     exact hK.out _ ⟨_,rfl,by rw [size_front]; omega⟩
    | 13,_ =>
     refine ctp (hD _) (hRx _ (by decide) (by decide)) rfl rfl rfl fun x y c S yy g oo dd K hK=>?_
     have o5:x.tmps[3]?.getD undef=.pointer (some ⟨lb,0,none⟩):=ev_tmp (oo.out 3 rfl)
     clear g oo dd yy
     go_simp
     exact hK.out _ rfl
    | 14,_ =>
     refine ctp (hD _) (hRx _ (by decide) (by decide)) rfl rfl rfl fun x y c S yy g oo dd K hK=>?_
     have e1:x.tmps[41]?.getD undef=_:=ev_tmp (g.out 13 rfl)
     obtain ⟨k1,-,-⟩:=(HC.out y (dd.out.o (yy.out.no [19,18,17,14] 20 rfl rfl))).cs
     clear g oo dd yy
     go_simp
     exact hK.out _ rfl
    | 15,_ =>
     exact ctOut (hD _) (hRx _ (by decide) (by decide)) rfl rfl rfl rfl rfl rfl (fun _ _ e=>e)
    | 16,_ =>
     exact ctPick (hnx _) 3 (by omega) (by omega) hq1 15 rfl rfl rfl rfl rfl rfl (fun _ _ h=>h) (hFx _ (by decide) (by decide)) (fun _ _ h=>h)
    | 17,_ =>
     refine ctp (hD _) (hRx _ (by decide) (by decide)) rfl rfl rfl fun x y c S yy g oo dd K hK=>?_
     have e1:x.tmps[42]?.getD undef=_:=ev_tmp (g.out 14 rfl)
     obtain ⟨z,e2,-,-⟩:=g.out 16 rfl
     have e2:x.tmps[44]?.getD undef=_:=ev_tmp e2
     clear g oo dd yy
     go_simp
     exact hK.out _ ⟨_,rfl⟩
    | 18,_ =>
     refine ctp (hD _) (hRx _ (by decide) (by decide)) rfl rfl rfl fun x y c S yy g oo dd K hK=>?_
     obtain ⟨h,e1,h1⟩:=g.out 12 rfl
     obtain ⟨u,e5⟩:=g.out 17 rfl
     have e1:x.tmps[40]?.getD undef=_:=ev_tmp e1
     have e5:x.tmps[45]?.getD undef=_:=ev_tmp e5
     clear g oo dd yy
     go_simp
     exact hK.out _ ⟨⟨h,⟨#[98]⟩,⟨#[99]⟩,0,u⟩,rfl,h1,by show 1≤4; omega,by show 1≤4; omega⟩
    | 19,_ =>
     refine ct rfl rfl rfl fun x y c S hc yy g oo dd K hK=>?_
     obtain ⟨g1,e1,h1⟩:=g.out 18 rfl
     have e1:x.tmps[46]?.getD undef=_:=ev_tmp e1
     have hb:=bld1G g1
     clear g oo
     go_simp
     have hbl:Below y.heap.size y (y.alloc (.cells g1.cells.toArray 40)):=bl_alloc bR _
     exact hK.out _ _ ⟨_,g1,rfl,hZs c S y dd.out,heap_newZ y _,h1⟩ ((hnx _).below yy.out dd.out hbl) (hFx _ (by decide) (by decide) _ _ (Ex.of_below hbl))
    | 20,_ =>
     refine ct rfl rfl rfl fun x y c S hc yy g oo dd K hK=>?_
     have e1:=g.out 1 rfl
     obtain ⟨b,g1,e2,hb1,hb2,hs1⟩:=g.out 19 rfl
     have hE:=dd.out.o yy.out.n
     refine wpAppG (.tmp 29) (.tmp 47) rfl e1 (HOZ.out y hE) e2 (blk_cells hb2) hgl (by have:=dd.out.s; omega) ?_
     intro v' y' o1 g9 hat
     obtain ⟨h1,h2,h3⟩:=apEnd hz dd.out (HC.out y hE) hs1 o1 g9 hat hkB hbB hwB
     exact hK.out _ _ h1 h2 h3
    | 21,_ =>
     refine ctp (hD _) (hRx _ (by decide) (by decide)) rfl rfl rfl fun x y c S yy g oo dd K hK=>?_
     have o5:x.tmps[3]?.getD undef=.pointer (some ⟨lb,0,none⟩):=ev_tmp (oo.out 3 rfl)
     clear g oo dd yy
     go_simp
     exact hK.out _ rfl
    | 22,_ =>
     refine ctn rfl rfl fun x y c S hc yy g oo dd K hK=>?_
     obtain ⟨g1,hs1,hl,ho,hn⟩:=g.out 20 rfl
     obtain ⟨av,cv,hv⟩:=OG.shape ho
     rw [show (gs++[g1]).length=gs.length+1 by simp] at hv
     have e25:x.tmps[48]?.getD undef=_:=ev_tmp hv
     have e26:x.tmps[49]?.getD undef=_:=ev_tmp (g.out 21 rfl)
     rw [hv] at hl ho hn
     obtain ⟨k9,f9⟩:=dd.out.l yy.out.n
     have c1:=k9 1 _ rfl
     rw [Nat.zero_add] at c1
     have f1:y.frozen? ⟨lb,1,none⟩=false:=by simpa using (f9 1 (by omega)).2
     have h25:=yy.out.l 20 rfl
     have HL:Hid (Ap lb B gs qs _ y _):=⟨g1,hs1,hl,ho,hn⟩
     have HK9:Hid (y.rangeAt lb 0 [_,_,_]∧y.there lb 0 3):=⟨k9,f9⟩
     clear g oo hl ho hv k9 f9 hn
     go_simp
     obtain ⟨h1,h2,h3⟩:=asEnd (v:=.slice av (gs.length+1) cv) hz dd.out HL.out HK9.out.1 HK9.out.2 h25 (by decide)
     exact hK.out _ h1 h2 h3
    | _+23,h=>exact absurd h (by show ¬ (_ < 23); omega)
   case' stAn=>exact daStart HR2.out HE2.out (HT.out wr (Ex.refl _ _)) (HC.out wr (Ex.refl _ _))
   case' doneAn =>
    intro a y c hdf hsz hout hgood hc hE
    obtain ⟨v9,⟨g9,hs9,hl9,ho9,hn9⟩,hr9,hf9⟩:=(hgood 22 (by decide):∃ v,Ap lb B gs qs _ y v∧_)
    obtain ⟨d1,k1,rfl⟩:=OG.shape ho9
    have HI:Hid (Bkz lb B t (gs++[g9]) qs (.slice d1 (gs++[g9]).length k1) (.slice d2 qs.length k2) y∧OGz B (gs++[g9]) y (.slice d1 (gs++[g9]).length k1)∧y.there w.heap.size 0 3∧Fz (gs++[g9]) qs∧Rq y kr (q+100002+4800 * ((k+1:Nat):Int))∧Ex kr w y∧lb < y.heap.size):=⟨⟨hr9,hf9,hl9,hn9⟩,Or.inl ho9,hE.b,⟨fit_app HF.out.toFit hs9 hgl,HF.out.n,HF.out.k⟩,hE.r.up (by have h9:c≤23:=hc; omega),hE.e,there_lt hf9⟩
    have hl9':(gs++[g9]).length=gs.length+1:=by simp
    clear hE hr9 hf9 hl9 ho9 hn9
    obtain ⟨f,ha,hf⟩:=frameZ 28 22 hdf hsz hout rfl
    clear hf hout hgood hdf hsz
    subst ha
    rw [show (List.range 22).map f=[f 0,f 1,f 2,f 3,f 4,f 5,f 6,f 7,f 8,f 9,f 10,f 11,f 12,f 13,f 14,f 15,f 16,f 17,f 18,f 19,f 20,f 21] from rfl]
    simp only [tkd,Nat.reduceAdd]
    go_wp2_with fail
    exact ⟨⟨k+1,gs++[g9],d1,k1,by go_num,by omega,by omega,HI.out⟩,by simp [intOf]; omega⟩
  have HX:Hid (FeX lb w.heap.size B t gs qs (.slice d1 gs.length k1) (.slice d2 qs.length k2) wr):=⟨(HC.out wr (Ex.refl _ _)).c,hlz,HT.out wr (Ex.refl _ _),(HC.out wr (Ex.refl _ _)).l.b,HF.out⟩
  have HR3:Hid (Rq wr kr (q+400000)):=HR2.out.up (by omega)
  have HE3:=hidP HE2.out
  have TB:=hidP HX.out.b
  have x0:=HX.out.c 0 _ rfl
  have x1:=HX.out.c 1 _ rfl
  have x2:=HX.out.c 2 _ rfl
  simp only [Nat.zero_add] at x0 x1 x2
  try clear l0 l1 l2
  go_wp2_with (refine wpList_store_mid (by rfl) 26 _ _ (by rfl) w.heap.size 0 #[_,_,_] (by rfl) (by rfl) (by exact TB.out) hinfo (by simp [Value.oneCell']) ?_)
  obtain ⟨⟨d0,d3,d4⟩,h1,h2,h3⟩:=HX.out.fin hbB HR3.out HE3.out (Nat.le_refl _) hkr
  refine bodyPost_ret (v:=.agg #[.int .i64 _,_,_]) ?_ rfl ⟨t,_,_,_,_,rfl,h1,HX.out.f,h2,h3⟩
  simp [results,Tryz.results17,go_sem,d0,d3,d4]
 ·
  obtain ⟨Z,hZ⟩:∃ Z,Z=w2.heap.size:=⟨_,rfl⟩
  obtain ⟨q2,hq2⟩:∃ q2,q2=q+100001:=⟨_,rfl⟩
  rw [← hq2] at HR2
  have hD:∀ i c S y,Dz kr q2 w2 c S y→Dz kr q2 w2 (c+1) (sset S i) y:=fun i c S y h=>h.up
  have hnx:∀ {ops:Array Oper} i,Nx kr q2 ops (Dz kr q2 w2) i:=fun i=>Dz.nx i
  have hFx:∀ y y',Ex kr y y'→Fa Z y y':=fun _ _ h=>Fa.ex h (by omega)
  have hq1:q2+200 * (LAq.length:Int) < 1000000:=by show q2+200 * ((8:Nat):Int) < 1000000; omega
  go_wp2_with fail
  refine wp_region_any (by kernel_rfl) ?_
  refine reg_invZ LAq (GAq kr lb t) (Dz kr q2 w2) (fun _=>Fa Z) (by kernel_rfl) (fun i j y y' V S hne _ _ hf h=>GAq.keep j h) ⟨(HR2.out.below bD).up (by omega),Ex.of_below bD⟩ ?ct1 ?done1
  case ct1 =>
   intro i hi
   match i,hi with
   | 0,_ =>
    refine ctp (hD _) (Fa.refl _) rfl rfl rfl fun x y c S yy g oo dd K hK=>?_
    have o5:x.tmps[3]?.getD undef=.pointer (some ⟨lb,0,none⟩):=ev_tmp (oo.out 3 rfl)
    clear g oo dd yy
    go_simp
    exact hK.out _ rfl
   | 1,_ =>
    refine ctp (hD _) (Fa.refl _) rfl rfl rfl fun x y c S yy g oo dd K hK=>?_
    have e1:x.tmps[52]?.getD undef=_:=ev_tmp (g.out 0 rfl)
    obtain ⟨k1,-,-⟩:=(HC.out y dd.out.e).cs
    clear g oo dd yy
    go_simp
    exact hK.out _ rfl
   | 2,_ =>
    refine ctp (hD _) (Fa.refl _) rfl rfl rfl fun x y c S yy g oo dd K hK=>?_
    have e1:x.tmps[53]?.getD undef=_:=ev_tmp (g.out 1 rfl)
    clear g oo dd yy
    go_simp
    exact hK.out _ ⟨_,rfl⟩
   | 3,_ =>
    exact ctOut (hD _) (Fa.refl _) rfl rfl rfl rfl rfl rfl (fun _ _ e=>e)
   | 4,_ =>
    exact ctPick (hnx _) 2 (by omega) (by omega) hq1 3 rfl rfl rfl rfl rfl rfl (fun _ _ h=>h) hFx (fun _ _ h=>h)
   | 5,_ =>
    refine ctp (hD _) (Fa.refl _) rfl rfl rfl fun x y c S yy g oo dd K hK=>?_
    obtain ⟨z,e1,-,-⟩:=g.out 4 rfl
    have e1:x.tmps[56]?.getD undef=_:=ev_tmp e1
    clear g oo dd yy
    go_simp
    exact hK.out _ ⟨_,rfl⟩
   | 6,_ =>
    refine ctp (hD _) (Fa.refl _) rfl rfl rfl fun x y c S yy g oo dd K hK=>?_
    obtain ⟨z,e1⟩:=g.out 2 rfl
    have e1:x.tmps[54]?.getD undef=_:=ev_tmp e1
    obtain ⟨z2,e2⟩:=g.out 5 rfl
    have e2:x.tmps[57]?.getD undef=_:=ev_tmp e2
    clear g oo dd yy
    go_simp
    exact hK.out _ ⟨_,rfl⟩
   | 7,_ =>
    refine ctp (hD _) (Fa.refl _) rfl rfl rfl fun x y c S yy g oo dd K hK=>?_
    obtain ⟨z,e1⟩:=g.out 6 rfl
    have e1:x.tmps[58]?.getD undef=_:=ev_tmp e1
    clear g oo dd yy
    go_simp
    exact hK.out _ ⟨_,rfl⟩
   | _+8,h=>exact absurd h (by show ¬ (_ < 8); omega)
  intro a y c hdf hsz hout hgood hc hE
  obtain ⟨z,ez⟩:=(hgood 7 (by decide):∃ z,a.tmps.getD 6 undef=.int .i64 z)
  have hb:=HC.out y hE.e
  obtain ⟨y0,y1,y2⟩:=hb.cs
  have fz:y.frozen? ⟨lb,0,none⟩=false:=by simpa using (hb.f 0 (by omega)).2
  obtain ⟨t3,ht3⟩:∃ t3,wrap64 (t+z)=t3:=⟨_,rfl⟩
  have he:Ex lb y (y.setCell ⟨lb,0,none⟩ (.int .i64 t3)):=(Ex.refl _ _).set _ _
  have HX:Hid (FeX lb w.heap.size B t3 gs qs (.slice d1 gs.length k1) (.slice d2 qs.length k2) (y.setCell ⟨lb,0,none⟩ (.int .i64 t3))):=⟨range_set0 hb.c,Nat.lt_of_lt_of_le (there_lt hb.f) he.size,there_off (HT.out y hE.e) (off_of_ex he) (there_lt (HT.out y hE.e)) (by omega),hb.l.b.off (off_of_ex he) (fun g hg e=>hb.n g hg e),HF.out⟩
  have HR3:Hid (Rq (y.setCell ⟨lb,0,none⟩ (.int .i64 t3)) kr (q+400000)):=(hE.r.grown (W.ex_grown he) (fun k e=>by cases e; omega)).up (by have h9:c≤8:=hc; omega)
  have HE3:Hid (Ex kr w (y.setCell ⟨lb,0,none⟩ (.int .i64 t3))):=Ex.other (HE2.out.trans hE.e) he (by omega)
  clear hb he hE l0 l1 l2
  obtain ⟨f,ha,hf,hf2⟩:=frameZ2 6 1 52 7 hdf hsz hout rfl
  have f0:f 0=_:=(hf 0 (by omega)).trans ez
  clear hf hf2 hout hgood hdf hsz
  subst ha
  rw [show (List.range 1).map f=[f 0] from rfl,show (List.range 7).map (fun k=>f (1+k))=[f 1,f 2,f 3,f 4,f 5,f 6,f 7] from rfl,f0]
  simp only [tkd,Nat.reduceAdd]
  have TB:=hidP HX.out.b
  have x0:=HX.out.c 0 _ rfl
  have x1:=HX.out.c 1 _ rfl
  have x2:=HX.out.c 2 _ rfl
  simp only [Nat.zero_add] at x0 x1 x2
  try clear l0 l1 l2
  go_wp2_with (refine wpList_store_mid (by rfl) 26 _ _ (by rfl) w.heap.size 0 #[_,_,_] (by rfl) (by rfl) (by exact TB.out) hinfo (by simp [Value.oneCell']) ?_)
  obtain ⟨⟨d0,d3,d4⟩,h1,h2,h3⟩:=HX.out.fin hbB HR3.out HE3.out (Nat.le_refl _) hkr
  refine bodyPost_ret (v:=.agg #[.int .i64 _,_,_]) ?_ rfl ⟨t3,_,_,_,_,rfl,h1,HX.out.f,h2,h3⟩
  simp [results,Tryz.results17,go_sem,d0,d3,d4]
 ·
  have hm0:¬ (m=0):=by omega
  have hm1:¬ (m=1):=by omega
  have hm2:¬ (m=2):=by omega
  have HR3:Hid (Rq w2 kr (q+400000)):=HR2.out.up (by omega)
  have HE3:=hidP HE2.out
  have TB:=hidP HX.out.b
  have x0:=HX.out.c 0 _ rfl
  have x1:=HX.out.c 1 _ rfl
  have x2:=HX.out.c 2 _ rfl
  simp only [Nat.zero_add] at x0 x1 x2
  try clear l0 l1 l2
  go_wp2_with (refine wpList_store_mid (by rfl) 26 _ _ (by rfl) w.heap.size 0 #[_,_,_] (by rfl) (by rfl) (by exact TB.out) hinfo (by simp [Value.oneCell']) ?_)
  obtain ⟨⟨d0,d3,d4⟩,h1,h2,h3⟩:=HX.out.fin hbB HR3.out HE3.out (Nat.le_refl _) hkr
  refine bodyPost_ret (v:=.agg #[.int .i64 _,_,_]) ?_ rfl ⟨t,_,_,_,_,rfl,h1,HX.out.f,h2,h3⟩
  simp [results,Tryz.results17,go_sem,d0,d3,d4]
theorem openQ (a:Option Addr) (n cap:Nat) (zs:List Int) (w:World) (h:CodeIn w a n zs) (hn:n≤1048576) (hcap:n≤cap) :
  Calls Tryz.prog 16 #[.slice a n cap] w fun e w'=>e=.returned (.pointer (some ⟨w.heap.size,0,none⟩))∧Rq w' w.heap.size 0∧Below w.heap.size w w':=by
 by_cases h2:2000 < n
 ·
  rcases h with hz | ⟨b,off,rfl,hb,hc⟩
  · omega
  have hr:=rd_new (w:=w) (cap:=cap) (m:=2000) (Or.inr ⟨b,off,rfl,hb,hc⟩) (by omega) (by omega)
  have i1:(2000:Int)≤(cap:Int):=by omega
  have Hr:=hidP hr
  clear hr hc
  go_enter Tryz.func16,Tryz.ntmps16
  go_wp2
  go_ret
  exact ⟨rfl,⟨_,_,_,_,_,Hr.out,Int.le_refl _,Or.inr ⟨b,off,rfl,hb⟩⟩,bl_alloc bR _⟩
 ·
  have hr:=rd_new (w:=w) (cap:=cap) (m:=n) h (by omega) (by omega)
  have Hr:=hidP hr
  have HZ:=hidP h
  clear hr h
  go_enter Tryz.func16,Tryz.ntmps16
  go_wp2
  go_ret
  refine ⟨rfl,⟨_,_,_,_,_,Hr.out,Int.le_refl _, ?_⟩,bl_alloc bR _⟩
  rcases HZ.out with hz | ⟨b,off,h1,hb,-⟩
  · exact Or.inl hz
  exact Or.inr ⟨b,off,h1,hb⟩
theorem CodeIn.bel {w w':World} {a:Option Addr} {n:Nat} {zs:List Int} (h:CodeIn w a n zs) (hb:Below w.heap.size w w'):CodeIn w' a n zs:=by
 rcases h with h | ⟨b,off,ha,hbb,hc⟩
 · exact Or.inl h
 exact Or.inr ⟨b,off,ha,Nat.lt_of_lt_of_le hbb hb.size,fun i hi=>⟨(hb.cell (p:=⟨b,off+i,none⟩) hbb).trans (hc i hi).1,(hc i hi).2⟩⟩
end Go.Proofs.YtcjhlhijdacinaaGreatDoor
