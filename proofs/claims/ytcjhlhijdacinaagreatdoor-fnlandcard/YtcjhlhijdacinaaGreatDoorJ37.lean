import Derived.Test.YtcjhlhijdacinaaGreatDoorJ36
namespace Go.Proofs.YtcjhlhijdacinaaGreatDoor
open Go.RowKit Go.Maps Go.WideMaps
set_option linter.unusedVariables false
def arr3 (p:TakeP):Array Value:=#[.int .i64 3,.string p.b,.int .i64 0,.slice none 0 0,.string p.h,.string p.c,.int .i64 p.t]
theorem bld3 (p:TakeP) (w:World):Sem.run Tryz.prog (Instr.buildSlice 32 1 #[(0,.agg #[.int .i64 3,.string p.b,.int .i64 0,.slice none 0 0,.string p.h,.string p.c,.int .i64 p.t])]) w=.ok (.slice (some ⟨w.heap.size,0,none⟩) 1 1) (w.alloc (.cells (arr3 p) 29)):=by kernel_rfl
theorem grown_drewN (w:World) (n:Nat) {row:Option Nat}:w.grownBy (w.drewN n) row:=⟨rfl,rfl,rfl,Nat.le_refl _,fun _ _ _=>rfl⟩
def ErrAt (w:World) (n:Nat):Prop:=∃ te pe,w.cell? ⟨n,0,none⟩=some (.iface te pe)
def GiveOk (t:Int) (p:TakeP) (gs:List G.GrantD) (ps:List P.PlaceD):Prop:=wantedL p ps=true∧mayG t p gs=true∧roomG p.h (leftG t p.h gs)=true
def slGi:Nat→Nat
 | 0=>25
 | 1=>26
 | 2=>27
 | 3=>28
 | 4=>29
 | 5=>30
 | 6=>31
 | 7=>32
 | 8=>33
 | 9=>34
 | 10=>35
 | 11=>36
 | 12=>37
 | 13=>38
 | 14=>39
 | 15=>40
 | 16=>41
 | 17=>42
 | 18=>43
 | 19=>44
 | 20=>100020
 | _=>0
theorem slGi_inj (i:Nat) (hi:i < 21):∀ j,j < 21→slGi j=slGi i→j=i:=by
 have h:∀ a:_root_.Fin 21,∀ b:_root_.Fin 21,slGi b.1=slGi a.1→b.1=a.1:=by decide +kernel
 intro j hj e
 exact h ⟨i,hi⟩ ⟨j,hj⟩ e
theorem slGi_far:∀ j,j < 100000→(j < 25∨25+20≤j)→∀ i,i < 21→slGi i≠j:=by
 intro j h1 h2 i hi
 have h:∀ a:_root_.Fin 21,25≤slGi a.1∧(slGi a.1 < 25+20∨100000≤slGi a.1):=by decide +kernel
 have:=h ⟨i,hi⟩
 dsimp only at this
 omega
def GGi (d pb m1:Nat) (t:Int) (p:TakeP) (L:Array Bool) (w:World):Nat→Value→Prop
 | 0,v=>v=.pointer (some ⟨d,0,none⟩)
 | 1,v=>v=.pointer (some ⟨d,0,none⟩)
 | 2,v=>v=.pointer (some ⟨d,1,none⟩)
 | 3,v=>v=.map (some m1)
 | 4,v=>v=.pointer (some ⟨pb,4,none⟩)
 | 5,v=>v=.string p.h
 | 6,v=>v=.pointer (some ⟨pb,4,none⟩)
 | 7,v=>v=.string p.h
 | 8,v=>v=.pointer (some ⟨pb,1,none⟩)
 | 9,v=>v=.string p.b
 | 10,v=>v=.pointer (some ⟨pb,5,none⟩)
 | 11,v=>v=.string p.c
 | 12,v=>v=.pointer (some ⟨pb,6,none⟩)
 | 13,v=>v=.int .i64 p.t
 | 14,v=>v=.pointer (some ⟨d,0,none⟩)
 | 15,v=>v=.pointer (some ⟨d,0,none⟩)
 | 16,v=>v=.pointer (some ⟨d,0,none⟩)
 | 17,v=>v=.int .i64 t
 | 18,v=>v=.int .i64 (t+32)
 | 19,v=>v=.agg #[.string p.h,.string p.b,.string p.c,.int .i64 p.t,.int .i64 (t+32)]
 | 20,v=>True
 | _,_=>True
theorem GGi.keep {d pb m1:Nat} {t:Int} {p:TakeP} {L L':Array Bool} {w w':World}  : ∀ j v,GGi d pb m1 t p L w j v→GGi d pb m1 t p L' w' j v
 | 0,_,h=>h
 | 1,_,h=>h
 | 2,_,h=>h
 | 3,_,h=>h
 | 4,_,h=>h
 | 5,_,h=>h
 | 6,_,h=>h
 | 7,_,h=>h
 | 8,_,h=>h
 | 9,_,h=>h
 | 10,_,h=>h
 | 11,_,h=>h
 | 12,_,h=>h
 | 13,_,h=>h
 | 14,_,h=>h
 | 15,_,h=>h
 | 16,_,h=>h
 | 17,_,h=>h
 | 18,_,h=>h
 | 19,_,h=>h
 | 20,_,h=>h
 | _+21,_,h=>h
def DGi (m1:Nat) (r:G.GrantD) (lg:List G.GrantD) (Y:World) (L:Array Bool) (w:World):Prop:=(L.getD 20 false=false→Below Y.heap.size Y w)∧(L.getD 20 false=true→Y.grownBy w (some m1)∧∃ n,w.ownsMap Tryz.prog 9 G.RV m1 n (G.dec (Ord.insS G.keyV r lg)))
theorem DGi.keep {m1:Nat} {r:G.GrantD} {lg:List G.GrantD} {Y:World} {L:Array Bool} {w:World} {i:Nat} (hd:DGi m1 r lg Y L w) (hi:20≠i):DGi m1 r lg Y (L.setIfInBounds i true) w:=by
 unfold DGi
 rw [setT_ne hi]
 exact hd
set_option maxRecDepth 4000 in
set_option maxHeartbeats 4000000 in
theorem give_any (d m1 m2 n:Nat) (t:Int) (p:TakeP) (s:Int) (a:Option Addr) (nw cw:Nat) (gs:List G.GrantD) (ps:List P.PlaceD) (w:World) (hB:Book w d t m1 m2 gs (ps.map Pr.raw)) (hn:n≤1048576) (hown:w.ownsMap Tryz.prog 9 G.RV m1 n (G.dec gs)) (hd:d≠m1) (hsg:G.Srt gs) (hgl:gs.length≤1048576) (hgf:∀ g∈gs,g.h.size≤maxLen) (hs:Ord.Srt keyP ps) (hsrc:∀ q∈ps,W.Src w q.a q.c q.ws) (hln:∀ q∈ps,q.ws.length≤1048576) (hf:p.fits) (ht:0≤t∧t≤2000000)
  (hE3:∀ y,w.grownBy y (some m1)→ErrAt y 6) (hE4:∀ y,w.grownBy y (some m1)→ErrAt y 7) (hE5:∀ y,w.grownBy y (some m1)→ErrAt y 8) :
  Calls Tryz.prog 50 #[.pointer (some ⟨d,0,none⟩),.agg #[.int .i64 p.k,.string p.b,.int .i64 s,.slice a nw cw,.string p.h,.string p.c,.int .i64 p.t]] w fun e w'=>(∃ v er,e=.returned (.tuple #[v,er])∧((GiveOk t p gs ps∧er=.nilIface∧∃ g9,v=.slice (some ⟨g9,0,none⟩) 1 1∧w.heap.size≤g9∧w'.heap[g9]?=some (.cells (arr3 p) 29 (0,0))∧Book w' d t m1 m2 (Ord.insS G.keyV (newG t p) (leftG t p.h gs)) (ps.map Pr.raw))∨(¬ GiveOk t p gs ps∧v=.slice none 0 0∧∃ te pe,er=.iface te pe)))∧w.grownBy w' (some m1):=by
 obtain ⟨W0,hW0⟩:∃ W0,W0=w.alloc (.cells #[.int .i64 p.k,.string p.b,.int .i64 s,.slice a nw cw,.string p.h,.string p.c,.int .i64 p.t] 29):=⟨_,rfl⟩
 have HW0:=hidP hW0
 have B0:Hid (Below w.heap.size w W0):=by rw [hW0]; exact bl_alloc bR _
 obtain ⟨pb,hpb⟩:∃ pb,pb=w.heap.size:=⟨_,rfl⟩
 have ZB:Hid (pb < W0.heap.size∧pb≠m1):=by
  have:=hown.lt
  exact ⟨by rw [hW0,hpb]; simp,by omega⟩
 have KP0:Hid (∀ j,W0.cell? ⟨pb,j,none⟩=(#[.int .i64 p.k,.string p.b,.int .i64 s,.slice a nw cw,.string p.h,.string p.c,.int .i64 p.t]:Array Value)[j]?):=by
  intro j
  rw [hpb,hW0]
  simp [go_sem]
 have KP:Hid (∀ y,W0.grownBy y (some m1)→∀ j,y.cell? ⟨pb,j,none⟩=(#[.int .i64 p.k,.string p.b,.int .i64 s,.slice a nw cw,.string p.h,.string p.c,.int .i64 p.t]:Array Value)[j]?):=fun y hy j =>
  (World.cell?_of_block (w:=W0) (a:=⟨pb,j,none⟩) (hy.block pb ZB.out.1 (fun e=>ZB.out.2 (Option.some.inj e)))).trans (KP0.out j)
 obtain ⟨lg,hlg⟩:∃ lg,lg=leftG t p.h gs:=⟨_,rfl⟩
 have HLG:=hidP hlg
 have IW:Hid (Calls Tryz.prog 76 #[.pointer (some ⟨d,0,none⟩),.agg #[.int .i64 p.k,.string p.b,.int .i64 s,.slice a nw cw,.string p.h,.string p.c,.int .i64 p.t]] W0 fun e w'=>e=.returned (.bool (wantedL p ps))∧Below W0.heap.size W0 w'):=isWanted_any d m1 m2 t p s a nw cw gs ps W0 (hB.keep B0.out) hs (fun q hq=>(hsrc q hq).keep B0.out) hln hf
 have MG:Hid (∀ y,Below W0.heap.size W0 y→Calls Tryz.prog 77 #[.pointer (some ⟨d,0,none⟩),.agg #[.int .i64 p.k,.string p.b,.int .i64 s,.slice a nw cw,.string p.h,.string p.c,.int .i64 p.t]] y fun e w'=>e=.returned (.bool (mayG t p gs))∧Below y.heap.size y w'):=fun y hy=>mayGive_any d m1 m2 t p s a nw cw gs (ps.map Pr.raw) y (hB.keep (bl_trans B0.out hy)) hsg hf
 have MR:Hid (∀ y,Below W0.heap.size W0 y→Calls Tryz.prog 78 #[.pointer (some ⟨d,0,none⟩),.string p.h] y fun e w'=>e=.returned (.bool (roomG p.h lg))∧Book w' d t m1 m2 lg (ps.map Pr.raw)∧w'.ownsMap Tryz.prog 9 G.RV m1 n (G.dec lg)∧y.grownBy w' (some m1)):=fun y hy=>by
  rw [hlg]
  exact makeRoom_any d m1 m2 n t p.h gs (ps.map Pr.raw) y (hB.keep (bl_trans B0.out hy)) (G.mapv_below hown (bl_trans B0.out hy)) hd hsg hf.h hgl hgf
 have UPD:Hid (∀ y,y.ownsMap Tryz.prog 9 G.RV m1 n (G.dec lg)→∃ w2 n2,Sem.run Tryz.prog (Instr.mapUpdate 90 (.map (some m1)) (.string p.h) (.agg #[.string p.h,.string p.b,.string p.c,.int .i64 p.t,.int .i64 (t+32)])) y=.ok () w2∧w2.ownsMap Tryz.prog 9 G.RV m1 n2 (G.dec (Ord.insS G.keyV (newG t p) lg))∧y.grownBy w2 (some m1)):=fun y ho=>by
  obtain ⟨w2,h1,h2,h3⟩:=G.mapv_step m1 n lg (newG t p) ho (by unfold maxLen; omega) hf.h
  rw [Ord.ins_insS G.keyV _ lg (by rw [hlg]; exact left_srt hsg)] at h2
  exact ⟨w2,n+1,h1,h2,h3⟩
 have HE3:Hid (∀ y,W0.grownBy y (some m1)→ErrAt y 6):=fun y hy=>hE3 y ((below_grown B0.out (some m1)).andThen hy (fun j hj=>Or.inr hj))
 have HE4:Hid (∀ y,W0.grownBy y (some m1)→ErrAt y 7):=fun y hy=>hE4 y ((below_grown B0.out (some m1)).andThen hy (fun j hj=>Or.inr hj))
 have HE5:Hid (∀ y,W0.grownBy y (some m1)→ErrAt y 8):=fun y hy=>hE5 y ((below_grown B0.out (some m1)).andThen hy (fun j hj=>Or.inr hj))
 have HD1:=hidP hd
 have iw:IntKind.i64.wrap (t+32)=t+32:=by rw [IntKind.wrap_i64]; omega
 clear hB hs hf hW0 hown hsg hgl hgf hsrc hln hlg hn hd hE3 hE4 hE5
 go_enter Tryz.func50,Tryz.ntmps50
 go_upto_region 1 with fail
 rw [← HW0.out,← hpb]
 have HPB:=hidP hpb
 clear hpb
 have k0:W0.cell? ⟨pb,0,none⟩=some (.int .i64 p.k):=KP0.out 0
 have k1:W0.cell? ⟨pb,1,none⟩=some (.string p.b):=KP0.out 1
 have k2:W0.cell? ⟨pb,2,none⟩=some (.int .i64 s):=KP0.out 2
 have k3:W0.cell? ⟨pb,3,none⟩=some (.slice a nw cw):=KP0.out 3
 have k4:W0.cell? ⟨pb,4,none⟩=some (.string p.h):=KP0.out 4
 have k5:W0.cell? ⟨pb,5,none⟩=some (.string p.c):=KP0.out 5
 have k6:W0.cell? ⟨pb,6,none⟩=some (.int .i64 p.t):=KP0.out 6
 go_wp2_with fail
 clear k0 k1 k2 k3 k4 k5 k6
 refine IW.out.mono ?_
 rintro e w1 ⟨rfl,c1⟩
 have C1:=hidP c1
 clear c1
 cases q1:wantedL p ps
 ·
  have HNO:Hid (¬ GiveOk t p gs ps):=fun h=>by have h9:=h.1; rw [q1] at h9; cases h9
  clear q1
  obtain ⟨te,pe,hev⟩:=HE3.out w1 (below_grown C1.out (some m1))
  go_wp2_with fail
  go_quiet (fail)
  go_wp2
  refine bodyPost_ret (v:=.tuple #[.slice none 0 0,.iface te pe]) (by simp [results,Tryz.results50,go_sem]) rfl ⟨⟨_,_,rfl,Or.inr ⟨HNO.out,rfl,te,pe,rfl⟩⟩, ?_⟩
  exact ((below_grown B0.out (some m1)).andThen (below_grown C1.out (some m1)) (fun j hj=>Or.inr hj)).andThen (grown_drewN _ _) (fun j hj=>Or.inr hj)
 ·
  have HQ1:=hidP q1
  clear q1
  have k0:w1.cell? ⟨pb,0,none⟩=some (.int .i64 p.k):=KP.out w1 (below_grown C1.out (some m1)) 0
  have k1:w1.cell? ⟨pb,1,none⟩=some (.string p.b):=KP.out w1 (below_grown C1.out (some m1)) 1
  have k2:w1.cell? ⟨pb,2,none⟩=some (.int .i64 s):=KP.out w1 (below_grown C1.out (some m1)) 2
  have k3:w1.cell? ⟨pb,3,none⟩=some (.slice a nw cw):=KP.out w1 (below_grown C1.out (some m1)) 3
  have k4:w1.cell? ⟨pb,4,none⟩=some (.string p.h):=KP.out w1 (below_grown C1.out (some m1)) 4
  have k5:w1.cell? ⟨pb,5,none⟩=some (.string p.c):=KP.out w1 (below_grown C1.out (some m1)) 5
  have k6:w1.cell? ⟨pb,6,none⟩=some (.int .i64 p.t):=KP.out w1 (below_grown C1.out (some m1)) 6
  go_wp2_with fail
  clear k0 k1 k2 k3 k4 k5 k6
  refine (MG.out w1 C1.out).mono ?_
  rintro e w2 ⟨rfl,c2⟩
  have C2:=hidP (bl_trans C1.out c2)
  clear c2
  cases q2:mayG t p gs
  ·
   have HNO:Hid (¬ GiveOk t p gs ps):=fun h=>by have h9:=h.2.1; rw [q2] at h9; cases h9
   clear q2
   obtain ⟨te,pe,hev⟩:=HE4.out w2 (below_grown C2.out (some m1))
   go_wp2_with fail
   go_quiet (fail)
   go_wp2
   refine bodyPost_ret (v:=.tuple #[.slice none 0 0,.iface te pe]) (by simp [results,Tryz.results50,go_sem]) rfl ⟨⟨_,_,rfl,Or.inr ⟨HNO.out,rfl,te,pe,rfl⟩⟩, ?_⟩
   exact ((below_grown B0.out (some m1)).andThen (below_grown C2.out (some m1)) (fun j hj=>Or.inr hj)).andThen (grown_drewN _ _) (fun j hj=>Or.inr hj)
  have HQ2:=hidP q2
  clear q2
  have k4:w2.cell? ⟨pb,4,none⟩=some (.string p.h):=KP.out w2 (below_grown C2.out (some m1)) 4
  go_wp2_with fail
  clear k4
  refine (MR.out w2 C2.out).mono ?_
  rintro e w3 ⟨rfl,b3,o3,g3⟩
  have B3:=hidP b3
  have O3:=hidP o3
  have G3:Hid (W0.grownBy w3 (some m1)):=(below_grown C2.out (some m1)).andThen g3 (fun j hj=>Or.inr hj)
  clear b3 o3 g3
  cases q3:roomG p.h lg
  ·
   have HNO:Hid (¬ GiveOk t p gs ps):=fun h=>by have h3:=h.2.2; rw [← HLG.out,q3] at h3; cases h3
   clear q3
   obtain ⟨te,pe,hev⟩:=HE5.out w3 (G3.out)
   go_wp2_with fail
   go_quiet (fail)
   go_wp2
   refine bodyPost_ret (v:=.tuple #[.slice none 0 0,.iface te pe]) (by simp [results,Tryz.results50,go_sem]) rfl ⟨⟨_,_,rfl,Or.inr ⟨HNO.out,rfl,te,pe,rfl⟩⟩, ?_⟩
   exact ((below_grown B0.out (some m1)).andThen (G3.out) (fun j hj=>Or.inr hj)).andThen (grown_drewN _ _) (fun j hj=>Or.inr hj)
  have HYES:Hid (GiveOk t p gs ps):=⟨HQ1.out,HQ2.out,by rw [← HLG.out]; exact q3⟩
  clear q3
  obtain ⟨Y,hY⟩:∃ Y:World,Y=w3:=⟨_,rfl⟩
  subst hY
  have KD:Hid (∀ y,Below Y.heap.size Y y→∀ j,y.cell? ⟨d,j,none⟩=(#[.int .i64 t,.map (some m1),.map (some m2)]:Array Value)[j]?):=fun y hy=>(B3.out.keep hy).c
  have KPY:Hid (∀ y,Below Y.heap.size Y y→∀ j,y.cell? ⟨pb,j,none⟩=(#[.int .i64 p.k,.string p.b,.int .i64 s,.slice a nw cw,.string p.h,.string p.c,.int .i64 p.t]:Array Value)[j]?):=fun y hy=>KP.out y (G3.out.andThen (below_grown hy (some m1)) (fun j hj=>Or.inr hj))
  have UP:Hid (∀ y,Below Y.heap.size Y y→∃ w2 n2,Sem.run Tryz.prog (Instr.mapUpdate 90 (.map (some m1)) (.string p.h) (.agg #[.string p.h,.string p.b,.string p.c,.int .i64 p.t,.int .i64 (t+32)])) y=.ok () w2∧w2.ownsMap Tryz.prog 9 G.RV m1 n2 (G.dec (Ord.insS G.keyV (newG t p) lg))∧y.grownBy w2 (some m1)):=fun y hy=>UPD.out y (G.mapv_below O3.out hy)
  go_wp2_with fail
  refine wp_region_any (by kernel_rfl) ?_
  refine reg_invG slGi 21 (GGi d pb m1 t p) (DGi m1 (newG t p) lg Y) (by decide) rfl ⟨fun _=>bl_drew bR,fun e=>by cases e⟩ ?done ?step
  case done =>
   intro L a y hL hdf hsz hout hG hD
   obtain ⟨hg3,n3,ho3⟩:=hD.2 (hL 20 (by omega))
   have HG4:Hid (W0.grownBy y (some m1)):=G3.out.andThen hg3 (fun j hj=>Or.inr hj)
   have HB4:=hidP (book_grants B3.out HD1.out hg3 ho3)
   clear hG hD hL hg3 ho3
   obtain ⟨l',hl',ha⟩:=frameP_of (lo:=25) (n:=20) hdf hsz (fun j hj=>by
    by_cases hj9:j < 100000
    · exact hout j (fun i hi=>slGi_far j hj9 hj i hi)
    rw [Array.getD_eq_getD_getElem?,Array.getD_eq_getD_getElem?,Array.getElem?_eq_none (Nat.le_trans (Nat.le_of_eq hsz) (Nat.le_trans (lE rfl) (Nat.le_of_not_lt hj9))),Array.getElem?_eq_none (Nat.le_trans (lE rfl) (Nat.le_of_not_lt hj9))]) (lE rfl)
   subst ha
   obtain ⟨s0,sl0,rfl,sh0⟩:=lenP_succ hl'
   obtain ⟨s1,sl1,rfl,sh1⟩:=lenP_succ sh0
   obtain ⟨s2,sl2,rfl,sh2⟩:=lenP_succ sh1
   obtain ⟨s3,sl3,rfl,sh3⟩:=lenP_succ sh2
   obtain ⟨s4,sl4,rfl,sh4⟩:=lenP_succ sh3
   obtain ⟨s5,sl5,rfl,sh5⟩:=lenP_succ sh4
   obtain ⟨s6,sl6,rfl,sh6⟩:=lenP_succ sh5
   obtain ⟨s7,sl7,rfl,sh7⟩:=lenP_succ sh6
   obtain ⟨s8,sl8,rfl,sh8⟩:=lenP_succ sh7
   obtain ⟨s9,sl9,rfl,sh9⟩:=lenP_succ sh8
   obtain ⟨s10,sl10,rfl,sh10⟩:=lenP_succ sh9
   obtain ⟨s11,sl11,rfl,sh11⟩:=lenP_succ sh10
   obtain ⟨s12,sl12,rfl,sh12⟩:=lenP_succ sh11
   obtain ⟨s13,sl13,rfl,sh13⟩:=lenP_succ sh12
   obtain ⟨s14,sl14,rfl,sh14⟩:=lenP_succ sh13
   obtain ⟨s15,sl15,rfl,sh15⟩:=lenP_succ sh14
   obtain ⟨s16,sl16,rfl,sh16⟩:=lenP_succ sh15
   obtain ⟨s17,sl17,rfl,sh17⟩:=lenP_succ sh16
   obtain ⟨s18,sl18,rfl,sh18⟩:=lenP_succ sh17
   obtain ⟨s19,sl19,rfl,sh19⟩:=lenP_succ sh18
   obtain rfl:=lenP_zero sh19
   clear hdf hsz hout
   simp only [tkd,Nat.reduceAdd]
   have p1:y.cell? ⟨pb,1,none⟩=some (.string p.b):=KP.out y HG4.out 1
   have p4:y.cell? ⟨pb,4,none⟩=some (.string p.h):=KP.out y HG4.out 4
   have p5:y.cell? ⟨pb,5,none⟩=some (.string p.c):=KP.out y HG4.out 5
   have p6:y.cell? ⟨pb,6,none⟩=some (.int .i64 p.t):=KP.out y HG4.out 6
   have hb:=bld3 p
   go_wp2
   refine bodyPost_ret (v:=.tuple #[.slice (some ⟨y.heap.size,0,none⟩) 1 1,.nilIface]) (by simp [results,Tryz.results50,go_sem]) rfl ⟨⟨_,_,rfl,Or.inl ⟨HYES.out,rfl,y.heap.size,rfl, ?_,heap_alloc_newL y _, ?_⟩⟩, ?_⟩
   ·
    have h1:=HG4.out.size
    have h2:=B0.out.size
    omega
   ·
    rw [← HLG.out]
    exact Book.keep HB4.out (bl_alloc bR _)
   exact ((below_grown B0.out (some m1)).andThen HG4.out (fun j hj=>Or.inr hj)).andThen (World.grownBy_alloc y _ none) (fun j hj=>by cases hj)
  intro listed x y i hI hi hlt
  have ho:=ready_open hi
  have HLZ:=hidP hI.lz
  have HD:=hidP hI.d
  have HJ:=hidP hI
  have HI:=hidP hi
  have HO:=hidP ho
  obtain rfl | rfl | rfl | rfl | rfl | rfl | rfl | rfl | rfl | rfl | rfl | rfl | rfl | rfl | rfl | rfl | rfl | rfl | rfl | rfl | rfl:i=0∨i=1∨i=2∨i=3∨i=4∨i=5∨i=6∨i=7∨i=8∨i=9∨i=10∨i=11∨i=12∨i=13∨i=14∨i=15∨i=16∨i=17∨i=18∨i=19∨i=20:=by omega
  ·
   have h6:=ntr hI.tr ho [3,2,1,0] 20 rfl rfl
   have hb6:Below Y.heap.size Y y:=hI.d.1 h6
   have e1:x.tmps[0]?.getD undef=.pointer (some ⟨d,0,none⟩):=ev_tmp (hI.out 0 (fun i hi=>slGi_far 0 (by omega) (by omega) i hi))
   have HB6:=hidP hb6
   clear hb6
   clear hi hI ho
   refine op9 fun K hK=>?_
   go_simp
   exact HJ.out.pu hK HI.out (rfl) (fun j u _ _ _ _ h=>GGi.keep j u h) (HD.out.keep (by decide))
  ·
   have h6:=ntr hI.tr ho [3,2,1] 20 rfl rfl
   have hb6:Below Y.heap.size Y y:=hI.d.1 h6
   have e1:x.tmps[25]?.getD undef=_:=ev_tmp (hI.good 0 (by omega) (wO hi))
   have HB6:=hidP hb6
   clear hb6
   clear hi hI ho
   refine op9 fun K hK=>?_
   go_simp
   exact HJ.out.pu hK HI.out (rfl) (fun j u _ _ _ _ h=>GGi.keep j u h) (HD.out.keep (by decide))
  ·
   have h6:=ntr hI.tr ho [3,2] 20 rfl rfl
   have hb6:Below Y.heap.size Y y:=hI.d.1 h6
   have e1:x.tmps[26]?.getD undef=_:=ev_tmp (hI.good 1 (by omega) (wO hi))
   have HB6:=hidP hb6
   clear hb6
   clear hi hI ho
   refine op9 fun K hK=>?_
   go_simp
   exact HJ.out.pu hK HI.out (rfl) (fun j u _ _ _ _ h=>GGi.keep j u h) (HD.out.keep (by decide))
  ·
   have h6:=ntr hI.tr ho [3] 20 rfl rfl
   have hb6:Below Y.heap.size Y y:=hI.d.1 h6
   have e1:x.tmps[27]?.getD undef=_:=ev_tmp (hI.good 2 (by omega) (wO hi))
   have k1:y.cell? ⟨d,1,none⟩=some (.map (some m1)):=KD.out y hb6 1
   have HB6:=hidP hb6
   clear hb6
   clear hi hI ho
   refine op9 fun K hK=>?_
   go_simp
   exact HJ.out.pu hK HI.out (rfl) (fun j u _ _ _ _ h=>GGi.keep j u h) (HD.out.keep (by decide))
  ·
   have h6:=ntr hI.tr ho [5,4] 20 rfl rfl
   have hb6:Below Y.heap.size Y y:=hI.d.1 h6
   have e1:x.tmps[3]?.getD undef=.pointer (some ⟨pb,0,none⟩):=ev_tmp (hI.out 3 (fun i hi=>slGi_far 3 (by omega) (by omega) i hi))
   have HB6:=hidP hb6
   clear hb6
   clear hi hI ho
   refine op9 fun K hK=>?_
   go_simp
   exact HJ.out.pu hK HI.out (rfl) (fun j u _ _ _ _ h=>GGi.keep j u h) (HD.out.keep (by decide))
  ·
   have h6:=ntr hI.tr ho [5] 20 rfl rfl
   have hb6:Below Y.heap.size Y y:=hI.d.1 h6
   have e1:x.tmps[29]?.getD undef=_:=ev_tmp (hI.good 4 (by omega) (wO hi))
   have k1:y.cell? ⟨pb,4,none⟩=some (.string p.h):=KPY.out y hb6 4
   have HB6:=hidP hb6
   clear hb6
   clear hi hI ho
   refine op9 fun K hK=>?_
   go_simp
   exact HJ.out.pu hK HI.out (rfl) (fun j u _ _ _ _ h=>GGi.keep j u h) (HD.out.keep (by decide))
  ·
   have h6:=ntr hI.tr ho [19,7,6] 20 rfl rfl
   have hb6:Below Y.heap.size Y y:=hI.d.1 h6
   have e1:x.tmps[3]?.getD undef=.pointer (some ⟨pb,0,none⟩):=ev_tmp (hI.out 3 (fun i hi=>slGi_far 3 (by omega) (by omega) i hi))
   have HB6:=hidP hb6
   clear hb6
   clear hi hI ho
   refine op9 fun K hK=>?_
   go_simp
   exact HJ.out.pu hK HI.out (rfl) (fun j u _ _ _ _ h=>GGi.keep j u h) (HD.out.keep (by decide))
  ·
   have h6:=ntr hI.tr ho [19,7] 20 rfl rfl
   have hb6:Below Y.heap.size Y y:=hI.d.1 h6
   have e1:x.tmps[31]?.getD undef=_:=ev_tmp (hI.good 6 (by omega) (wO hi))
   have k1:y.cell? ⟨pb,4,none⟩=some (.string p.h):=KPY.out y hb6 4
   have HB6:=hidP hb6
   clear hb6
   clear hi hI ho
   refine op9 fun K hK=>?_
   go_simp
   exact HJ.out.pu hK HI.out (rfl) (fun j u _ _ _ _ h=>GGi.keep j u h) (HD.out.keep (by decide))
  ·
   have h6:=ntr hI.tr ho [19,9,8] 20 rfl rfl
   have hb6:Below Y.heap.size Y y:=hI.d.1 h6
   have e1:x.tmps[3]?.getD undef=.pointer (some ⟨pb,0,none⟩):=ev_tmp (hI.out 3 (fun i hi=>slGi_far 3 (by omega) (by omega) i hi))
   have HB6:=hidP hb6
   clear hb6
   clear hi hI ho
   refine op9 fun K hK=>?_
   go_simp
   exact HJ.out.pu hK HI.out (rfl) (fun j u _ _ _ _ h=>GGi.keep j u h) (HD.out.keep (by decide))
  ·
   have h6:=ntr hI.tr ho [19,9] 20 rfl rfl
   have hb6:Below Y.heap.size Y y:=hI.d.1 h6
   have e1:x.tmps[33]?.getD undef=_:=ev_tmp (hI.good 8 (by omega) (wO hi))
   have k1:y.cell? ⟨pb,1,none⟩=some (.string p.b):=KPY.out y hb6 1
   have HB6:=hidP hb6
   clear hb6
   clear hi hI ho
   refine op9 fun K hK=>?_
   go_simp
   exact HJ.out.pu hK HI.out (rfl) (fun j u _ _ _ _ h=>GGi.keep j u h) (HD.out.keep (by decide))
  ·
   have h6:=ntr hI.tr ho [19,11,10] 20 rfl rfl
   have hb6:Below Y.heap.size Y y:=hI.d.1 h6
   have e1:x.tmps[3]?.getD undef=.pointer (some ⟨pb,0,none⟩):=ev_tmp (hI.out 3 (fun i hi=>slGi_far 3 (by omega) (by omega) i hi))
   have HB6:=hidP hb6
   clear hb6
   clear hi hI ho
   refine op9 fun K hK=>?_
   go_simp
   exact HJ.out.pu hK HI.out (rfl) (fun j u _ _ _ _ h=>GGi.keep j u h) (HD.out.keep (by decide))
  ·
   have h6:=ntr hI.tr ho [19,11] 20 rfl rfl
   have hb6:Below Y.heap.size Y y:=hI.d.1 h6
   have e1:x.tmps[35]?.getD undef=_:=ev_tmp (hI.good 10 (by omega) (wO hi))
   have k1:y.cell? ⟨pb,5,none⟩=some (.string p.c):=KPY.out y hb6 5
   have HB6:=hidP hb6
   clear hb6
   clear hi hI ho
   refine op9 fun K hK=>?_
   go_simp
   exact HJ.out.pu hK HI.out (rfl) (fun j u _ _ _ _ h=>GGi.keep j u h) (HD.out.keep (by decide))
  ·
   have h6:=ntr hI.tr ho [19,13,12] 20 rfl rfl
   have hb6:Below Y.heap.size Y y:=hI.d.1 h6
   have e1:x.tmps[3]?.getD undef=.pointer (some ⟨pb,0,none⟩):=ev_tmp (hI.out 3 (fun i hi=>slGi_far 3 (by omega) (by omega) i hi))
   have HB6:=hidP hb6
   clear hb6
   clear hi hI ho
   refine op9 fun K hK=>?_
   go_simp
   exact HJ.out.pu hK HI.out (rfl) (fun j u _ _ _ _ h=>GGi.keep j u h) (HD.out.keep (by decide))
  ·
   have h6:=ntr hI.tr ho [19,13] 20 rfl rfl
   have hb6:Below Y.heap.size Y y:=hI.d.1 h6
   have e1:x.tmps[37]?.getD undef=_:=ev_tmp (hI.good 12 (by omega) (wO hi))
   have k1:y.cell? ⟨pb,6,none⟩=some (.int .i64 p.t):=KPY.out y hb6 6
   have HB6:=hidP hb6
   clear hb6
   clear hi hI ho
   refine op9 fun K hK=>?_
   go_simp
   exact HJ.out.pu hK HI.out (rfl) (fun j u _ _ _ _ h=>GGi.keep j u h) (HD.out.keep (by decide))
  ·
   have h6:=ntr hI.tr ho [19,18,17,16,15,14] 20 rfl rfl
   have hb6:Below Y.heap.size Y y:=hI.d.1 h6
   have e1:x.tmps[0]?.getD undef=.pointer (some ⟨d,0,none⟩):=ev_tmp (hI.out 0 (fun i hi=>slGi_far 0 (by omega) (by omega) i hi))
   have HB6:=hidP hb6
   clear hb6
   clear hi hI ho
   refine op9 fun K hK=>?_
   go_simp
   exact HJ.out.pu hK HI.out (rfl) (fun j u _ _ _ _ h=>GGi.keep j u h) (HD.out.keep (by decide))
  ·
   have h6:=ntr hI.tr ho [19,18,17,16,15] 20 rfl rfl
   have hb6:Below Y.heap.size Y y:=hI.d.1 h6
   have e1:x.tmps[39]?.getD undef=_:=ev_tmp (hI.good 14 (by omega) (wO hi))
   have HB6:=hidP hb6
   clear hb6
   clear hi hI ho
   refine op9 fun K hK=>?_
   go_simp
   exact HJ.out.pu hK HI.out (rfl) (fun j u _ _ _ _ h=>GGi.keep j u h) (HD.out.keep (by decide))
  ·
   have h6:=ntr hI.tr ho [19,18,17,16] 20 rfl rfl
   have hb6:Below Y.heap.size Y y:=hI.d.1 h6
   have e1:x.tmps[40]?.getD undef=_:=ev_tmp (hI.good 15 (by omega) (wO hi))
   have HB6:=hidP hb6
   clear hb6
   clear hi hI ho
   refine op9 fun K hK=>?_
   go_simp
   exact HJ.out.pu hK HI.out (rfl) (fun j u _ _ _ _ h=>GGi.keep j u h) (HD.out.keep (by decide))
  ·
   have h6:=ntr hI.tr ho [19,18,17] 20 rfl rfl
   have hb6:Below Y.heap.size Y y:=hI.d.1 h6
   have e1:x.tmps[41]?.getD undef=_:=ev_tmp (hI.good 16 (by omega) (wO hi))
   have k1:y.cell? ⟨d,0,none⟩=some (.int .i64 t):=KD.out y hb6 0
   have HB6:=hidP hb6
   clear hb6
   clear hi hI ho
   refine op9 fun K hK=>?_
   go_simp
   exact HJ.out.pu hK HI.out (rfl) (fun j u _ _ _ _ h=>GGi.keep j u h) (HD.out.keep (by decide))
  ·
   have h6:=ntr hI.tr ho [19,18] 20 rfl rfl
   have hb6:Below Y.heap.size Y y:=hI.d.1 h6
   have e1:x.tmps[42]?.getD undef=_:=ev_tmp (hI.good 17 (by omega) (wO hi))
   have HB6:=hidP hb6
   clear hb6
   clear hi hI ho
   refine op9 fun K hK=>?_
   go_simp
   exact HJ.out.pu hK HI.out (rfl) (fun j u _ _ _ _ h=>GGi.keep j u h) (HD.out.keep (by decide))
  ·
   have h6:=ntr hI.tr ho [19] 20 rfl rfl
   have hb6:Below Y.heap.size Y y:=hI.d.1 h6
   have e1:x.tmps[32]?.getD undef=_:=ev_tmp (hI.good 7 (by omega) (wO hi))
   have e2:x.tmps[34]?.getD undef=_:=ev_tmp (hI.good 9 (by omega) (wO hi))
   have e3:x.tmps[36]?.getD undef=_:=ev_tmp (hI.good 11 (by omega) (wO hi))
   have e4:x.tmps[38]?.getD undef=_:=ev_tmp (hI.good 13 (by omega) (wO hi))
   have e5:x.tmps[43]?.getD undef=_:=ev_tmp (hI.good 18 (by omega) (wO hi))
   have HB6:=hidP hb6
   clear hb6
   clear hi hI ho
   refine op9 fun K hK=>?_
   go_simp
   exact HJ.out.pu hK HI.out (rfl) (fun j u _ _ _ _ h=>GGi.keep j u h) (HD.out.keep (by decide))
  have h6:listed.getD 20 false=false:=noT (fun h=>openT ho h)
  have hb6:Below Y.heap.size Y y:=hI.d.1 h6
  have e1:x.tmps[28]?.getD undef=_:=ev_tmp (hI.good 3 (by omega) (wO hi))
  have e2:x.tmps[30]?.getD undef=_:=ev_tmp (hI.good 5 (by omega) (wO hi))
  have e3:x.tmps[44]?.getD undef=_:=ev_tmp (hI.good 19 (by omega) (wO hi))
  obtain ⟨w2,n2,hrun,ho2,hg2⟩:=UP.out y hb6
  have HO2:=hidP ho2
  have HG2:=hidP hg2
  clear ho2 hg2
  have HB6:=hidP hb6
  clear hb6
  clear hi hI ho
  refine op9 fun K hK=>?_
  go_simp
  exact hK.out _ _ (HJ.out.nil HI.out (by omega) (fun _=>trivial) (fun j u _ _ _ _ h=>GGi.keep j u h) (⟨(fun e=>by rw [setT_same (by rw [HLZ.out]; omega)] at e; cases e),fun _=>⟨(below_grown HB6.out (some m1)).andThen HG2.out (fun j hj=>Or.inr hj),n2,HO2.out⟩⟩) undef)
end Go.Proofs.YtcjhlhijdacinaaGreatDoor
namespace Go.Proofs.YtcjhlhijdacinaaGreatDoor
open Go.RowKit Go.Maps Go.WideMaps
set_option linter.unusedVariables false
def arrS (x:SaysC):Array Value:=#[.int .i64 x.1,.string x.2.1,.int .i64 x.2.2.1,.slice none 0 0,.string x.2.2.2.2.1,.string x.2.2.2.2.2.1,.int .i64 x.2.2.2.2.2.2]
def TakeEnds (t:Int) (p:TakeP) (gs:List G.GrantD) (ps:List P.PlaceD) (w w':World) (d m1 m2:Nat) (v er:Value):Prop :=
 (er=.nilIface∧∃ g9 x,(takeF t gs ps p).2=[x]∧x.2.2.2.1=[]∧v=.slice (some ⟨g9,0,none⟩) 1 1∧w.heap.size≤g9∧w'.heap[g9]?=some (.cells (arrS x) 29 (0,0))∧Book w' d t m1 m2 (takeF t gs ps p).1 (ps.map Pr.raw)) ∨
  (takeF t gs ps p=(gs,[])∧v=.slice none 0 0∧∃ te pe,er=.iface te pe)
set_option maxRecDepth 4000 in
set_option maxHeartbeats 4000000 in
theorem take_any (d m1 m2 n:Nat) (t:Int) (p:TakeP) (s:Int) (a:Option Addr) (nw cw:Nat) (gs:List G.GrantD) (ps:List P.PlaceD) (w:World) (hB:Book w d t m1 m2 gs (ps.map Pr.raw)) (hn:n≤1048576) (hown:w.ownsMap Tryz.prog 9 G.RV m1 n (G.dec gs)) (hd:d≠m1) (hsg:G.Srt gs) (hgl:gs.length≤1048576) (hgf:∀ g∈gs,g.h.size≤maxLen) (hs:Ord.Srt keyP ps) (hsrc:∀ q∈ps,W.Src w q.a q.c q.ws) (hln:∀ q∈ps,q.ws.length≤1048576) (hf:p.fits) (ht:0≤t∧t≤2000000)
  (hE1:∀ y,w.grownBy y (some m1)→ErrAt y 1) (hE2:∀ y,w.grownBy y (some m1)→ErrAt y 2) (hE3:∀ y,w.grownBy y (some m1)→ErrAt y 6) (hE4:∀ y,w.grownBy y (some m1)→ErrAt y 7) (hE5:∀ y,w.grownBy y (some m1)→ErrAt y 8) :
  Calls Tryz.prog 23 #[.pointer (some ⟨d,0,none⟩),.agg #[.int .i64 p.k,.string p.b,.int .i64 s,.slice a nw cw,.string p.h,.string p.c,.int .i64 p.t]] w fun e w'=>(∃ v er,e=.returned (.tuple #[v,er])∧TakeEnds t p gs ps w w' d m1 m2 v er)∧w.grownBy w' (some m1):=by
 obtain ⟨W0,hW0⟩:∃ W0,W0=w.alloc (.cells #[.int .i64 p.k,.string p.b,.int .i64 s,.slice a nw cw,.string p.h,.string p.c,.int .i64 p.t] 29):=⟨_,rfl⟩
 have HW0:=hidP hW0
 have B0:Hid (Below w.heap.size w W0):=by rw [hW0]; exact bl_alloc bR _
 obtain ⟨pb,hpb⟩:∃ pb,pb=w.heap.size:=⟨_,rfl⟩
 have ZB:Hid (pb < W0.heap.size):=by rw [hW0,hpb]; show _ < _; simp
 have KP:Hid (∀ y,Below W0.heap.size W0 y→∀ j,y.cell? ⟨pb,j,none⟩=(#[.int .i64 p.k,.string p.b,.int .i64 s,.slice a nw cw,.string p.h,.string p.c,.int .i64 p.t]:Array Value)[j]?):=by
  intro y hb j
  rw [hW0] at hb
  rw [hpb,box_keep hb j]
  simp [go_sem]
 have HN:=hidP (namesHold_any p s a nw cw W0 hf)
 have UPG:∀ {x y:World},Below w.heap.size w x→x.grownBy y (some m1)→w.grownBy y (some m1):=fun hx hy=>(below_grown hx (some m1)).andThen hy (fun j hj=>Or.inr hj)
 have HG:Hid (∀ y,Below W0.heap.size W0 y→Calls Tryz.prog 50 #[.pointer (some ⟨d,0,none⟩),.agg #[.int .i64 p.k,.string p.b,.int .i64 s,.slice a nw cw,.string p.h,.string p.c,.int .i64 p.t]] y fun e w'=>(∃ v er,e=.returned (.tuple #[v,er])∧((GiveOk t p gs ps∧er=.nilIface∧∃ g9,v=.slice (some ⟨g9,0,none⟩) 1 1∧y.heap.size≤g9∧w'.heap[g9]?=some (.cells (arr3 p) 29 (0,0))∧Book w' d t m1 m2 (Ord.insS G.keyV (newG t p) (leftG t p.h gs)) (ps.map Pr.raw))∨(¬ GiveOk t p gs ps∧v=.slice none 0 0∧∃ te pe,er=.iface te pe)))∧y.grownBy w' (some m1)):=fun y hy=>by
  have hy2:=bl_trans B0.out hy
  exact give_any d m1 m2 n t p s a nw cw gs ps y (hB.keep hy2) hn (G.mapv_below hown hy2) hd hsg hgl hgf hs (fun q hq=>(hsrc q hq).keep hy2) hln hf ht (fun z hz=>hE3 z (UPG hy2 hz)) (fun z hz=>hE4 z (UPG hy2 hz)) (fun z hz=>hE5 z (UPG hy2 hz))
 have HT:Hid (∀ y,Below W0.heap.size W0 y→Calls Tryz.prog 51 #[.pointer (some ⟨d,0,none⟩),.agg #[.int .i64 p.k,.string p.b,.int .i64 s,.slice a nw cw,.string p.h,.string p.c,.int .i64 p.t]] y fun e w'=>(∃ g9,e=.returned (.slice (some ⟨g9,0,none⟩) 1 1)∧y.heap.size≤g9∧w'.heap[g9]?=some (.cells (arr5 p) 29 (0,0)))∧Book w' d t m1 m2 (backG p gs) (ps.map Pr.raw)∧y.grownBy w' (some m1)):=fun y hy =>
  takeBack_any d m1 m2 t p s a nw cw gs (ps.map Pr.raw) y (hB.keep (bl_trans B0.out hy)) hd hsg hf
 have HE1:Hid (∀ y,Below W0.heap.size W0 y→ErrAt y 1):=fun y hy=>hE1 y (below_grown (bl_trans B0.out hy) _)
 have HE2:Hid (∀ y,Below W0.heap.size W0 y→ErrAt y 2):=fun y hy=>hE2 y (below_grown (bl_trans B0.out hy) _)
 clear hB hs hf hW0 hown hsg hgl hgf hsrc hln hn hd hE1 hE2 hE3 hE4 hE5 UPG
 go_enter Tryz.func23,Tryz.ntmps23
 go_upto_region 1 with fail
 rw [← HW0.out,← hpb]
 have HPB:=hidP hpb
 clear hpb
 have k0:W0.cell? ⟨pb,0,none⟩=some (.int .i64 p.k):=KP.out W0 bR 0
 have k1:W0.cell? ⟨pb,1,none⟩=some (.string p.b):=KP.out W0 bR 1
 have k2:W0.cell? ⟨pb,2,none⟩=some (.int .i64 s):=KP.out W0 bR 2
 have k3:W0.cell? ⟨pb,3,none⟩=some (.slice a nw cw):=KP.out W0 bR 3
 have k4:W0.cell? ⟨pb,4,none⟩=some (.string p.h):=KP.out W0 bR 4
 have k5:W0.cell? ⟨pb,5,none⟩=some (.string p.c):=KP.out W0 bR 5
 have k6:W0.cell? ⟨pb,6,none⟩=some (.int .i64 p.t):=KP.out W0 bR 6
 go_wp2_with fail
 clear k0 k1 k2 k3 k4 k5 k6
 refine HN.out.mono ?_
 rintro e w1 ⟨rfl,c1⟩
 have C1:=hidP c1
 clear c1
 cases q1:p.good
 ·
  have HNO:Hid (takeF t gs ps p=(gs,[])):=by show _=_; unfold takeF; rw [q1]; rfl
  clear q1
  obtain ⟨te,pe,hev⟩:=HE1.out w1 C1.out
  go_wp2_with fail
  go_quiet (fail)
  go_wp2
  refine bodyPost_ret (v:=.tuple #[.slice none 0 0,.iface te pe]) (by simp [results,Tryz.results23,go_sem]) rfl ⟨⟨_,_,rfl,Or.inr ⟨HNO.out,rfl,te,pe,rfl⟩⟩, ?_⟩
  exact (below_grown (bl_trans B0.out C1.out) (some m1)).andThen (grown_drewN _ _) (fun j hj=>Or.inr hj)
 ·
  have HGD:=hidP q1
  clear q1
  have k0:w1.cell? ⟨pb,0,none⟩=some (.int .i64 p.k):=KP.out w1 C1.out 0
  have k1:w1.cell? ⟨pb,1,none⟩=some (.string p.b):=KP.out w1 C1.out 1
  have k2:w1.cell? ⟨pb,2,none⟩=some (.int .i64 s):=KP.out w1 C1.out 2
  have k3:w1.cell? ⟨pb,3,none⟩=some (.slice a nw cw):=KP.out w1 C1.out 3
  have k4:w1.cell? ⟨pb,4,none⟩=some (.string p.h):=KP.out w1 C1.out 4
  have k5:w1.cell? ⟨pb,5,none⟩=some (.string p.c):=KP.out w1 C1.out 5
  have k6:w1.cell? ⟨pb,6,none⟩=some (.int .i64 p.t):=KP.out w1 C1.out 6
  have hzz:w.heap.size≤w1.heap.size:=(bl_trans B0.out C1.out).size
  have HZZ:=hidP hzz
  clear hzz
  cases q2:(p.k == 2)
  ·
   cases q4:(p.k == 4)
   ·
    have HNO:Hid (takeF t gs ps p=(gs,[])):=by
     have h2:¬ p.k=2:=by simpa using q2
     have h4:¬ p.k=4:=by simpa using q4
     show _=_
     unfold takeF
     rw [HGD.out,if_pos rfl,if_neg h2,if_neg h4]
    obtain ⟨te,pe,hev⟩:=HE2.out w1 C1.out
    go_wp2_with fail
    go_quiet (fail)
    go_wp2
    refine bodyPost_ret (v:=.tuple #[.slice none 0 0,.iface te pe]) (by simp [results,Tryz.results23,go_sem]) rfl ⟨⟨_,_,rfl,Or.inr ⟨HNO.out,rfl,te,pe,rfl⟩⟩, ?_⟩
    exact (below_grown (bl_trans B0.out C1.out) (some m1)).andThen (grown_drewN _ _) (fun j hj=>Or.inr hj)
   have HF:Hid (takeF t gs ps p=(backG p gs,[(5,p.b,0,[],p.h,⟨#[]⟩,p.t)])):=by
    have h2:¬ p.k=2:=by simpa using q2
    have h4:p.k=4:=by simpa using q4
    show _=_
    unfold takeF
    rw [HGD.out,if_pos rfl,if_neg h2,if_pos h4]
   go_wp2_with fail
   clear k0 k1 k2 k3 k4 k5 k6 q2 q4
   refine (HT.out w1 C1.out).mono ?_
   rintro e w2 ⟨⟨g9,rfl,hg9,hrow⟩,hbk,hgr⟩
   have HR:=hidP hrow
   have HBK:=hidP hbk
   have HGR:=hidP hgr
   have HG9:=hidP hg9
   clear hrow hbk hgr hg9
   go_wp2
   refine bodyPost_ret (v:=.tuple #[.slice (some ⟨g9,0,none⟩) 1 1,.nilIface]) (by simp [results,Tryz.results23,go_sem]) rfl ⟨⟨_,_,rfl,Or.inl ⟨rfl,g9,(5,p.b,0,[],p.h,⟨#[]⟩,p.t),by rw [HF.out],rfl,rfl,Nat.le_trans HZZ.out HG9.out,HR.out,by rw [HF.out]; exact HBK.out⟩⟩, ?_⟩
   exact (below_grown (bl_trans B0.out C1.out) (some m1)).andThen HGR.out (fun j hj=>Or.inr hj)
  have HK2:Hid (p.k=2):=by show _=_; simpa using q2
  go_wp2_with fail
  clear k0 k1 k2 k3 k4 k5 k6 q2
  refine (HG.out w1 C1.out).mono ?_
  rintro e w2 ⟨⟨v,er,rfl,hcase⟩,hgr⟩
  have HGR:=hidP hgr
  clear hgr
  rcases hcase with ⟨hok,rfl,g9,rfl,hg9,hrow,hbk⟩ | ⟨hno,rfl,te,pe,rfl⟩
  ·
   have HF:Hid (takeF t gs ps p=(Ord.insS G.keyV (newG t p) (leftG t p.h gs),[(3,p.b,0,[],p.h,p.c,p.t)])):=by
    show _=_
    unfold takeF
    rw [HGD.out,if_pos rfl,if_pos HK2.out,if_pos (show wantedL p ps=true∧mayG t p gs=true∧roomG p.h (leftG t p.h gs)=true from hok)]
   have HR:=hidP hrow
   have HBK:=hidP hbk
   have HG9:=hidP hg9
   clear hrow hbk hg9 hok
   go_wp2
   refine bodyPost_ret (v:=.tuple #[.slice (some ⟨g9,0,none⟩) 1 1,.nilIface]) (by simp [results,Tryz.results23,go_sem]) rfl ⟨⟨_,_,rfl,Or.inl ⟨rfl,g9,(3,p.b,0,[],p.h,p.c,p.t),by rw [HF.out],rfl,rfl,Nat.le_trans HZZ.out HG9.out,HR.out,by rw [HF.out]; exact HBK.out⟩⟩, ?_⟩
   exact (below_grown (bl_trans B0.out C1.out) (some m1)).andThen HGR.out (fun j hj=>Or.inr hj)
  have HNO:Hid (takeF t gs ps p=(gs,[])):=by
   show _=_
   unfold takeF
   rw [HGD.out,if_pos rfl,if_pos HK2.out,if_neg (show ¬ (wantedL p ps=true∧mayG t p gs=true∧roomG p.h (leftG t p.h gs)=true) from hno)]
  clear hno
  go_wp2
  refine bodyPost_ret (v:=.tuple #[.slice none 0 0,.iface te pe]) (by simp [results,Tryz.results23,go_sem]) rfl ⟨⟨_,_,rfl,Or.inr ⟨HNO.out,rfl,te,pe,rfl⟩⟩, ?_⟩
  exact (below_grown (bl_trans B0.out C1.out) (some m1)).andThen HGR.out (fun j hj=>Or.inr hj)
end Go.Proofs.YtcjhlhijdacinaaGreatDoor
