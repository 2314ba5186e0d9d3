import Derived.Test.YtcjhlhijdacinaaGreatDoorJ35
namespace Go.Proofs.YtcjhlhijdacinaaGreatDoor
open Go.RowKit Go.Maps Go.WideMaps
set_option linter.unusedVariables false
theorem foundP (p:TakeP) (ps:List P.PlaceD) (hs:Ord.Srt keyP ps) (hb:p.b.size≤maxLen):∃ (r:Pr.PlRaw) (ws:List W.WantD),r.n=ws.length∧wantedL p ps=wantedW p ws∧(∀ y:World,(∀ q∈ps,W.Src y q.a q.c q.ws)→W.Gv y r.a ws)∧((∀ q∈ps,q.ws.length≤1048576)→ws.length≤1048576)∧∀ (y:World) (m n:Nat),y.ownsMap Tryz.prog 9 Pr.RV m n (Pr.dec (ps.map Pr.raw))→Sem.run Tryz.prog (Instr.lookup 91 (.map (some m)) (.string p.b) false) y=.ok (.agg #[.string r.b,.int .i64 r.s,.slice r.a r.n r.c]) y:=by
 by_cases hx:∃ q∈ps,q.b=p.b
 ·
  obtain ⟨q,hq,e⟩:=hx
  refine ⟨Pr.raw q,q.ws,rfl,wanted_of hs hq e,fun y h=>(h q hq).gv,fun h=>h q hq,fun y m n ho=>?_⟩
  rcases Pr.look1V m n (ps.map Pr.raw) ho (srtP_raw hs) p.b hb with ⟨r,hr,e',hrun⟩ | ⟨hno,-⟩
  ·
   obtain ⟨q',hq',rfl⟩:=List.mem_map.1 hr
   have e2:q'.b=q.b:=(show q'.b=p.b from e').trans e.symm
   rw [srtP_one hs hq hq' e2] at hrun
   exact hrun
  exact (hno (Pr.raw q) (List.mem_map_of_mem hq) e).elim
 refine ⟨⟨⟨#[]⟩,0,none,0,0⟩,[],rfl, ?_,fun y _=>Or.inl rfl,fun _=>by simp,fun y m n ho=>?_⟩
 ·
  rw [wanted_none (fun q hq e=>hx ⟨q,hq,e⟩)]
  rfl
 rcases Pr.look1V m n (ps.map Pr.raw) ho (srtP_raw hs) p.b hb with ⟨r,hr,e',-⟩ | ⟨-,hrun⟩
 ·
  obtain ⟨q',hq',rfl⟩:=List.mem_map.1 hr
  exact (hx ⟨q',hq',e'⟩).elim
 exact hrun
def slWn:Nat→Nat
 | 0=>5
 | 1=>6
 | 2=>7
 | 3=>8
 | 4=>9
 | 5=>10
 | 6=>11
 | 7=>12
 | 8=>13
 | 9=>14
 | 10=>4
 | _=>0
theorem slWn_inj (i:Nat) (hi:i < 11):∀ j,j < 11→slWn j=slWn i→j=i:=by
 have h:∀ a:_root_.Fin 11,∀ b:_root_.Fin 11,slWn b.1=slWn a.1→b.1=a.1:=by decide +kernel
 intro j hj e
 exact h ⟨i,hi⟩ ⟨j,hj⟩ e
theorem slWn_far:∀ j,j < 100000→(j < 4∨4+11≤j)→∀ i,i < 11→slWn i≠j:=by
 intro j h1 h2 i hi
 have h:∀ a:_root_.Fin 11,4≤slWn a.1∧(slWn a.1 < 4+11∨100000≤slWn a.1):=by decide +kernel
 have:=h ⟨i,hi⟩
 dsimp only at this
 omega
def GWn (d pb m2:Nat) (b:ByteArray) (r:Pr.PlRaw) (q:Bool) (L:Array Bool) (w:World):Nat→Value→Prop
 | 0,v=>v=.pointer (some ⟨d,0,none⟩)
 | 1,v=>v=.pointer (some ⟨d,0,none⟩)
 | 2,v=>v=.pointer (some ⟨d,2,none⟩)
 | 3,v=>v=.map (some m2)
 | 4,v=>v=.pointer (some ⟨pb,1,none⟩)
 | 5,v=>v=.string b
 | 6,v=>v=.agg #[.string r.b,.int .i64 r.s,.slice r.a r.n r.c]
 | 7,v=>v=.slice r.a r.n r.c
 | 8,v=>v=.func (.func 89) #[] #[.pointer (some ⟨pb,0,none⟩)]
 | 9,v=>v=.bool q
 | 10,v=>v=.bool q
 | _,_=>True
theorem GWn.keep {d pb m2:Nat} {b:ByteArray} {r:Pr.PlRaw} {q:Bool} {L L':Array Bool} {w w':World}  : ∀ j v,GWn d pb m2 b r q L w j v→GWn d pb m2 b r q L' w' j v
 | 0,_,h=>h
 | 1,_,h=>h
 | 2,_,h=>h
 | 3,_,h=>h
 | 4,_,h=>h
 | 5,_,h=>h
 | 6,_,h=>h
 | 7,_,h=>h
 | 8,_,h=>h
 | 9,_,h=>h
 | 10,_,h=>h
 | _+11,_,h=>h
set_option maxRecDepth 4000 in
set_option maxHeartbeats 4000000 in
theorem isWanted_any (d m1 m2:Nat) (t:Int) (p:TakeP) (s:Int) (a:Option Addr) (nw cw:Nat) (gs:List G.GrantD) (ps:List P.PlaceD) (w:World) (hB:Book w d t m1 m2 gs (ps.map Pr.raw)) (hs:Ord.Srt keyP ps) (hsrc:∀ q∈ps,W.Src w q.a q.c q.ws) (hln:∀ q∈ps,q.ws.length≤1048576) (hf:p.fits) :
  Calls Tryz.prog 76 #[.pointer (some ⟨d,0,none⟩),.agg #[.int .i64 p.k,.string p.b,.int .i64 s,.slice a nw cw,.string p.h,.string p.c,.int .i64 p.t]] w fun e w'=>e=.returned (.bool (wantedL p ps))∧Below w.heap.size w w':=by
 obtain ⟨r,ws,hn,hw,hgv,hl,hlk⟩:=foundP p ps hs hf.b
 obtain ⟨q,hq⟩:∃ q,q=wantedL p ps:=⟨_,rfl⟩
 have HQ:=hidP hq
 obtain ⟨W0,hW0⟩:∃ W0,W0=w.alloc (.cells #[.int .i64 p.k,.string p.b,.int .i64 s,.slice a nw cw,.string p.h,.string p.c,.int .i64 p.t] 29):=⟨_,rfl⟩
 have HW0:=hidP hW0
 have B0:Hid (Below w.heap.size w W0):=by rw [hW0]; exact bl_alloc bR _
 obtain ⟨pb,hpb⟩:∃ pb,pb=w.heap.size:=⟨_,rfl⟩
 have ZB:Hid (pb < W0.heap.size):=by rw [hW0,hpb]; show _ < _; simp
 have KP:Hid (∀ y,Below W0.heap.size W0 y→∀ j,y.cell? ⟨pb,j,none⟩=(#[.int .i64 p.k,.string p.b,.int .i64 s,.slice a nw cw,.string p.h,.string p.c,.int .i64 p.t]:Array Value)[j]?):=by
  intro y hb j
  rw [hW0] at hb
  rw [hpb,box_keep hb j]
  simp [go_sem]
 have KD:Hid (∀ y,Below W0.heap.size W0 y→y.cell? ⟨d,2,none⟩=some (.map (some m2))):=fun y hy=>(hB.keep (bl_trans B0.out hy)).c 2
 have LK:Hid (∀ y,Below W0.heap.size W0 y→Sem.run Tryz.prog (Instr.lookup 91 (.map (some m2)) (.string p.b) false) y=.ok (.agg #[.string r.b,.int .i64 r.s,.slice r.a r.n r.c]) y):=fun y hy=>by
  obtain ⟨n,ho⟩:=(hB.keep (bl_trans B0.out hy)).o2
  exact hlk y m2 n ho
 have CW:Hid (∀ y,Below W0.heap.size W0 y→Calls Tryz.prog 88 #[.slice r.a r.n r.c,.func (.func 89) #[] #[.pointer (some ⟨pb,0,none⟩)]] y fun e w'=>e=.returned (.bool q)∧Below y.heap.size y w'):=fun y hy=>by
  rw [hq,hw,hn]
  exact containsW p r.a r.c ws pb y (hgv y (fun q' hq'=>(hsrc q' hq').keep (bl_trans B0.out hy))) (hl hln) (KP.out y hy 4) (KP.out y hy 5) (Nat.lt_of_lt_of_le ZB.out hy.size)
 clear hB hs hf hW0 hlk hn hw hgv hl hsrc hln hq
 go_enter Tryz.func76,Tryz.ntmps76
 go_wp2_with fail
 rw [← HW0.out,← hpb]
 have HPB:=hidP hpb
 clear hpb
 refine wp_region_any (by kernel_rfl) ?_
 refine reg_invG slWn 11 (GWn d pb m2 p.b r q) (fun _ y=>Below W0.heap.size W0 y) (by decide) rfl bD ?done ?step
 case done =>
  intro L a y hL hdf hsz hout hG hD
  have h4:_=Value.bool q:=hG 10 (by omega)
  have HY:=hidP hD
  clear hG hD hL
  obtain ⟨l',hl',ha⟩:=frameP_of (lo:=4) (n:=11) hdf hsz (fun j hj=>by
   by_cases hj9:j < 100000
   · exact hout j (fun i hi=>slWn_far j hj9 hj i hi)
   rw [Array.getD_eq_getD_getElem?,Array.getD_eq_getD_getElem?,Array.getElem?_eq_none (Nat.le_trans (Nat.le_of_eq hsz) (Nat.le_trans (lE rfl) (Nat.le_of_not_lt hj9))),Array.getElem?_eq_none (Nat.le_trans (lE rfl) (Nat.le_of_not_lt hj9))]) (lE rfl)
  subst ha
  obtain ⟨u0,ul0,rfl,uh0⟩:=lenP_succ hl'
  obtain ⟨u1,ul1,rfl,uh1⟩:=lenP_succ uh0
  obtain ⟨u2,ul2,rfl,uh2⟩:=lenP_succ uh1
  obtain ⟨u3,ul3,rfl,uh3⟩:=lenP_succ uh2
  obtain ⟨u4,ul4,rfl,uh4⟩:=lenP_succ uh3
  obtain ⟨u5,ul5,rfl,uh5⟩:=lenP_succ uh4
  obtain ⟨u6,ul6,rfl,uh6⟩:=lenP_succ uh5
  obtain ⟨u7,ul7,rfl,uh7⟩:=lenP_succ uh6
  obtain ⟨u8,ul8,rfl,uh8⟩:=lenP_succ uh7
  obtain ⟨u9,ul9,rfl,uh9⟩:=lenP_succ uh8
  obtain ⟨u10,ul10,rfl,uh10⟩:=lenP_succ uh9
  obtain rfl:=lenP_zero uh10
  have h4':u0=_:=h4
  subst h4'
  clear h4 hdf hsz hout
  simp only [tkd,Nat.reduceAdd]
  go_wp2
  go_ret
  exact ⟨by rw [HQ.out]; rfl,bl_trans B0.out HY.out⟩
 case step =>
  intro listed x y i hI hi hlt
  have ho:=ready_open hi
  have HLZ:=hidP hI.lz
  have HD:=hidP hI.d
  have HJ:=hidP hI
  have HI:=hidP hi
  have HO:=hidP ho
  obtain rfl | rfl | rfl | rfl | rfl | rfl | rfl | rfl | rfl | rfl | rfl:i=0∨i=1∨i=2∨i=3∨i=4∨i=5∨i=6∨i=7∨i=8∨i=9∨i=10:=by omega
  ·
   have e1:x.tmps[0]?.getD undef=.pointer (some ⟨d,0,none⟩):=ev_tmp (hI.out 0 (fun i hi=>slWn_far 0 (by omega) (by omega) i hi))
   clear hi hI ho
   refine op9 fun K hK=>?_
   go_simp
   exact HJ.out.pu hK HI.out (rfl) (fun j u _ _ _ _ h=>GWn.keep j u h) (HD.out)
  ·
   have e1:x.tmps[5]?.getD undef=_:=ev_tmp (hI.good 0 (by omega) (wO hi))
   clear hi hI ho
   refine op9 fun K hK=>?_
   go_simp
   exact HJ.out.pu hK HI.out (rfl) (fun j u _ _ _ _ h=>GWn.keep j u h) (HD.out)
  ·
   have e1:x.tmps[6]?.getD undef=_:=ev_tmp (hI.good 1 (by omega) (wO hi))
   clear hi hI ho
   refine op9 fun K hK=>?_
   go_simp
   exact HJ.out.pu hK HI.out (rfl) (fun j u _ _ _ _ h=>GWn.keep j u h) (HD.out)
  ·
   have e1:x.tmps[7]?.getD undef=_:=ev_tmp (hI.good 2 (by omega) (wO hi))
   have k1:y.cell? ⟨d,2,none⟩=some (.map (some m2)):=KD.out y hI.d
   clear hi hI ho
   refine op9 fun K hK=>?_
   go_simp
   exact HJ.out.pu hK HI.out (rfl) (fun j u _ _ _ _ h=>GWn.keep j u h) (HD.out)
  ·
   have e1:x.tmps[3]?.getD undef=.pointer (some ⟨pb,0,none⟩):=ev_tmp (hI.out 3 (fun i hi=>slWn_far 3 (by omega) (by omega) i hi))
   clear hi hI ho
   refine op9 fun K hK=>?_
   go_simp
   exact HJ.out.pu hK HI.out (rfl) (fun j u _ _ _ _ h=>GWn.keep j u h) (HD.out)
  ·
   have e1:x.tmps[9]?.getD undef=_:=ev_tmp (hI.good 4 (by omega) (wO hi))
   have k1:y.cell? ⟨pb,1,none⟩=some (.string p.b):=KP.out y hI.d 1
   clear hi hI ho
   refine op9 fun K hK=>?_
   go_simp
   exact HJ.out.pu hK HI.out (rfl) (fun j u _ _ _ _ h=>GWn.keep j u h) (HD.out)
  ·
   have e1:x.tmps[8]?.getD undef=_:=ev_tmp (hI.good 3 (by omega) (wO hi))
   have e2:x.tmps[10]?.getD undef=_:=ev_tmp (hI.good 5 (by omega) (wO hi))
   have k1:=LK.out y hI.d
   clear hi hI ho
   refine op9 fun K hK=>?_
   go_simp
   exact HJ.out.pu hK HI.out (rfl) (fun j u _ _ _ _ h=>GWn.keep j u h) (HD.out)
  ·
   have e1:x.tmps[11]?.getD undef=_:=ev_tmp (hI.good 6 (by omega) (wO hi))
   clear hi hI ho
   refine op9 fun K hK=>?_
   go_simp
   exact HJ.out.pu hK HI.out (rfl) (fun j u _ _ _ _ h=>GWn.keep j u h) (HD.out)
  ·
   have e1:x.tmps[3]?.getD undef=.pointer (some ⟨pb,0,none⟩):=ev_tmp (hI.out 3 (fun i hi=>slWn_far 3 (by omega) (by omega) i hi))
   clear hi hI ho
   refine op9 fun K hK=>?_
   go_simp
   exact HJ.out.pu hK HI.out (rfl) (fun j u _ _ _ _ h=>GWn.keep j u h) (HD.out)
  ·
   have e1:x.tmps[12]?.getD undef=_:=ev_tmp (hI.good 7 (by omega) (wO hi))
   have e2:x.tmps[13]?.getD undef=_:=ev_tmp (hI.good 8 (by omega) (wO hi))
   clear hi hI ho
   refine op9 fun K hK=>?_
   go_simp
   refine (CW.out y HD.out).mono ?_
   rintro e y' ⟨rfl,hb⟩
   exact HJ.out.pu hK HI.out (rfl) (fun j u _ _ _ _ h=>GWn.keep j u h) (bl_trans HD.out hb)
  have e1:x.tmps[14]?.getD undef=_:=ev_tmp (hI.good 9 (by omega) (wO hi))
  clear hi hI ho
  refine op9 fun K hK=>?_
  go_simp
  exact HJ.out.pu hK HI.out (rfl) (fun j u _ _ _ _ h=>GWn.keep j u h) (HD.out)
end Go.Proofs.YtcjhlhijdacinaaGreatDoor
namespace Go.Proofs.YtcjhlhijdacinaaGreatDoor
open Go.RowKit Go.Maps Go.WideMaps
set_option linter.unusedVariables false
def arr5 (p:TakeP):Array Value:=#[.int .i64 5,.string p.b,.int .i64 0,.slice none 0 0,.string p.h,.string ⟨#[]⟩,.int .i64 p.t]
theorem bld5 (p:TakeP) (w:World):Sem.run Tryz.prog (Instr.buildSlice 32 1 #[(0,.agg #[.int .i64 5,.string p.b,.int .i64 0,.slice none 0 0,.string p.h,.string ⟨#[]⟩,.int .i64 p.t])]) w=.ok (.slice (some ⟨w.heap.size,0,none⟩) 1 1) (w.alloc (.cells (arr5 p) 29)):=by kernel_rfl
def slDl:Nat→Nat
 | 0=>32
 | 1=>33
 | 2=>34
 | 3=>35
 | 4=>36
 | 5=>37
 | 6=>100006
 | _=>0
theorem slDl_inj (i:Nat) (hi:i < 7):∀ j,j < 7→slDl j=slDl i→j=i:=by
 have h:∀ a:_root_.Fin 7,∀ b:_root_.Fin 7,slDl b.1=slDl a.1→b.1=a.1:=by decide +kernel
 intro j hj e
 exact h ⟨i,hi⟩ ⟨j,hj⟩ e
theorem slDl_far:∀ j,j < 100000→(j < 32∨32+6≤j)→∀ i,i < 7→slDl i≠j:=by
 intro j h1 h2 i hi
 have h:∀ a:_root_.Fin 7,32≤slDl a.1∧(slDl a.1 < 32+6∨100000≤slDl a.1):=by decide +kernel
 have:=h ⟨i,hi⟩
 dsimp only at this
 omega
def GDl (d pb m1:Nat) (h:ByteArray) (L:Array Bool) (w:World):Nat→Value→Prop
 | 0,v=>v=.pointer (some ⟨d,0,none⟩)
 | 1,v=>v=.pointer (some ⟨d,0,none⟩)
 | 2,v=>v=.pointer (some ⟨d,1,none⟩)
 | 3,v=>v=.map (some m1)
 | 4,v=>v=.pointer (some ⟨pb,4,none⟩)
 | 5,v=>v=.string h
 | 6,v=>True
 | _,_=>True
theorem GDl.keep {d pb m1:Nat} {h:ByteArray} {L L':Array Bool} {w w':World}  : ∀ j v,GDl d pb m1 h L w j v→GDl d pb m1 h L' w' j v
 | 0,_,h=>h
 | 1,_,h=>h
 | 2,_,h=>h
 | 3,_,h=>h
 | 4,_,h=>h
 | 5,_,h=>h
 | 6,_,h=>h
 | _+7,_,h=>h
def DDl (m1:Nat) (h:ByteArray) (gs:List G.GrantD) (Y:World) (L:Array Bool) (w:World):Prop:=(L.getD 6 false=false→Below Y.heap.size Y w)∧(L.getD 6 false=true→Y.grownBy w (some m1)∧∃ n,w.ownsMap Tryz.prog 9 G.RV m1 n (G.dec (Ord.out G.keyV h.data.toList gs)))
theorem DDl.keep {m1:Nat} {h:ByteArray} {gs:List G.GrantD} {Y:World} {L:Array Bool} {w:World} {i:Nat} (hd:DDl m1 h gs Y L w) (hi:6≠i):DDl m1 h gs Y (L.setIfInBounds i true) w:=by
 unfold DDl
 rw [setT_ne hi]
 exact hd
set_option maxRecDepth 4000 in
set_option maxHeartbeats 4000000 in
theorem takeBack_any (d m1 m2:Nat) (t:Int) (p:TakeP) (s:Int) (a:Option Addr) (nw cw:Nat) (gs:List G.GrantD) (rs:List Pr.PlRaw) (w:World) (hB:Book w d t m1 m2 gs rs) (hd:d≠m1) (hs:G.Srt gs) (hf:p.fits) :
  Calls Tryz.prog 51 #[.pointer (some ⟨d,0,none⟩),.agg #[.int .i64 p.k,.string p.b,.int .i64 s,.slice a nw cw,.string p.h,.string p.c,.int .i64 p.t]] w fun e w'=>(∃ g9,e=.returned (.slice (some ⟨g9,0,none⟩) 1 1)∧w.heap.size≤g9∧w'.heap[g9]?=some (.cells (arr5 p) 29 (0,0)))∧Book w' d t m1 m2 (backG p gs) rs∧w.grownBy w' (some m1):=by
 obtain ⟨g,q,hgq,hlk⟩:=foundG p.h gs hs hf.h
 obtain ⟨W0,hW0⟩:∃ W0,W0=w.alloc (.cells #[.int .i64 p.k,.string p.b,.int .i64 s,.slice a nw cw,.string p.h,.string p.c,.int .i64 p.t] 29):=⟨_,rfl⟩
 have HW0:=hidP hW0
 have B0:Hid (Below w.heap.size w W0):=by rw [hW0]; exact bl_alloc bR _
 obtain ⟨pb,hpb⟩:∃ pb,pb=w.heap.size:=⟨_,rfl⟩
 have KP:Hid (∀ y,Below W0.heap.size W0 y→∀ j,y.cell? ⟨pb,j,none⟩=(#[.int .i64 p.k,.string p.b,.int .i64 s,.slice a nw cw,.string p.h,.string p.c,.int .i64 p.t]:Array Value)[j]?):=by
  intro y hb j
  rw [hW0] at hb
  rw [hpb,box_keep hb j]
  simp [go_sem]
 have KD:Hid (∀ y,Below W0.heap.size W0 y→y.cell? ⟨d,1,none⟩=some (.map (some m1))):=fun y hy=>(hB.keep (bl_trans B0.out hy)).c 1
 have LK:Hid (∀ y,Below W0.heap.size W0 y→Sem.run Tryz.prog (Instr.lookup 90 (.map (some m1)) (.string p.h) true) y=.ok (.tuple #[.agg #[.string g.h,.string g.b,.string g.c,.int .i64 g.t,.int .i64 g.u],.bool q]) y):=fun y hy=>by
  obtain ⟨n,ho⟩:=(hB.keep (bl_trans B0.out hy)).o1
  exact hlk y m1 n ho
 have ZB:Hid (pb < W0.heap.size∧pb≠m1):=by
  obtain ⟨n,ho⟩:=hB.o1
  have:=ho.lt
  exact ⟨by rw [hW0,hpb]; simp,by omega⟩
 have OW:Hid (∀ y,Below W0.heap.size W0 y→∃ n,y.ownsMap Tryz.prog 9 G.RV m1 n (G.dec gs)):=fun y hy=>(hB.keep (bl_trans B0.out hy)).o1
 have BKY:Hid (∀ y,Below W0.heap.size W0 y→Book y d t m1 m2 gs rs):=fun y hy=>hB.keep (bl_trans B0.out hy)
 have HKEY:=hidP (keyOf_string_mk Tryz.underlying9 hf.h)
 have HD1:=hidP hd
 have HSAME:Hid ((q=true→backB p g=false)→backG p gs=gs):=fun h=>by
  rcases hgq with ⟨rfl,h1,h2⟩ | ⟨rfl,h1⟩
  · exact back_same (fun r hr e=>by rw [srtG_one hs h1 hr (e.trans h2.symm)]; exact h rfl)
  exact back_same (fun r hr e=>(h1 r hr e).elim)
 have HOUT:Hid (q=true→backB p g=true→Ord.out G.keyV p.h.data.toList gs=backG p gs):=fun hq hb=>by
  rcases hgq with ⟨-,h1,h2⟩ | ⟨h0,h1⟩
  · exact out_back hs h1 h2 hb
  rw [h0] at hq; cases hq
 clear hB hs hf hW0 hlk hgq hd
 go_enter Tryz.func51,Tryz.ntmps51
 go_wp2_with fail
 rw [← HW0.out,← hpb]
 have HPB:=hidP hpb
 clear hpb
 refine wp_region_any (by kernel_rfl) ?_
 refine reg_invG slLk 13 (GLk d pb m1 p.h g q W0.heap.size) (fun _ y=>Below W0.heap.size W0 y) (by decide) rfl bD ?done ?step
 case done =>
  intro L a y hL hdf hsz hout hG hD
  obtain ⟨A,hA,hZ,hA2,-,hrow⟩:=hG 10 (by omega)
  have h6:_=Value.bool q:=hG 12 (by omega)
  have HROW:Hid (y.rangeAt A 0 g.cells):=hrow (hL 11 (by omega))
  have HY:=hidP hD
  have HA2:=hidP hA2
  clear hrow hG hD hL
  obtain ⟨l',hl',ha⟩:=frameP_of (lo:=5) (n:=12) hdf hsz (fun j hj=>by
   by_cases hj9:j < 100000
   · exact hout j (fun i hi=>slLk_far j hj9 hj i hi)
   rw [Array.getD_eq_getD_getElem?,Array.getD_eq_getD_getElem?,Array.getElem?_eq_none (Nat.le_trans (Nat.le_of_eq hsz) (Nat.le_trans (lE rfl) (Nat.le_of_not_lt hj9))),Array.getElem?_eq_none (Nat.le_trans (lE rfl) (Nat.le_of_not_lt hj9))]) (lE rfl)
  subst ha
  obtain ⟨u0,ul0,rfl,uh0⟩:=lenP_succ hl'
  obtain ⟨u1,ul1,rfl,uh1⟩:=lenP_succ uh0
  obtain ⟨u2,ul2,rfl,uh2⟩:=lenP_succ uh1
  obtain ⟨u3,ul3,rfl,uh3⟩:=lenP_succ uh2
  obtain ⟨u4,ul4,rfl,uh4⟩:=lenP_succ uh3
  obtain ⟨u5,ul5,rfl,uh5⟩:=lenP_succ uh4
  obtain ⟨u6,ul6,rfl,uh6⟩:=lenP_succ uh5
  obtain ⟨u7,ul7,rfl,uh7⟩:=lenP_succ uh6
  obtain ⟨u8,ul8,rfl,uh8⟩:=lenP_succ uh7
  obtain ⟨u9,ul9,rfl,uh9⟩:=lenP_succ uh8
  obtain ⟨u10,ul10,rfl,uh10⟩:=lenP_succ uh9
  obtain ⟨u11,ul11,rfl,uh11⟩:=lenP_succ uh10
  obtain rfl:=lenP_zero uh11
  have hA':u0=_:=hA
  have h6':u1=_:=h6
  subst hA' h6'
  clear hA h6 hdf hsz hout
  simp only [tkd,Nat.reduceAdd]
  have k1:y.cell? ⟨A,1,none⟩=some (.string g.b):=HROW.out 1 _ rfl
  have k3:y.cell? ⟨A,3,none⟩=some (.int .i64 g.t):=HROW.out 3 _ rfl
  have p1':y.cell? ⟨pb,1,none⟩=some (.string p.b):=KP.out y HY.out 1
  have p6':y.cell? ⟨pb,6,none⟩=some (.int .i64 p.t):=KP.out y HY.out 6
  cases q
  ·
   have HE:Hid (backG p gs=gs):=HSAME.out (fun h=>by cases h)
   have p1:y.cell? ⟨pb,1,none⟩=some (.string p.b):=grown_cell (below_grown HY.out (some m1)) ZB.out.1 ZB.out.2 (KP.out W0 bR 1)
   have p4:y.cell? ⟨pb,4,none⟩=some (.string p.h):=grown_cell (below_grown HY.out (some m1)) ZB.out.1 ZB.out.2 (KP.out W0 bR 4)
   have p6:y.cell? ⟨pb,6,none⟩=some (.int .i64 p.t):=grown_cell (below_grown HY.out (some m1)) ZB.out.1 ZB.out.2 (KP.out W0 bR 6)
   have hb:=bld5 p
   go_wp2
   go_ret
   refine ⟨⟨y.heap.size,rfl, ?_,heap_alloc_newL y _⟩, ?_, ?_⟩
   ·
    have h1:=(below_grown HY.out (some m1)).size
    have h2:=B0.out.size
    omega
   ·
    rw [HE.out]
    exact Book.keep (BKY.out y HY.out) (bl_alloc bR _)
   exact ((below_grown B0.out (some m1)).andThen (below_grown HY.out (some m1)) (fun j hj=>Or.inr hj)).andThen (World.grownBy_alloc y _ none) (fun j hj=>by cases hj)
  cases q1:(g.b.toList == p.b.toList)
  ·
   have HE:Hid (backG p gs=gs):=HSAME.out (fun _=>by unfold backB eqT; rw [q1]; rfl)
   have p1:y.cell? ⟨pb,1,none⟩=some (.string p.b):=grown_cell (below_grown HY.out (some m1)) ZB.out.1 ZB.out.2 (KP.out W0 bR 1)
   have p4:y.cell? ⟨pb,4,none⟩=some (.string p.h):=grown_cell (below_grown HY.out (some m1)) ZB.out.1 ZB.out.2 (KP.out W0 bR 4)
   have p6:y.cell? ⟨pb,6,none⟩=some (.int .i64 p.t):=grown_cell (below_grown HY.out (some m1)) ZB.out.1 ZB.out.2 (KP.out W0 bR 6)
   have hb:=bld5 p
   go_wp2
   go_ret
   refine ⟨⟨y.heap.size,rfl, ?_,heap_alloc_newL y _⟩, ?_, ?_⟩
   ·
    have h1:=(below_grown HY.out (some m1)).size
    have h2:=B0.out.size
    omega
   ·
    rw [HE.out]
    exact Book.keep (BKY.out y HY.out) (bl_alloc bR _)
   exact ((below_grown B0.out (some m1)).andThen (below_grown HY.out (some m1)) (fun j hj=>Or.inr hj)).andThen (World.grownBy_alloc y _ none) (fun j hj=>by cases hj)
  by_cases q2:g.t≤p.t
  ·
   have HE:Hid (Ord.out G.keyV p.h.data.toList gs=backG p gs):=HOUT.out rfl (by unfold backB eqT; rw [q1,decide_eq_true q2]; rfl)
   obtain ⟨Y,hY⟩:∃ Y:World,Y=y:=⟨_,rfl⟩
   subst hY
   go_wp2_with fail
   refine wp_region_any (by kernel_rfl) ?_
   refine reg_invG slDl 7 (GDl d pb m1 p.h) (DDl m1 p.h gs Y) (by decide) rfl ⟨fun _=>bl_drew bR,fun e=>by cases e⟩ ?done2 ?step2
   case done2 =>
    clear k1 k3 p1' p6'
    intro L a y hL hdf hsz hout hG hD
    obtain ⟨hg3,n3,ho3⟩:=hD.2 (hL 6 (by omega))
    have HG3:Hid (W0.grownBy y (some m1)):=(below_grown HY.out (some m1)).andThen hg3 (fun j hj=>Or.inr hj)
    have HB3:=hidP (book_grants (BKY.out Y HY.out) HD1.out hg3 ho3)
    clear hG hD hL hg3 ho3
    obtain ⟨l',hl',ha⟩:=frameP_of (lo:=32) (n:=6) hdf hsz (fun j hj=>by
     by_cases hj9:j < 100000
     · exact hout j (fun i hi=>slDl_far j hj9 hj i hi)
     rw [Array.getD_eq_getD_getElem?,Array.getD_eq_getD_getElem?,Array.getElem?_eq_none (Nat.le_trans (Nat.le_of_eq hsz) (Nat.le_trans (lE rfl) (Nat.le_of_not_lt hj9))),Array.getElem?_eq_none (Nat.le_trans (lE rfl) (Nat.le_of_not_lt hj9))]) (lE rfl)
    subst ha
    obtain ⟨s0,sl0,rfl,sh0⟩:=lenP_succ hl'
    obtain ⟨s1,sl1,rfl,sh1⟩:=lenP_succ sh0
    obtain ⟨s2,sl2,rfl,sh2⟩:=lenP_succ sh1
    obtain ⟨s3,sl3,rfl,sh3⟩:=lenP_succ sh2
    obtain ⟨s4,sl4,rfl,sh4⟩:=lenP_succ sh3
    obtain ⟨s5,sl5,rfl,sh5⟩:=lenP_succ sh4
    obtain rfl:=lenP_zero sh5
    clear hdf hsz hout
    simp only [tkd,Nat.reduceAdd]
    have p1:y.cell? ⟨pb,1,none⟩=some (.string p.b):=grown_cell (HG3.out) ZB.out.1 ZB.out.2 (KP.out W0 bR 1)
    have p4:y.cell? ⟨pb,4,none⟩=some (.string p.h):=grown_cell (HG3.out) ZB.out.1 ZB.out.2 (KP.out W0 bR 4)
    have p6:y.cell? ⟨pb,6,none⟩=some (.int .i64 p.t):=grown_cell (HG3.out) ZB.out.1 ZB.out.2 (KP.out W0 bR 6)
    have hb:=bld5 p
    go_wp2
    go_ret
    refine ⟨⟨y.heap.size,rfl, ?_,heap_alloc_newL y _⟩, ?_, ?_⟩
    ·
     have h1:=(HG3.out).size
     have h2:=B0.out.size
     omega
    ·
     rw [← HE.out]
     exact Book.keep (HB3.out) (bl_alloc bR _)
    exact ((below_grown B0.out (some m1)).andThen (HG3.out) (fun j hj=>Or.inr hj)).andThen (World.grownBy_alloc y _ none) (fun j hj=>by cases hj)
   intro listed x y i hI hi hlt
   have ho:=ready_open hi
   have HLZ:=hidP hI.lz
   have HD:=hidP hI.d
   have HJ:=hidP hI
   have HI:=hidP hi
   have HO:=hidP ho
   obtain rfl | rfl | rfl | rfl | rfl | rfl | rfl:i=0∨i=1∨i=2∨i=3∨i=4∨i=5∨i=6:=by omega
   ·
    have h6:=ntr hI.tr ho [3,2,1,0] 6 rfl rfl
    have hb6:Below Y.heap.size Y y:=hI.d.1 h6
    have e1:x.tmps[0]?.getD undef=.pointer (some ⟨d,0,none⟩):=ev_tmp (hI.out 0 (fun i hi=>slDl_far 0 (by omega) (by omega) i hi))
    have HB6:=hidP hb6
    clear hb6
    clear hi hI ho
    refine op9 fun K hK=>?_
    go_simp
    exact HJ.out.pu hK HI.out (rfl) (fun j u _ _ _ _ h=>GDl.keep j u h) (HD.out.keep (by decide))
   ·
    have h6:=ntr hI.tr ho [3,2,1] 6 rfl rfl
    have hb6:Below Y.heap.size Y y:=hI.d.1 h6
    have e1:x.tmps[32]?.getD undef=_:=ev_tmp (hI.good 0 (by omega) (wO hi))
    have HB6:=hidP hb6
    clear hb6
    clear hi hI ho
    refine op9 fun K hK=>?_
    go_simp
    exact HJ.out.pu hK HI.out (rfl) (fun j u _ _ _ _ h=>GDl.keep j u h) (HD.out.keep (by decide))
   ·
    have h6:=ntr hI.tr ho [3,2] 6 rfl rfl
    have hb6:Below Y.heap.size Y y:=hI.d.1 h6
    have e1:x.tmps[33]?.getD undef=_:=ev_tmp (hI.good 1 (by omega) (wO hi))
    have HB6:=hidP hb6
    clear hb6
    clear hi hI ho
    refine op9 fun K hK=>?_
    go_simp
    exact HJ.out.pu hK HI.out (rfl) (fun j u _ _ _ _ h=>GDl.keep j u h) (HD.out.keep (by decide))
   ·
    have h6:=ntr hI.tr ho [3] 6 rfl rfl
    have hb6:Below Y.heap.size Y y:=hI.d.1 h6
    have e1:x.tmps[34]?.getD undef=_:=ev_tmp (hI.good 2 (by omega) (wO hi))
    have k1:y.cell? ⟨d,1,none⟩=some (.map (some m1)):=KD.out y (bl_trans HY.out hb6)
    have HB6:=hidP hb6
    clear hb6
    clear hi hI ho
    refine op9 fun K hK=>?_
    go_simp
    exact HJ.out.pu hK HI.out (rfl) (fun j u _ _ _ _ h=>GDl.keep j u h) (HD.out.keep (by decide))
   ·
    have h6:=ntr hI.tr ho [5,4] 6 rfl rfl
    have hb6:Below Y.heap.size Y y:=hI.d.1 h6
    have e1:x.tmps[3]?.getD undef=.pointer (some ⟨pb,0,none⟩):=ev_tmp (hI.out 3 (fun i hi=>slDl_far 3 (by omega) (by omega) i hi))
    have HB6:=hidP hb6
    clear hb6
    clear hi hI ho
    refine op9 fun K hK=>?_
    go_simp
    exact HJ.out.pu hK HI.out (rfl) (fun j u _ _ _ _ h=>GDl.keep j u h) (HD.out.keep (by decide))
   ·
    have h6:=ntr hI.tr ho [5] 6 rfl rfl
    have hb6:Below Y.heap.size Y y:=hI.d.1 h6
    have e1:x.tmps[36]?.getD undef=_:=ev_tmp (hI.good 4 (by omega) (wO hi))
    have k1:y.cell? ⟨pb,4,none⟩=some (.string p.h):=KP.out y (bl_trans HY.out hb6) 4
    have HB6:=hidP hb6
    clear hb6
    clear hi hI ho
    refine op9 fun K hK=>?_
    go_simp
    exact HJ.out.pu hK HI.out (rfl) (fun j u _ _ _ _ h=>GDl.keep j u h) (HD.out.keep (by decide))
   have h6:listed.getD 6 false=false:=noT (fun h=>openT ho h)
   have hb6:Below Y.heap.size Y y:=hI.d.1 h6
   have e1:x.tmps[35]?.getD undef=_:=ev_tmp (hI.good 3 (by omega) (wO hi))
   have e2:x.tmps[37]?.getD undef=_:=ev_tmp (hI.good 5 (by omega) (wO hi))
   obtain ⟨n1,ho1⟩:=OW.out y (bl_trans HY.out hb6)
   obtain ⟨w2,hrun,ho2,hturn⟩:=ho1.drop (t:=90) (e:=40) G.lawV Tryz.underlying90 HKEY.out 0
   have HO2:Hid (w2.ownsMap Tryz.prog 9 G.RV m1 n1 (G.dec (Ord.out G.keyV p.h.data.toList gs))):=by rw [show (G.dec gs).del (Lit.string p.h.data.toList)=G.dec (Ord.out G.keyV p.h.data.toList gs) from Ord.dec_del G.keyV _ gs] at ho2; exact ho2
   have HG2:=hidP hturn.grown
   clear ho2 hturn ho1
   have HB6:=hidP hb6
   clear hb6
   clear hi hI ho
   refine op9 fun K hK=>?_
   go_simp
   exact hK.out _ _ (HJ.out.nil HI.out (by omega) (fun _=>trivial) (fun j u _ _ _ _ h=>GDl.keep j u h) (⟨(fun e=>by rw [setT_same (by rw [HLZ.out]; omega)] at e; cases e),fun _=>⟨(below_grown HB6.out (some m1)).andThen HG2.out (fun j hj=>Or.inr hj),n1,HO2.out⟩⟩) undef)
  have HE:Hid (backG p gs=gs):=HSAME.out (fun _=>by unfold backB eqT; rw [q1,decide_eq_false q2]; rfl)
  have p1:y.cell? ⟨pb,1,none⟩=some (.string p.b):=grown_cell (below_grown HY.out (some m1)) ZB.out.1 ZB.out.2 (KP.out W0 bR 1)
  have p4:y.cell? ⟨pb,4,none⟩=some (.string p.h):=grown_cell (below_grown HY.out (some m1)) ZB.out.1 ZB.out.2 (KP.out W0 bR 4)
  have p6:y.cell? ⟨pb,6,none⟩=some (.int .i64 p.t):=grown_cell (below_grown HY.out (some m1)) ZB.out.1 ZB.out.2 (KP.out W0 bR 6)
  have hb:=bld5 p
  go_wp2
  go_ret
  refine ⟨⟨y.heap.size,rfl, ?_,heap_alloc_newL y _⟩, ?_, ?_⟩
  ·
   have h1:=(below_grown HY.out (some m1)).size
   have h2:=B0.out.size
   omega
  ·
   rw [HE.out]
   exact Book.keep (BKY.out y HY.out) (bl_alloc bR _)
  exact ((below_grown B0.out (some m1)).andThen (below_grown HY.out (some m1)) (fun j hj=>Or.inr hj)).andThen (World.grownBy_alloc y _ none) (fun j hj=>by cases hj)
 case step =>
  intro listed x y i hI hi hlt
  have ho:=ready_open hi
  have HLZ:=hidP hI.lz
  have HD:=hidP hI.d
  have HJ:=hidP hI
  have HI:=hidP hi
  have HO:=hidP ho
  obtain rfl | rfl | rfl | rfl | rfl | rfl | rfl | rfl | rfl | rfl | rfl | rfl | rfl:i=0∨i=1∨i=2∨i=3∨i=4∨i=5∨i=6∨i=7∨i=8∨i=9∨i=10∨i=11∨i=12:=by omega
  ·
   have e1:x.tmps[0]?.getD undef=.pointer (some ⟨d,0,none⟩):=ev_tmp (hI.out 0 (fun i hi=>slLk_far 0 (by omega) (by omega) i hi))
   clear hi hI ho
   refine op9 fun K hK=>?_
   go_simp
   exact HJ.out.pu hK HI.out (rfl) (fun j u _ _ _ _ h=>GLk.keep (setT_ne (by decide)) j u h) (HD.out)
  ·
   have e1:x.tmps[8]?.getD undef=_:=ev_tmp (hI.good 0 (by omega) (wO hi))
   clear hi hI ho
   refine op9 fun K hK=>?_
   go_simp
   exact HJ.out.pu hK HI.out (rfl) (fun j u _ _ _ _ h=>GLk.keep (setT_ne (by decide)) j u h) (HD.out)
  ·
   have e1:x.tmps[9]?.getD undef=_:=ev_tmp (hI.good 1 (by omega) (wO hi))
   clear hi hI ho
   refine op9 fun K hK=>?_
   go_simp
   exact HJ.out.pu hK HI.out (rfl) (fun j u _ _ _ _ h=>GLk.keep (setT_ne (by decide)) j u h) (HD.out)
  ·
   have e1:x.tmps[10]?.getD undef=_:=ev_tmp (hI.good 2 (by omega) (wO hi))
   have k1:y.cell? ⟨d,1,none⟩=some (.map (some m1)):=KD.out y hI.d
   clear hi hI ho
   refine op9 fun K hK=>?_
   go_simp
   exact HJ.out.pu hK HI.out (rfl) (fun j u _ _ _ _ h=>GLk.keep (setT_ne (by decide)) j u h) (HD.out)
  ·
   have e1:x.tmps[3]?.getD undef=.pointer (some ⟨pb,0,none⟩):=ev_tmp (hI.out 3 (fun i hi=>slLk_far 3 (by omega) (by omega) i hi))
   clear hi hI ho
   refine op9 fun K hK=>?_
   go_simp
   exact HJ.out.pu hK HI.out (rfl) (fun j u _ _ _ _ h=>GLk.keep (setT_ne (by decide)) j u h) (HD.out)
  ·
   have e1:x.tmps[12]?.getD undef=_:=ev_tmp (hI.good 4 (by omega) (wO hi))
   have k1:y.cell? ⟨pb,4,none⟩=some (.string p.h):=KP.out y hI.d 4
   clear hi hI ho
   refine op9 fun K hK=>?_
   go_simp
   exact HJ.out.pu hK HI.out (rfl) (fun j u _ _ _ _ h=>GLk.keep (setT_ne (by decide)) j u h) (HD.out)
  ·
   have e1:x.tmps[11]?.getD undef=_:=ev_tmp (hI.good 3 (by omega) (wO hi))
   have e2:x.tmps[13]?.getD undef=_:=ev_tmp (hI.good 5 (by omega) (wO hi))
   have k1:=LK.out y hI.d
   clear hi hI ho
   refine op9 fun K hK=>?_
   go_simp
   exact HJ.out.pu hK HI.out (rfl) (fun j u _ _ _ _ h=>GLk.keep (setT_ne (by decide)) j u h) (HD.out)
  ·
   have e1:x.tmps[14]?.getD undef=_:=ev_tmp (hI.good 6 (by omega) (wO hi))
   clear hi hI ho
   refine op9 fun K hK=>?_
   go_simp
   exact HJ.out.pu hK HI.out (rfl) (fun j u _ _ _ _ h=>GLk.keep (setT_ne (by decide)) j u h) (HD.out)
  ·
   have e1:x.tmps[7]?.getD undef=_:=ev_tmp (hI.good 7 (by omega) (wO hi))
   clear hi hI ho
   refine op9 fun K hK=>?_
   go_simp
   exact HJ.out.pu hK HI.out (rfl) (fun j u _ _ _ _ h=>GLk.keep (setT_ne (by decide)) j u h) (HD.out)
  ·
   have e1:x.tmps[7]?.getD undef=_:=ev_tmp (hI.good 7 (by omega) (wO hi))
   clear hi hI ho
   refine op9 fun K hK=>?_
   go_simp
   exact HJ.out.pu hK HI.out (rfl) (fun j u _ _ _ _ h=>GLk.keep (setT_ne (by decide)) j u h) (HD.out)
  ·
   have h11:listed.getD 11 false=false:=hI.shut ho (by rfl)
   clear hi hI ho
   refine op9 fun K hK=>?_
   go_simp
   have hbl:Below y.heap.size y (y.alloc (.cells #[.string ⟨#[]⟩,.string ⟨#[]⟩,.string ⟨#[]⟩,.int .i64 0,.int .i64 0] 40)):=bl_alloc bR _
   exact HJ.out.pu hK HI.out (⟨y.heap.size,rfl,HD.out.size,by simp,fun _=>there_newG y _ _ (by rfl),fun e=>by rw [setT_ne (by decide),h11] at e; cases e⟩) (fun j u _ _ hne _ h=>GLk.keepN j u hne h) (bl_trans HD.out hbl)
  ·
   have gf8:=hI.good 8 (by omega) (wO hi)
   have gf10:=hI.good 10 (by omega) (wO hi)
   have h11:listed.getD 11 false=false:=noT (fun h=>openT ho h)
   obtain ⟨A,hA,hZ,hA2,hth,-⟩:=gf10
   have hT:=hidP (hth h11)
   have hz9:11 < listed.size:=by rw [hI.lz]; omega
   clear hth
   clear hi hI ho
   refine op9 fun K hK=>?_
   refine wp_store_mid 40 _ _ rfl A 0 #[.string g.h,.string g.b,.string g.c,.int .i64 g.t,.int .i64 g.u] hA gf8 hT.out hinfoG (by simp [Value.oneCell']) ?_
   have hx:Ex A y (y.setCells A 0 [.string g.h,.string g.b,.string g.c,.int .i64 g.t,.int .i64 g.u]):=(Ex.refl _ _).cells _ _
   have hrg:(y.setCells A 0 [.string g.h,.string g.b,.string g.c,.int .i64 g.t,.int .i64 g.u]).rangeAt A 0 g.cells:=World.rangeAt_setCells_same y A 0 _ hT.out
   exact hK.out _ _ (HJ.out.nil HI.out (by omega) (fun _=>trivial) (fun j u hu hj hne hl h=>by
    by_cases e10:j=10
    ·
     subst e10
     exact ⟨A,hu.trans hA,hZ,Nat.lt_of_lt_of_le hA2 hx.size,(fun e=>by rw [setT_same hz9] at e; cases e),fun _=>hrg⟩
    exact GLk.keepN j u e10 h) (Ex.mono HD.out hx hZ) undef)
  have e1:x.tmps[16]?.getD undef=_:=ev_tmp (hI.good 9 (by omega) (wO hi))
  clear hi hI ho
  refine op9 fun K hK=>?_
  go_simp
  exact HJ.out.pu hK HI.out (rfl) (fun j u _ _ _ _ h=>GLk.keep (setT_ne (by decide)) j u h) (HD.out)
end Go.Proofs.YtcjhlhijdacinaaGreatDoor
