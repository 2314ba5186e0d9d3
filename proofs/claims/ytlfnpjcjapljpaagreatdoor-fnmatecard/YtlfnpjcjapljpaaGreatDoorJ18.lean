import Derived.Test.YtlfnpjcjapljpaaGreatDoorJ12
import Derived.Test.YtlfnpjcjapljpaaGreatDoorJ11
import Derived.Test.YtlfnpjcjapljpaaGreatDoorIter
namespace Go.Proofs.YtlfnpjcjapljpaaGreatDoor
open Go.Proofs.Tryz Go.RowKit
set_option maxHeartbeats 1000000
set_option linter.unusedVariables false
def bN(clock:Int)(r:aw):aw:=if bq r.a=true/\bj r.h r.u clock=false then {r with a:=2,b:=0}else r
theorem yr{clock:Int}{r:aw}(h1:bq r.a=true)(h2:bj r.h r.u clock=false):bN clock r={r with a:=2,b:=0}:=if_pos ⟨h1,h2⟩
theorem yt{clock:Int}{r:aw}(h1:bq r.a=false):bN clock r=r:=if_neg (fun h=>by rw[h1]at h;cases h.1)
theorem yu{clock:Int}{r:aw}(h2:bj r.h r.u clock=true):bN clock r=r:=if_neg (fun h=>by rw[h2]at h;cases h.2)
theorem oD(w:World):Sem.run prog (Instr.buildSlice 24 0 #[]) w=.ok (.slice (some ⟨w.heap.size,0,none⟩) 0 0) (w.alloc (.cells #[] 39)):=by kernel_rfl
theorem Br{g n c:Nat}:Value.slice (some ⟨g,0,none⟩) n c≠.slice none 0 0:=by intro h;cases h
theorem mC{x':World}{base k:Nat}{v':Value}{f:aw->aw}{rs:List aw}{r:aw}(hr:rs[k]?=some r)
  (h:x'.ownsRow base 39 11 v' (k+1) (aA ((rs.take k).map f)++(f r).cells)):x'.ownsRow base 39 11 v' (k+1) (aA ((rs.take (k+1)).map f)):=by
 have hlt:k<rs.length:=(List.getElem?_eq_some_iff.1 hr).1;have he:rs[k]=r:=by rw[List.getElem?_eq_getElem hlt]at hr;exact Option.some.inj hr
 rw[List.take_succ_eq_append_getElem hlt,List.map_append,List.map_singleton,he,cP];exact h
theorem yn(b off cap:Nat)(rs:List aw)(clock:Int)(w:World)(hR:aG w b off rs)(hb:b<w.heap.size)(hl:rs.length<=1048576):
  Calls prog 30 #[.slice (some ⟨b,off,none⟩) rs.length cap,.int .i64 clock] w fun e w'=>(∃g cap',e=.returned (.slice (some ⟨g,0,none⟩) rs.length cap')/\w.heap.size<=g/\g<w'.heap.size/\aG w' g 0 (rs.map (bN clock))/\w'.there g 0 (rs.length*11))/\Below w.heap.size w w':=by
 obtain⟨i0,hi,hz0,hz1,hz2⟩:=info_parts cE;have hbn:=oD;go_enter func30,ntmps30
 go_wp2
 clear hbn
 go_loopw [5,6] (fun v i wx=>∃(k:Nat),k<=rs.length/\i=.int .i64 k/\wx.ownsRow w.heap.size 39 11 v k (aA ((rs.take k).map (bN clock)))/\v≠.slice none 0 0/\Below w.heap.size w wx) (fun _ i _=>rs.length-(intOf i).toNat)
 case atStart=>exact⟨0,Nat.zero_le _,rfl,World.ownsRow_made w #[] 0 (Nat.le_refl _) (Nat.zero_le _) rfl,Br,ae bR _⟩
 case round=>
  obtain⟨k,hk,rfl,hown,hnn,hB⟩:=hrel;by_cases hlt:k<rs.length
  ·
   obtain⟨r,hr⟩:∃r,rs[k]?=some r:=⟨rs[k],List.getElem?_eq_getElem hlt⟩
   have Hr:=ah hr;have Hn:=ah hnn;have Ho:=ah hown;obtain⟨c0,c1,c2,c3,c4,c5,c6,c7,c8,c9,c10⟩:=(hR.keep hb hB).at hr;clear hr hnn hown;cases hal:bq r.a
   ·
    go_wp2_with (first|(at_builtin;(refine wpList_append_own _ rfl _ _ 24 rfl w.heap.size 39 i0 _ 11 104 underlying24 hi hz0 hz1 hz2 rfl (by decide) _ k _ rfl (by exact aN Ho.out (by repeat (first|exact bR|refine ae ?_ _))) ⟨_,0,none⟩ 1 1 r.cells rfl rfl (bG _ _ (by simp) _ _ _ rfl) (aU _) (by unfold maxLen;omega) (by omega) (by have:=hB.size;simp;omega) ?_);intro v' w1 ho1 hg1 hn1)|(go_at_call 42;refine mr (aE r.c r.h r.v r.p r.s r.d r.g r.a r.b r.i r.u _) ?_)|(go_at_call 82;refine mr (bB r.c r.h r.v r.p r.s r.d r.g r.a r.b r.i r.u clock _) ?_))
    exact⟨⟨k+1,by omega,by go_num,mC (f:=bN clock) Hr.out (by rw[yt hal];exact ho1),fun h=>(by have:=hn1.1 h;simp at this),Below.grown (by repeat (first|exact hB|refine ae ?_ _)) hg1 (by have:=hB.size;simp;omega) (br Ho.out)⟩,by simp[intOf];omega⟩
   cases hle:bj r.h r.u clock
   ·
    go_wp2_with (first|(at_builtin;(refine wpList_append_own _ rfl _ _ 24 rfl w.heap.size 39 i0 _ 11 104 underlying24 hi hz0 hz1 hz2 rfl (by decide) _ k _ rfl (by exact aN Ho.out (by repeat (first|exact bR|refine ae ?_ _))) ⟨_,0,none⟩ 1 1 ({r with a:=2,b:=0}:aw).cells rfl rfl (bG _ _ (by simp) _ _ _ rfl) (aU _) (by unfold maxLen;omega) (by omega) (by have:=hB.size;simp;omega) ?_);intro v' w1 ho1 hg1 hn1)|(go_at_call 42;refine mr (aE r.c r.h r.v r.p r.s r.d r.g r.a r.b r.i r.u _) ?_)|(go_at_call 82;refine mr (bB r.c r.h r.v r.p r.s r.d r.g r.a r.b r.i r.u clock _) ?_))
    exact⟨⟨k+1,by omega,by go_num,mC (f:=bN clock) Hr.out (by rw[yr hal hle];exact ho1),fun h=>(by have:=hn1.1 h;simp at this),Below.grown (by repeat (first|exact hB|refine ae ?_ _)) hg1 (by have:=hB.size;simp;omega) (br Ho.out)⟩,by simp[intOf];omega⟩
   go_wp2_with (first|(at_builtin;(refine wpList_append_own _ rfl _ _ 24 rfl w.heap.size 39 i0 _ 11 104 underlying24 hi hz0 hz1 hz2 rfl (by decide) _ k _ rfl (by exact aN Ho.out (by repeat (first|exact bR|refine ae ?_ _))) ⟨_,0,none⟩ 1 1 r.cells rfl rfl (bG _ _ (by simp) _ _ _ rfl) (aU _) (by unfold maxLen;omega) (by omega) (by have:=hB.size;simp;omega) ?_);intro v' w1 ho1 hg1 hn1)|(go_at_call 42;refine mr (aE r.c r.h r.v r.p r.s r.d r.g r.a r.b r.i r.u _) ?_)|(go_at_call 82;refine mr (bB r.c r.h r.v r.p r.s r.d r.g r.a r.b r.i r.u clock _) ?_))
   exact⟨⟨k+1,by omega,by go_num,mC (f:=bN clock) Hr.out (by rw[yu hle];exact ho1),fun h=>(by have:=hn1.1 h;simp at this),Below.grown (by repeat (first|exact hB|refine ae ?_ _)) hg1 (by have:=hB.size;simp;omega) (br Ho.out)⟩,by simp[intOf];omega⟩
  go_wp2
  go_ret
  have hk':k=rs.length:=by omega
  subst hk';rw[List.take_of_length_le (Nat.le_refl _)]at hown;have hown':wr.ownsRow w.heap.size 39 11 u5 (rs.map (bN clock)).length (aA (rs.map (bN clock))):=by rw[List.length_map];exact hown
  rcases dE hown' with⟨h,-⟩|⟨g,cap',rfl,hg0,hg1,hrows,hth⟩;·exact absurd h hnn
  rw[List.length_map]at hth ⊢;exact⟨⟨g,cap',rfl,hg0,hg1,hrows,hth⟩,hB⟩
set_option maxRecDepth 4000
theorem vX{P:aw->Bool}{rs:List aw}{k:Nat}{r:aw}(hr:rs[k]?=some r)(h:P r=false):(rs.take (k+1)).filter P=(rs.take k).filter P:=by
 have hlt:k<rs.length:=(List.getElem?_eq_some_iff.1 hr).1;have he:rs[k]=r:=by rw[List.getElem?_eq_getElem hlt]at hr;exact Option.some.inj hr
 rw[List.take_succ_eq_append_getElem hlt,List.filter_append,he];simp[h]
theorem sV{P:aw->Bool}{rs:List aw}{k:Nat}{r:aw}(hr:rs[k]?=some r)(h:P r=true):(rs.take (k+1)).filter P=(rs.take k).filter P++[r]:=by
 have hlt:k<rs.length:=(List.getElem?_eq_some_iff.1 hr).1;have he:rs[k]=r:=by rw[List.getElem?_eq_getElem hlt]at hr;exact Option.some.inj hr
 rw[List.take_succ_eq_append_getElem hlt,List.filter_append,he];simp[h]
theorem dU(xs ys:List aw):aA (xs++ys)=aA xs++aA ys:=by simp[aA]
theorem sT(a:Option Addr)(cap:Nat)(rs:List aw)(w:World)(hG:Gv w a rs)(hl:rs.length<=1048576):
  Calls prog 107 #[.slice a rs.length cap,.func (.func 11) #[] #[]] w fun e w'=>(∃v,e=.returned v/\Sl w' v (rs.filter (fun r=>bq r.a)) w.heap.size)/\Below w.heap.size w w':=by
 obtain⟨i0,hi,hz0,hz1,hz2⟩:=info_parts cE;go_enter func107,ntmps107
 go_wp2
 go_loopw [5,10] (fun v i wx=>∃(k:Nat),k<=rs.length/\i=.int .i64 k/\wx.ownsRow w.heap.size 39 11 v ((rs.take k).filter (fun r=>bq r.a)).length (aA ((rs.take k).filter (fun r=>bq r.a)))/\Below w.heap.size w wx) (fun _ i _=>rs.length-(intOf i).toNat)
 case atStart=>exact⟨0,Nat.zero_le _,rfl,World.ownsRow_nil _ _ _ _,Below.refl _ _⟩
 case round=>
  obtain⟨k,hk,rfl,hown,hB⟩:=hrel;by_cases hlt:k<rs.length
  ·
   obtain⟨b,rfl,l1,hR⟩:=hG.resolve_left (fun h=>by rw[h]at hlt;simp at hlt);obtain⟨r,hr⟩:∃r,rs[k]?=some r:=⟨rs[k],List.getElem?_eq_getElem hlt⟩
   have Hr:=ah hr;obtain⟨c0,c1,c2,c3,c4,c5,c6,c7,c8,c9,c10⟩:=(hR.keep l1 hB).at hr;simp only[Nat.zero_add]at c0 c1 c2 c3 c4 c5 c6 c7 c8 c9 c10;obtain⟨n,hn⟩:∃n,n=((rs.take k).filter (fun r=>bq r.a)).length:=⟨_,rfl⟩
   obtain⟨xs,hxs⟩:∃xs,xs=aA ((rs.take k).filter (fun r=>bq r.a)):=⟨_,rfl⟩
   have hnk:n<=1048576:=(by rw[hn];exact Nat.le_trans (List.length_filter_le _ _) (by rw[List.length_take];omega));rw[<-hn,<-hxs]at hown;have Ho:=ah hown;have Hn:=ah hn;have Hx:=ah hxs;clear hr hown hn hxs hG;go_wp2_with fail
   refine(jX r.c r.h r.v r.p r.s r.d r.g r.a r.b r.i r.u _).mono ?_;rintro e w1 ⟨rfl,hb⟩;have hB1:=af (ae hB _) hb;have hb2:Below wr.heap.size wr w1:=af (ae bR _) hb;have Gl:=ah (aN Ho.out hb2);have kb:=aJ hb;have kz:wr.heap.size<w1.heap.size:=(by have:=hb.size;simp at this;omega);have Hb1:=ah hB1;clear c0 c1 c2 c3 c4 c5 c6 c7 c8 c9 c10 hb hb2 hB1 Ho;cases hP:bq r.a
   ·
    go_wp2
    refine⟨⟨k+1,by omega,by go_num,?_,Hb1.out⟩,by simp[intOf];omega⟩;have hr:=Hr.out;rw[vX hr (by simp[hP]),<-Hn.out,<-Hx.out];exact Gl.out
   go_wp2_with (at_builtin;refine wpList_append_own _ rfl _ _ 24 rfl w.heap.size 39 i0 _ 11 104 underlying24 hi hz0 hz1 hz2 rfl (by decide) _ n _ rfl (by exact aN Gl.out (ae bR _)) ⟨_,0,none⟩ 1 1 r.cells rfl rfl (bG _ _ (by simp) _ _ _ rfl) (aU _) (by unfold maxLen;omega) (by omega) (by have:=Hb1.out.size;simp;omega) ?_;intro v' w2 ho2 hg2 hn2)
   refine⟨⟨k+1,by omega,by go_num,?_,Below.grown (ae Hb1.out _) hg2 (by have:=Hb1.out.size;simp;omega) (br Gl.out)⟩,by simp[intOf];omega⟩;have hr:=Hr.out;rw[sV hr (by simp[hP]),List.length_append,dU,<-Hn.out,<-Hx.out];simpa[aA]using ho2
  go_wp2
  go_ret
  have hk':k=rs.length:=by omega
  subst hk';rw[List.take_of_length_le (Nat.le_refl _)]at hown;exact⟨⟨_,rfl,Sl.bE hown⟩,hB⟩
theorem wT(r:aw)(w:World):
  Calls prog 97 #[.agg (aL r.c r.v r.h r.p r.s r.d r.g r.a r.b r.i r.u)] w fun e w'=>e=.returned (.bool (!r.h.toList.isEmpty))/\Below w.heap.size w w':=by
 cases hh:r.h.toList.isEmpty
 ·
  go_enter func97,ntmps97
  go_wp2
  go_ret
  exact⟨rfl,by repeat (first|exact bR|refine ae ?_ _)⟩
 ·
  go_enter func97,ntmps97
  go_wp2
  go_ret
  exact⟨rfl,by repeat (first|exact bR|refine ae ?_ _)⟩
theorem sU(a:Option Addr)(cap:Nat)(rs:List aw)(w:World)(hG:Gv w a rs)(hl:rs.length<=1048576):
  Calls prog 107 #[.slice a rs.length cap,.func (.func 97) #[] #[]] w fun e w'=>(∃v,e=.returned v/\Sl w' v (rs.filter (fun r=>!r.h.toList.isEmpty)) w.heap.size)/\Below w.heap.size w w':=by
 obtain⟨i0,hi,hz0,hz1,hz2⟩:=info_parts cE;go_enter func107,ntmps107
 go_wp2
 go_loopw [5,10] (fun v i wx=>∃(k:Nat),k<=rs.length/\i=.int .i64 k/\wx.ownsRow w.heap.size 39 11 v ((rs.take k).filter (fun r=>!r.h.toList.isEmpty)).length (aA ((rs.take k).filter (fun r=>!r.h.toList.isEmpty)))/\Below w.heap.size w wx) (fun _ i _=>rs.length-(intOf i).toNat)
 case atStart=>exact⟨0,Nat.zero_le _,rfl,World.ownsRow_nil _ _ _ _,Below.refl _ _⟩
 case round=>
  obtain⟨k,hk,rfl,hown,hB⟩:=hrel;by_cases hlt:k<rs.length
  ·
   obtain⟨b,rfl,l1,hR⟩:=hG.resolve_left (fun h=>by rw[h]at hlt;simp at hlt);obtain⟨r,hr⟩:∃r,rs[k]?=some r:=⟨rs[k],List.getElem?_eq_getElem hlt⟩
   have Hr:=ah hr;obtain⟨c0,c1,c2,c3,c4,c5,c6,c7,c8,c9,c10⟩:=(hR.keep l1 hB).at hr;simp only[Nat.zero_add]at c0 c1 c2 c3 c4 c5 c6 c7 c8 c9 c10;obtain⟨n,hn⟩:∃n,n=((rs.take k).filter (fun r=>!r.h.toList.isEmpty)).length:=⟨_,rfl⟩
   obtain⟨xs,hxs⟩:∃xs,xs=aA ((rs.take k).filter (fun r=>!r.h.toList.isEmpty)):=⟨_,rfl⟩
   have hnk:n<=1048576:=(by rw[hn];exact Nat.le_trans (List.length_filter_le _ _) (by rw[List.length_take];omega));rw[<-hn,<-hxs]at hown;have Ho:=ah hown;have Hn:=ah hn;have Hx:=ah hxs;clear hr hown hn hxs hG;go_wp2_with fail
   refine(wT r _).mono ?_;rintro e w1 ⟨rfl,hb⟩;have hB1:=af (ae hB _) hb;have hb2:Below wr.heap.size wr w1:=af (ae bR _) hb;have Gl:=ah (aN Ho.out hb2);have kb:=aJ hb;have kz:wr.heap.size<w1.heap.size:=(by have:=hb.size;simp at this;omega);have Hb1:=ah hB1;clear c0 c1 c2 c3 c4 c5 c6 c7 c8 c9 c10 hb hb2 hB1 Ho;cases hP:!r.h.toList.isEmpty
   ·
    go_wp2
    refine⟨⟨k+1,by omega,by go_num,?_,Hb1.out⟩,by simp[intOf];omega⟩;have hr:=Hr.out;rw[vX hr (by simp[hP]),<-Hn.out,<-Hx.out];exact Gl.out
   go_wp2_with (at_builtin;refine wpList_append_own _ rfl _ _ 24 rfl w.heap.size 39 i0 _ 11 104 underlying24 hi hz0 hz1 hz2 rfl (by decide) _ n _ rfl (by exact aN Gl.out (ae bR _)) ⟨_,0,none⟩ 1 1 r.cells rfl rfl (bG _ _ (by simp) _ _ _ rfl) (aU _) (by unfold maxLen;omega) (by omega) (by have:=Hb1.out.size;simp;omega) ?_;intro v' w2 ho2 hg2 hn2)
   refine⟨⟨k+1,by omega,by go_num,?_,Below.grown (ae Hb1.out _) hg2 (by have:=Hb1.out.size;simp;omega) (br Gl.out)⟩,by simp[intOf];omega⟩;have hr:=Hr.out;rw[sV hr (by simp[hP]),List.length_append,dU,<-Hn.out,<-Hx.out];simpa[aA]using ho2
  go_wp2
  go_ret
  have hk':k=rs.length:=by omega
  subst hk';rw[List.take_of_length_le (Nat.le_refl _)]at hown;exact⟨⟨_,rfl,Sl.bE hown⟩,hB⟩
def eZ(r:aw):aw:={r with a:=2,b:=0}
theorem sW(r:aw):(eZ r).cells=[.string r.c,.int .i64 r.v,.string r.h,.int .i64 r.p,.int .i64 r.s,.int .i64 r.d,.int .i64 r.g,.int .i64 2,.int .i64 0,.int .i64 r.i,.int .i64 r.u]:=rfl
theorem uX(a:Option Addr)(cap:Nat)(rs:List aw)(w:World)(hG:Gv w a rs)(hl:rs.length<=1048576):
  Calls prog 108 #[.slice a rs.length cap] w fun e w'=>(∃v,e=.returned v/\Sl w' v (rs.map eZ) w.heap.size)/\Below w.heap.size w w':=by
 obtain⟨C,hC,hmk⟩:=lV rs.length hl;have hinfo:(prog.info? 39).map (·.size)=some 11:=by kernel_rfl
 go_enter func108,ntmps108
 go_wp2
 go_loopw [11] (fun i wx=>∃(k:Nat),k<=rs.length/\i=.int .i64 k/\aG wx w.heap.size 0 ((rs.map eZ).take k)/\wx.there w.heap.size 0 (rs.length*11)/\w.heap.size<wx.heap.size/\Below w.heap.size w wx) (fun i _=>rs.length-(intOf i).toNat)
 case atStart=>exact⟨0,Nat.zero_le _,rfl,fun k r h=>by simp at h,pL hC,by simp,ae bR _⟩
 case round=>
  obtain⟨k,hk,rfl,hrows,hth,hgz,hB⟩:=hrel;clear hmk;by_cases hlt:k<rs.length
  ·
   obtain⟨b,rfl,l1,hR⟩:=hG.resolve_left (fun h=>by rw[h]at hlt;simp at hlt);obtain⟨r,hr⟩:∃r,rs[k]?=some r:=⟨rs[k],List.getElem?_eq_getElem hlt⟩
   obtain⟨c0,c1,c2,c3,c4,c5,c6,c7,c8,c9,c10⟩:=(hR.keep l1 hB).at hr;simp only[Nat.zero_add]at c0 c1 c2 c3 c4 c5 c6 c7 c8 c9 c10;have Hr:Hid ((rs.map eZ)[k]?=some (eZ r)):=(by show _=_;rw[List.getElem?_map,hr];rfl);clear hr hG;go_wp2_with (first|(go_at_call 66;refine mr (bA r.c r.h r.v r.p r.s r.d r.g r.a r.b r.i r.u _) ?_)|(go_at_call 110;refine mr (fJ r.c r.h r.v r.p r.s r.d r.g r.a r.b r.i r.u _) ?_))
   refine(bT r.c r.h r.v r.p r.s r.d r.g 2 0 r.i r.u _).mono ?_;rintro e w1 ⟨rfl,hw1⟩;have hb2:Below wr.heap.size wr w1:=by rw[hw1];repeat (first|exact bR|refine ae ?_ _)
   clear hw1 c0 c1 c2 c3 c4 c5 c6 c7 c8 c9 c10;have uY:=nC hth hgz hb2;have uZ:=hrows.keep hgz hb2;have hB1:=af hB hb2;have Gm:w.heap.size<w1.heap.size:=Nat.lt_of_lt_of_le hgz hb2.size;clear hth hrows hB hb2;go_wp2_with (refine wpList_store_mid (by rfl) 39 _ _ (by rfl) w.heap.size (k*11) (aL r.c r.v r.h r.p r.s r.d r.g 2 0 r.i r.u) (by rfl) (by rfl) (by exact jb uY hlt) hinfo (by simp[Value.oneCell']) ?_)
   have hrs:=pM Hr.out uZ (jb uY hlt);rw[sW]at hrs;exact⟨⟨k+1,by omega,by go_num,hrs,World.there_setCells uY _ _ _,by rw[ev];exact Gm,cL (Nat.le_refl _) _ _ _ hB1⟩,by simp[intOf];omega⟩
  go_wp2
  go_ret
  have e:(rs.map eZ).take k=rs.map eZ:=List.take_of_length_le (by rw[List.length_map];omega);rw[e]at hrows;exact⟨⟨.slice (some ⟨w.heap.size,0,none⟩) rs.length rs.length,rfl,Or.inr ⟨w.heap.size,rs.length,by rw[List.length_map],Nat.le_refl _,hgz,hrows,by rw[List.length_map];exact hth⟩⟩,hB⟩
open Go.Maps Go.WideMaps
set_option maxHeartbeats 2000000
theorem kV:Keyed prog 9:=string_keyed underlying9
def EN(xs:List Value):Option (DataW aw×List MemPlace):=
 match xs with
 |[.string c',.int .i64 v',.string h',.int .i64 p',.int .i64 s',.int .i64 d',.int .i64 g',.int .i64 a',.int .i64 b',.int .i64 i',.int .i64 u']=>some (.held ⟨c',h',v',p',s',d',g',a',b',i',u'⟩,[])
 |_=>none
def RV(v:Value):Option (DataW aw×List MemPlace):=
 match v with
 |.agg xs=>EN xs.toList
 |_=>none
theorem gI{v:Value}{r:aw}{ps:List MemPlace}(h:RV v=some (.held r,ps)):v=.agg #[.string r.c,.int .i64 r.v,.string r.h,.int .i64 r.p,.int .i64 r.s,.int .i64 r.d,.int .i64 r.g,.int .i64 r.a,.int .i64 r.b,.int .i64 r.i,.int .i64 r.u]:=by
 unfold RV at h;split at h
 ·
  rename_i xs;obtain⟨l⟩:=xs;simp only at h;unfold EN at h;split at h
  ·
   simp only[Option.some.injEq,Prod.mk.injEq,DataW.held.injEq]at h;obtain⟨rfl,-⟩:=h;rfl
  cases h
 cases h
def aM(r:aw):List UInt8:=r.c.data.toList
def dec(rs:List aw):DataW aw:=Ord.dec aM rs
def dx(rs:List aw):Prop:=Ord.dx aM rs
theorem fT{rs:List aw}(h:fh rs rs.length):dx rs:=
 Ord.vq aM rs (fun j q r hq hr=>by have h1:=h j q r (by have:=(List.getElem?_eq_some_iff.1 hr).1;omega) hq hr;rw[Ord.dD,ByteArray.toList_eq,ByteArray.toList_eq]at h1;exact h1)
theorem aS{x y:World}{b n:Nat}{D:DataW aw}(h:x.ownsMap prog 9 RV b n D)(hb:Below x.heap.size x y):y.ownsMap prog 9 RV b n D:=
 h.kept (row:=none) ⟨hb.os,hb.tape,hb.output,hb.size,fun k hk _=>hb.block k hk⟩ (by simp)
theorem eD{w:World}(b n:Nat)(rs:List aw)(r:aw)(hown:w.ownsMap prog 9 RV b n (dec rs))(hn:n<maxLen)(hs:r.c.size<=maxLen):
  ∃w',Sem.run prog (Instr.mapUpdate 105 (.map (some b)) (.string r.c) (.agg #[.string r.c,.int .i64 r.v,.string r.h,.int .i64 r.p,.int .i64 r.s,.int .i64 r.d,.int .i64 r.g,.int .i64 r.a,.int .i64 r.b,.int .i64 r.i,.int .i64 r.u])) w=.ok () w'/\w'.ownsMap prog 9 RV b (n+1) (dec (Ord.ins aM r rs))/\w.grownBy w' (some b):=by
 have h:=hown.update kV (t:=105) (e:=39) underlying105 hn (keyOf_string_mk underlying9 hs) (val:=.agg #[.string r.c,.int .i64 r.v,.string r.h,.int .i64 r.p,.int .i64 r.s,.int .i64 r.d,.int .i64 r.g,.int .i64 r.a,.int .i64 r.b,.int .i64 r.i,.int .i64 r.u]) (d:=.held r) (ps:=[]) rfl;have e:(dec rs).put (Lit.string r.c.data.toList) (.held r)=dec (Ord.ins aM r rs):=Ord.sa aM r rs;rw[e]at h;exact h
theorem nS{wr w':World}{r:aw}(hb:Below (wr.alloc (.cells #[.string r.c,.int .i64 r.v,.string r.h,.int .i64 r.p,.int .i64 r.s,.int .i64 r.d,.int .i64 r.g,.int .i64 r.a,.int .i64 r.b,.int .i64 r.i,.int .i64 r.u] 39)).heap.size (wr.alloc (.cells #[.string r.c,.int .i64 r.v,.string r.h,.int .i64 r.p,.int .i64 r.s,.int .i64 r.d,.int .i64 r.g,.int .i64 r.a,.int .i64 r.b,.int .i64 r.i,.int .i64 r.u] 39)) w'):w'.cell? ⟨wr.heap.size,0,none⟩=some (.string r.c)/\w'.cell? ⟨wr.heap.size,1,none⟩=some (.int .i64 r.v)/\w'.cell? ⟨wr.heap.size,2,none⟩=some (.string r.h)/\w'.cell? ⟨wr.heap.size,3,none⟩=some (.int .i64 r.p)/\w'.cell? ⟨wr.heap.size,4,none⟩=some (.int .i64 r.s)/\w'.cell? ⟨wr.heap.size,5,none⟩=some (.int .i64 r.d)/\w'.cell? ⟨wr.heap.size,6,none⟩=some (.int .i64 r.g)/\w'.cell? ⟨wr.heap.size,7,none⟩=some (.int .i64 r.a)/\w'.cell? ⟨wr.heap.size,8,none⟩=some (.int .i64 r.b)/\w'.cell? ⟨wr.heap.size,9,none⟩=some (.int .i64 r.i)/\w'.cell? ⟨wr.heap.size,10,none⟩=some (.int .i64 r.u):=by have hk:=aJ hb;exact⟨by rw[hk 0];simp[go_sem],by rw[hk 1];simp[go_sem],by rw[hk 2];simp[go_sem],by rw[hk 3];simp[go_sem],by rw[hk 4];simp[go_sem],by rw[hk 5];simp[go_sem],by rw[hk 6];simp[go_sem],by rw[hk 7];simp[go_sem],by rw[hk 8];simp[go_sem],by rw[hk 9];simp[go_sem],by rw[hk 10];simp[go_sem]⟩
theorem gK{wr w' w2:World}{r:aw}{B:Nat}(h:w'.cell? ⟨wr.heap.size,0,none⟩=some (.string r.c)/\w'.cell? ⟨wr.heap.size,1,none⟩=some (.int .i64 r.v)/\w'.cell? ⟨wr.heap.size,2,none⟩=some (.string r.h)/\w'.cell? ⟨wr.heap.size,3,none⟩=some (.int .i64 r.p)/\w'.cell? ⟨wr.heap.size,4,none⟩=some (.int .i64 r.s)/\w'.cell? ⟨wr.heap.size,5,none⟩=some (.int .i64 r.d)/\w'.cell? ⟨wr.heap.size,6,none⟩=some (.int .i64 r.g)/\w'.cell? ⟨wr.heap.size,7,none⟩=some (.int .i64 r.a)/\w'.cell? ⟨wr.heap.size,8,none⟩=some (.int .i64 r.b)/\w'.cell? ⟨wr.heap.size,9,none⟩=some (.int .i64 r.i)/\w'.cell? ⟨wr.heap.size,10,none⟩=some (.int .i64 r.u))(hg:w'.grownBy w2 (some B))(hne:wr.heap.size≠B):w2.cell? ⟨wr.heap.size,0,none⟩=some (.string r.c)/\w2.cell? ⟨wr.heap.size,1,none⟩=some (.int .i64 r.v)/\w2.cell? ⟨wr.heap.size,2,none⟩=some (.string r.h)/\w2.cell? ⟨wr.heap.size,3,none⟩=some (.int .i64 r.p)/\w2.cell? ⟨wr.heap.size,4,none⟩=some (.int .i64 r.s)/\w2.cell? ⟨wr.heap.size,5,none⟩=some (.int .i64 r.d)/\w2.cell? ⟨wr.heap.size,6,none⟩=some (.int .i64 r.g)/\w2.cell? ⟨wr.heap.size,7,none⟩=some (.int .i64 r.a)/\w2.cell? ⟨wr.heap.size,8,none⟩=some (.int .i64 r.b)/\w2.cell? ⟨wr.heap.size,9,none⟩=some (.int .i64 r.i)/\w2.cell? ⟨wr.heap.size,10,none⟩=some (.int .i64 r.u):=
 ⟨hg.cell h.1 (by simpa using hne),hg.cell h.2.1 (by simpa using hne),hg.cell h.2.2.1 (by simpa using hne),hg.cell h.2.2.2.1 (by simpa using hne),hg.cell h.2.2.2.2.1 (by simpa using hne),hg.cell h.2.2.2.2.2.1 (by simpa using hne),hg.cell h.2.2.2.2.2.2.1 (by simpa using hne),hg.cell h.2.2.2.2.2.2.2.1 (by simpa using hne),hg.cell h.2.2.2.2.2.2.2.2.1 (by simpa using hne),hg.cell h.2.2.2.2.2.2.2.2.2.1 (by simpa using hne),hg.cell h.2.2.2.2.2.2.2.2.2.2 (by simpa using hne)⟩
theorem eQ(n:Nat)(w:World):Sem.run prog (Instr.makeMap 105 (some (.int .i64 (n:Int)))) w=.ok (.map (some w.heap.size)) (w.alloc (.map #[] 0)):=by kernel_rfl
theorem kW(b off cap:Nat)(rs:List aw)(w:World)(hR:aG w b off rs)(l1:b<w.heap.size)(hfit:∀r∈rs,r.c.size<=maxLen)(hl:rs.length<=1048576)(hs:dx rs):
  Calls prog 71 #[.slice (some ⟨b,off,none⟩) rs.length cap,.func (.func 72) #[] #[]] w fun e w'=>e=.returned (.map (some w.heap.size))/\w'.ownsMap prog 9 RV w.heap.size rs.length (dec rs)/\Below w.heap.size w w':=by
 have hmm:=eQ rs.length;have HS:=ah hs;clear hs;go_enter func71,ntmps71
 go_wp2
 clear hmm
 go_loopw [13] (fun i wx=>∃(k:Nat),k<=rs.length/\i=.int .i64 k/\Hid (wx.ownsMap prog 9 RV w.heap.size k (dec (rs.take k)))/\Below w.heap.size w wx) (fun i _=>rs.length-(intOf i).toNat)
 case atStart=>exact⟨0,Nat.zero_le _,rfl,World.ownsMap_made _ _ _ _,ae bR _⟩
 case round=>
  obtain⟨k,hk,rfl,Ho,hB⟩:=hrel;by_cases hlt:k<rs.length
  ·
   obtain⟨r,hr⟩:∃r,rs[k]?=some r:=⟨rs[k],List.getElem?_eq_getElem hlt⟩
   have Hr:=ah hr;have hf1:=hfit r (List.mem_of_getElem? hr);obtain⟨c0,c1,c2,c3,c4,c5,c6,c7,c8,c9,c10⟩:=(hR.keep l1 hB).at hr;clear hr;have hne:wr.heap.size≠w.heap.size:=(by have:=Ho.out.lt;omega);go_wp2_with fail
   go_region_held3 (fun w'=>w'.cell? ⟨wr.heap.size,0,none⟩=some (.string r.c)/\w'.cell? ⟨wr.heap.size,1,none⟩=some (.int .i64 r.v)/\w'.cell? ⟨wr.heap.size,2,none⟩=some (.string r.h)/\w'.cell? ⟨wr.heap.size,3,none⟩=some (.int .i64 r.p)/\w'.cell? ⟨wr.heap.size,4,none⟩=some (.int .i64 r.s)/\w'.cell? ⟨wr.heap.size,5,none⟩=some (.int .i64 r.d)/\w'.cell? ⟨wr.heap.size,6,none⟩=some (.int .i64 r.g)/\w'.cell? ⟨wr.heap.size,7,none⟩=some (.int .i64 r.a)/\w'.cell? ⟨wr.heap.size,8,none⟩=some (.int .i64 r.b)/\w'.cell? ⟨wr.heap.size,9,none⟩=some (.int .i64 r.i)/\w'.cell? ⟨wr.heap.size,10,none⟩=some (.int .i64 r.u))
    (first|exact nS bD|exact nS (af bD hx)|exact gK (nS (af bD hx)) hg2 hne)
    (first|(go_at_call 72;refine(cM r _).mono ?_;rintro e w' ⟨rfl,hx⟩)|(have hms:=eD w.heap.size k (rs.take k) r (aS (aS Ho.out (au (ae bR _))) hx) (by unfold maxLen;omega) hf1;obtain⟨w2,hrun,ho2,hg2⟩:=hms;go_simp))
   have y1:=af (af hB (ae (Below.refl _ wr) _)) (af bD hx);have Y2:Hid (Below w.heap.size w w2):=Below.grown y1 hg2 y1.size (fun j hj=>by cases hj;exact Nat.le_refl _);have O2:Hid (w2.ownsMap prog 9 RV w.heap.size (k+1) (dec (rs.take (k+1)))):=(by show World.ownsMap _ _ _ _ _ _ _;rw[<-Ord.mj aM HS.out Hr.out];exact ho2);clear y1 hx hg2 ho2 hrun;go_wp2
   exact⟨⟨k+1,by omega,by go_num,O2.out,Y2.out⟩,by simp[intOf];omega⟩
  go_wp2
  go_ret
  have e:k=rs.length:=by omega
  subst e;rw[List.take_of_length_le (Nat.le_refl _)]at Ho;exact⟨rfl,Ho.out,hB⟩
theorem zeroV(w:World):(zeroValue 39).run prog w=.ok (.agg #[.string ⟨#[]⟩,.int .i64 0,.string ⟨#[]⟩,.int .i64 0,.int .i64 0,.int .i64 0,.int .i64 0,.int .i64 0,.int .i64 0,.int .i64 0,.int .i64 0]) w:=by kernel_rfl
theorem mM{w:World}(b n:Nat)(rs:List aw)(hown:w.ownsMap prog 9 RV b n (dec rs))(hs:dx rs)(s:ByteArray)(hz:s.size<=maxLen):
  (∃r∈rs,r.c=s/\Sem.run prog (Instr.lookup 105 (.map (some b)) (.string s) true) w=.ok (.tuple #[.agg #[.string r.c,.int .i64 r.v,.string r.h,.int .i64 r.p,.int .i64 r.s,.int .i64 r.d,.int .i64 r.g,.int .i64 r.a,.int .i64 r.b,.int .i64 r.i,.int .i64 r.u],.bool true]) w)\/((∀r∈rs,r.c≠s)/\Sem.run prog (Instr.lookup 105 (.map (some b)) (.string s) true) w=.ok (.tuple #[.agg #[.string ⟨#[]⟩,.int .i64 0,.string ⟨#[]⟩,.int .i64 0,.int .i64 0,.int .i64 0,.int .i64 0,.int .i64 0,.int .i64 0,.int .i64 0,.int .i64 0],.bool false]) w):=by
 obtain⟨v,ps,hrun,hv⟩:=hown.look_ok kV (t:=105) (e:=39) underlying105 (zeroV w) (zd:=.held ⟨⟨#[]⟩,⟨#[]⟩,0,0,0,0,0,0,0,0,0⟩) (zp:=[]) rfl (keyOf_string_mk underlying9 hz);have hh:has (dec rs) (Lit.string s.data.toList)=rs.any (fun y=>aM y==s.data.toList):=Ord.mW aM _ rs;rw[hh]at hrun;cases ha:rs.any (fun y=>aM y==s.data.toList)
 ·
  right;refine⟨fun r hr e=>?_,?_⟩
  ·
   have:=List.any_eq_false.1 ha r hr;rw[<-e]at this;simp[aM]at this
  rw[show(dec rs).atKey (Lit.string s.data.toList) (.held ⟨⟨#[]⟩,⟨#[]⟩,0,0,0,0,0,0,0,0,0⟩)=.held ⟨⟨#[]⟩,⟨#[]⟩,0,0,0,0,0,0,0,0,0⟩ from Ord.nU aM ha _]at hv;rw[gI hv,ha]at hrun;exact hrun
 ·
  left;obtain⟨r,hr,he⟩:=List.any_eq_true.1 ha;have e1:r.c.data.toList=s.data.toList:=by simpa[aM]using he
  have e2:r.c=s:=Ord.nj e1;refine⟨r,hr,e2,?_⟩;rw[show Lit.string s.data.toList=Lit.string (aM r) from by rw[<-e1];rfl,show(dec rs).atKey (Lit.string (aM r)) (.held ⟨⟨#[]⟩,⟨#[]⟩,0,0,0,0,0,0,0,0,0⟩)=.held r from Ord.mg aM hs hr _]at hv;rw[gI hv,ha]at hrun;exact hrun
def fW:Prop:=∀(mb:Option Nat)(Wo:World),Calls prog 118 #[.map mb] Wo fun e w'=>e=.returned (.func (.func 155) #[] #[.pointer (some ⟨Wo.heap.size,0,none⟩)])/\w'=Wo.alloc (.cells #[.map mb] 105)
def eF:Prop:=∀(b nn:Nat)(rs:List aw)(w:World),w.ownsMap prog 9 RV b nn (dec rs)->rs.length<=1048576 ->
 Calls prog 116 #[.func (.func 155) #[] #[.pointer (some ⟨w.heap.size,0,none⟩)]] (w.alloc (.cells #[.map (some b)] 105)) fun e w'=>∃(v:Value)(ss:List (List UInt8)),e=.returned v/\ss.Perm (strKeys (dec rs)) /\
  w'.ownsRow (w.alloc (.cells #[.map (some b)] 105)).heap.size 9 1 v ss.length ((ss.mergeSort (fun x y=>decide (x<=y))).map encStr)/\Below (w.alloc (.cells #[.map (some b)] 105)).heap.size (w.alloc (.cells #[.map (some b)] 105)) w'
theorem Ll{w:World}(b n:Nat)(rs:List aw)(hown:w.ownsMap prog 9 RV b n (dec rs))(hs:dx rs)(r:aw)(hr:r∈rs)(hz:r.c.size<=maxLen):
  Sem.run prog (Instr.lookup 105 (.map (some b)) (.string r.c) false) w=.ok (.agg (aL r.c r.v r.h r.p r.s r.d r.g r.a r.b r.i r.u)) w:=by
 obtain⟨v,ps,hrun,hv⟩:=hown.lookup kV (t:=105) (e:=39) underlying105 (zeroV w) (zd:=.held ⟨⟨#[]⟩,⟨#[]⟩,0,0,0,0,0,0,0,0,0⟩) (zp:=[]) rfl (keyOf_string_mk underlying9 hz);rw[show Lit.string r.c.data.toList=Lit.string (aM r) from rfl,show(dec rs).atKey (Lit.string (aM r)) (.held ⟨⟨#[]⟩,⟨#[]⟩,0,0,0,0,0,0,0,0,0⟩)=.held r from Ord.mg aM hs hr _]at hv;rw[gI hv]at hrun;exact hrun
theorem lu(r:aw):encStr (aM r)=Value.string r.c:=by show Value.string ⟨r.c.data.toList.toArray⟩=_;rw[Array.toArray_toList]
theorem nP{w:World}{v:Value}{l:List aw}{B B':Nat}(h:Sl w v l B)(hB:B'<=B):Sl w v l B':=by
 rcases h with h|⟨g,cap,h0,h1,h2,h3,h4⟩;·exact Or.inl h
 exact Or.inr ⟨g,cap,h0,Nat.le_trans hB h1,h2,h3,h4⟩
theorem gJ{rs:List aw}{k:Nat}{r:aw}(hr:rs[k]?=some r):aA (rs.take (k+1))=aA (rs.take k)++r.cells:=by
 have hlt:k<rs.length:=(List.getElem?_eq_some_iff.1 hr).1;have he:rs[k]=r:=by rw[List.getElem?_eq_getElem hlt]at hr;exact Option.some.inj hr
 rw[List.take_succ_eq_append_getElem hlt,he];simp[aA]
theorem eX(hK:fW)(hS:eF)(b nn:Nat)(rs:List aw)(w:World)(hown:w.ownsMap prog 9 RV b nn (dec rs))(hs:dx rs)(hfit:∀r∈rs,r.c.size<=maxLen)(hl:rs.length<=1048576):
  Calls prog 80 #[.map (some b)] w fun e w'=>(∃v,e=.returned v/\Sl w' v rs w.heap.size)/\Below w.heap.size w w':=by
 have HO:=ah hown;have HS:=ah hs;have cK:=ah hK;have cS:=ah hS;have HF:=ah hfit;clear hown hs hK hS hfit;obtain⟨i0,hi,hz0,hz1,hz2⟩:=info_parts cE;go_enter func80,ntmps80
 go_wp2_with fail
 refine mr (cK.out _ _) ?_;go_wp2_with fail
 refine(cS.out b nn rs _ HO.out hl).mono ?_;rintro e w1 ⟨v,ss,rfl,hp,hrow,hb⟩;have hlen:ss.length=rs.length:=by rw[hp.length_eq,show strKeys (dec rs)=rs.map aM from Ord.lx aM rs,List.length_map]
 rw[Ord.jC aM HS.out hp,hlen]at hrow;have B1:Hid (Below w.heap.size w w1):=af (ae bR _) hb;have O1:=ah (aS HO.out B1.out);obtain⟨a,c,rfl⟩:=mh hrow;have Ar:Hid (nQ w1 a (rs.map (fun r=>r.c))):=vp (by rw[List.length_map,List.map_map];rw[List.map_map,show(encStr ∘ aM)=((fun x=>Value.string x) ∘ fun r:aw=>r.c) from funext lu]at hrow;exact hrow);clear hrow hp hb hlen;go_wp2_with fail
 go_loopw [3,10] (fun v i wx=>∃(k:Nat),k<=rs.length/\i=.int .i64 k/\wx.ownsRow w1.heap.size 39 11 v k (aA (rs.take k))/\Hid (Below w1.heap.size w1 wx)) (fun _ i _=>rs.length-(intOf i).toNat)
 case atStart=>exact⟨0,Nat.zero_le _,rfl,World.ownsRow_nil _ _ _ _,Below.refl _ _⟩
 case round=>
  obtain⟨k,hk,rfl,hown,HB⟩:=hrel;by_cases hlt:k<rs.length
  ·
   obtain⟨r,hr⟩:∃r,rs[k]?=some r:=⟨rs[k],List.getElem?_eq_getElem hlt⟩
   have Hr:=ah hr;obtain⟨g,rfl,hg,hc⟩:=(Ar.out.keep HB.out).resolve_left (fun h=>by rw[List.map_eq_nil_iff]at h;rw[h]at hlt;simp at hlt);have c0:=hc k r.c (by rw[List.getElem?_map,hr];rfl);have hlk:=Ll b nn rs (aS O1.out HB.out) HS.out r (List.mem_of_getElem? hr) (HF.out r (List.mem_of_getElem? hr));obtain⟨xs,hxs⟩:∃xs,xs=aA (rs.take k):=⟨_,rfl⟩
   rw[<-hxs]at hown;have Ho:=ah hown;have Hx:=ah hxs;have IW:=HB.out.size;have i1:(k:Int)<(rs.length:Int):=(by omega);clear hr hown hxs hc;go_wp2_with (at_builtin;refine wpList_append_own _ rfl _ _ 24 rfl w1.heap.size 39 i0 _ 11 104 underlying24 hi hz0 hz1 hz2 rfl (by decide) _ k _ rfl (by exact aN Ho.out (by repeat (first|exact bR|refine ae ?_ _))) ⟨_,0,none⟩ 1 1 r.cells rfl rfl (bG _ _ (by simp) _ _ _ rfl) (aU _) (by unfold maxLen;omega) (by omega) (by simp;omega) ?_;intro v' w2 ho2 hg2 hn2)
   refine⟨⟨k+1,by omega,by go_num,?_,Below.grown (by repeat (first|exact HB.out|refine ae ?_ _)) hg2 (by simp;omega) (br Ho.out)⟩,by simp[intOf];omega⟩;rw[gJ Hr.out,<-Hx.out];exact ho2
  go_wp2
  go_ret
  have hk':k=rs.length:=by omega
  subst hk';rw[List.take_of_length_le (Nat.le_refl _)]at hown;exact⟨⟨_,rfl,nP (Sl.bE hown) B1.out.size⟩,af B1.out HB.out⟩
end Go.Proofs.YtlfnpjcjapljpaaGreatDoor
namespace Go.Proofs.YtlfnpjcjapljpaaGreatDoor.W
open Go.Maps Go.RowKit Go.WideMaps
theorem fB:fW:=fun mb Wo=>callsIn_wide.1 (Go.Proofs.Tryz.maps_Keys_117 mb Wo)
theorem dY:eF:=fun b nn rs w h hl=>(callsIn_wide.1 (Go.Proofs.Tryz.slices_Sorted_keys_116_117 b nn (dec rs) RV w h (by rw[show size (dec rs)=rs.length from Ord.fe aM rs];unfold maxLen;omega) (by rw[show size (dec rs)=rs.length from Ord.fe aM rs];omega))).mono (by rintro e w' ⟨v,ss,h1,h2,h3,-,h4⟩;exact⟨v,ss,h1,h2,h3,h4⟩)
end Go.Proofs.YtlfnpjcjapljpaaGreatDoor.W
namespace Go.Proofs.YtlfnpjcjapljpaaGreatDoor
open Go.Maps Go.RowKit Go.WideMaps
theorem fB:fW:=fun mb Wo=>callsIn_wide.1 (Go.Proofs.Tryz.maps_Keys_118 mb Wo)
theorem dY:eF:=fun b nn rs w h hl=>(callsIn_wide.1 (Go.Proofs.Tryz.slices_Sorted_keys_116_118 b nn (dec rs) RV w h (by rw[show size (dec rs)=rs.length from Ord.fe aM rs];unfold maxLen;omega) (by rw[show size (dec rs)=rs.length from Ord.fe aM rs];omega))).mono (by rintro e w' ⟨v,ss,h1,h2,h3,-,h4⟩;exact⟨v,ss,h1,h2,h3,h4⟩)
end Go.Proofs.YtlfnpjcjapljpaaGreatDoor
namespace Go.Proofs.YtlfnpjcjapljpaaGreatDoor.A
open Go.Maps Go.RowKit Go.WideMaps
theorem fB:fW:=fun mb Wo=>callsIn_wide.1 (Go.Proofs.Tryz.maps_Keys_119 mb Wo)
theorem dY:eF:=fun b nn rs w h hl=>(callsIn_wide.1 (Go.Proofs.Tryz.slices_Sorted_keys_116_119 b nn (dec rs) RV w h (by rw[show size (dec rs)=rs.length from Ord.fe aM rs];unfold maxLen;omega) (by rw[show size (dec rs)=rs.length from Ord.fe aM rs];omega))).mono (by rintro e w' ⟨v,ss,h1,h2,h3,-,h4⟩;exact⟨v,ss,h1,h2,h3,h4⟩)
end Go.Proofs.YtlfnpjcjapljpaaGreatDoor.A
namespace Go.Proofs.YtlfnpjcjapljpaaGreatDoor.Ord
open Go.Proofs.Tryz
theorem same{α:Type}(key:α->List UInt8){l:List α}(hs:dx key l){q r:α}(hq:q∈l)(hr:r∈l)(e:key q=key r):q=r:=by
 obtain⟨i,hi⟩:=List.getElem?_of_mem hq;obtain⟨j,hj⟩:=List.getElem?_of_mem hr;obtain⟨hil,rfl⟩:=List.getElem?_eq_some_iff.1 hi;obtain⟨hjl,rfl⟩:=List.getElem?_eq_some_iff.1 hj;rcases Nat.lt_trichotomy i j with h|h|h;·exact absurd e (dM (List.pairwise_iff_getElem.1 hs i j hil hjl h))
 ·subst h;rfl
 exact absurd e.symm (dM (List.pairwise_iff_getElem.1 hs j i hjl hil h))
theorem vm{α:Type}(key:α->List UInt8)(r:α):∀l:List α,(∀y∈l,bytesBefore (key r) (key y)=true)->nO key r l=r::l
 |[],_=>rfl
 |y::l,h=>by rw[nO,if_pos (h y (List.mem_cons_self ..))]
theorem vQ{α:Type}(key:α->List UInt8)[DecidableEq (List UInt8)]{r r':α}(hk:key r'=key r):∀{l:List α},dx key l->r∈l->ins key r' l=l.map (fun q=>if key q=key r then r' else q)
 |[],_,h=>by cases h
 |y::l,hs,h=>by
  have hy:∀z∈l,bytesBefore (key y) (key z)=true:=fun z hz=>List.rel_of_pairwise_cons hs hz;have hl:dx key l:=(List.pairwise_cons.1 hs).2;unfold ins;by_cases e:key y=key r
  ·
   have keep:l.filter (fun z=>!(key z==key r'))=l:=List.filter_eq_self.2 (fun z hz=>by have:=dM (hy z hz);simp only[hk,<-e];simp[Ne.symm this]);rw[List.filter_cons_of_neg (by simp[hk,e]),keep,vm key r' l (fun z hz=>by rw[hk,<-e];exact hy z hz),List.map_cons,if_pos e];congr 1;refine((List.map_congr_left (fun z hz=>?_)).trans (List.map_id _)).symm;rw[if_neg (by rw[<-e];exact Ne.symm (dM (hy z hz)))];rfl
  have hrl:r∈l:=by
   rcases List.mem_cons.1 h with h'|h';·exact absurd (by rw[h']) e
   exact h'
  rw[List.filter_cons_of_pos (by simp[hk,e]),nO,if_neg (by rw[hk,jh (hy r hrl)];simp),List.map_cons,if_neg e];congr 1;exact vQ key hk hl hrl
end Go.Proofs.YtlfnpjcjapljpaaGreatDoor.Ord
namespace Go.Proofs.YtlfnpjcjapljpaaGreatDoor
open Go.Maps Go.Proofs.Tryz Go.RowKit Go.WideMaps
theorem fm{w:World}(b n:Nat)(rs:List aw)(hown:w.ownsMap prog 9 RV b n (dec rs))(hs:dx rs)(r:aw)(hr:r∈rs)(hz:r.c.size<=maxLen):
  Sem.run prog (Instr.lookup 105 (.map (some b)) (.string r.c) true) w=.ok (.tuple #[.agg (aL r.c r.v r.h r.p r.s r.d r.g r.a r.b r.i r.u),.bool true]) w:=by
 rcases mM b n rs hown hs r.c hz with⟨q,hq,e,h⟩|⟨hno,-⟩
 ·
  have:q=r:=Ord.same aM hs hq hr (by show q.c.data.toList=r.c.data.toList;rw[e]);subst this;exact h
 ·exact absurd rfl (hno r hr)
theorem gw{w:World}(b n:Nat)(rs:List aw)(hown:w.ownsMap prog 9 RV b n (dec rs))(hs:dx rs)(s:ByteArray)(hz:s.size<=maxLen)(hno:∀r∈rs,r.c≠s):
  Sem.run prog (Instr.lookup 105 (.map (some b)) (.string s) true) w=.ok (.tuple #[.agg (aL ⟨#[]⟩ 0 ⟨#[]⟩ 0 0 0 0 0 0 0 0),.bool false]) w:=by
 rcases mM b n rs hown hs s hz with⟨q,hq,e,h⟩|⟨-,h⟩;·exact absurd e (hno q hq)
 ·exact h
end Go.Proofs.YtlfnpjcjapljpaaGreatDoor
namespace Go.Proofs.YtlfnpjcjapljpaaGreatDoor.A
open Go.Maps Go.Proofs.Tryz Go.RowKit Go.WideMaps
theorem fm{w:World}(b n:Nat)(rs:List aC)(hown:w.ownsMap prog 9 RV b n (dec rs))(hs:dx rs)(r:aC)(hr:r∈rs)(hz:r.h.size<=maxLen):
  Sem.run prog (Instr.lookup 108 (.map (some b)) (.string r.h) true) w=.ok (.tuple #[.agg (cZ r.h r.c r.f r.t),.bool true]) w:=by
 rcases mM b n rs hown hs r.h hz with⟨q,hq,e,h⟩|⟨hno,-⟩
 ·
  have:q=r:=Ord.same aM hs hq hr (by show q.h.data.toList=r.h.data.toList;rw[e]);subst this;exact h
 ·exact absurd rfl (hno r hr)
theorem gw{w:World}(b n:Nat)(rs:List aC)(hown:w.ownsMap prog 9 RV b n (dec rs))(hs:dx rs)(s:ByteArray)(hz:s.size<=maxLen)(hno:∀r∈rs,r.h≠s):
  Sem.run prog (Instr.lookup 108 (.map (some b)) (.string s) true) w=.ok (.tuple #[.agg (cZ ⟨#[]⟩ ⟨#[]⟩ 0 0),.bool false]) w:=by
 rcases mM b n rs hown hs s hz with⟨q,hq,e,h⟩|⟨-,h⟩;·exact absurd e (hno q hq)
 ·exact h
end Go.Proofs.YtlfnpjcjapljpaaGreatDoor.A
namespace Go.Proofs.YtlfnpjcjapljpaaGreatDoor.W
open Go.Proofs.Tryz Go.RowKit
set_option maxHeartbeats 1000000
set_option linter.unusedVariables false
theorem qO(a:Option Addr)(cap:Nat)(ws:List ay)(w:World)(hG:Gv w a ws)(hc:ws.length<=cap)(hl:ws.length<=1048576):
  Calls prog 126 #[.slice a ws.length cap] w fun e w'=>(∃q:Bool,e=.returned (.bool q)/\(q=true↔Diff ws ws.length))/\Below w.heap.size w w':=by
 go_enter func126,ntmps126
 go_wp2
 go_loopw [9] (fun i wx=>∃(k:Nat),k<=ws.length/\i=.int .i64 k/\Hid (Diff ws k)/\Below w.heap.size w wx) (fun i _=>ws.length-(intOf i).toNat)
 case atStart=>exact⟨0,Nat.zero_le _,rfl,fun j r h=>by omega,Below.refl _ _⟩
 case round=>
  obtain⟨k,hk,rfl,Ha,hB⟩:=hrel;by_cases hlt:k<ws.length
  ·
   obtain⟨b,rfl,l1,hR⟩:=hG.resolve_left (fun h=>by rw[h]at hlt;simp at hlt);have hkc:(k:Int)<=(cap:Int):=(by omega);obtain⟨r,hr⟩:∃r,ws[k]?=some r:=⟨ws[k],List.getElem?_eq_getElem hlt⟩
   have Hr:=ah hr;clear hr;have i0:(0:Int)<=(k:Int):=(by omega);have i1:(k:Int)<=(ws.length:Int):=(by omega);obtain⟨c0,c1,c2,c3,c4,c5,c6⟩:=(hR.keep l1 hB).at Hr.out;simp only[Nat.zero_add]at c0 c1 c2 c3 c4 c5 c6;obtain⟨wo,rfl⟩:∃wo:World,wo=wr:=⟨_,rfl⟩
   go_wp2_with fail
   clear c0 c1 c2 c3 c4 c5 c6
   go_loopw [18] (fun j wx=>∃(n:Nat),n<=k/\j=.int .i64 n/\Hid (gE ws r n)/\Below (wo.alloc (.cells (aX r.c r.v r.h r.p r.s r.d r.g) 37)).heap.size (wo.alloc (.cells (aX r.c r.v r.h r.p r.s r.d r.g) 37)) wx) (fun j _=>k-(intOf j).toNat)
   case atStart=>exact⟨0,Nat.zero_le _,rfl,fun i q h=>by omega,Below.refl _ _⟩
   obtain⟨n,hn,rfl,Hn,yH⟩:=hrel;have bo:Below w.heap.size w wr:=af (af hB (ae bR _)) yH;by_cases hnl:n<k
   ·
    obtain⟨t,ht⟩:∃t,ws[n]?=some t:=⟨ws[n],List.getElem?_eq_getElem (by omega)⟩
    have Ht:=ah ht;clear ht;have j0:(0:Int)<=(n:Int):=(by omega);have j1:(n:Int)<(k:Int):=(by omega);obtain⟨c0,c1,c2,c3,c4,c5,c6⟩:=(hR.keep l1 bo).at Ht.out;simp only[Nat.zero_add]at c0 c1 c2 c3 c4 c5 c6;have hkb:=aJ yH;have hzb:=jm yH;cases he:r.h.toList.isEmpty
    ·
     cases hcl:(t.h.toList==r.h.toList)
     ·
      go_wp2
      exact⟨⟨n+1,by omega,by go_num,gE.step Hn.out Ht.out (by simp[clash,he,hcl]),af yH (ae bR _)⟩,by simp[intOf];omega⟩
     go_wp2
     go_ret
     exact⟨⟨false,rfl,⟨fun h=>(by cases h),fun h=>by have:=h k r hlt Hr.out n t hnl Ht.out;simp[clash,he,hcl]at this⟩⟩,ae bo _⟩
    go_wp2
    exact⟨⟨n+1,by omega,by go_num,gE.step Hn.out Ht.out (by simp[clash,he]),af yH (ae bR _)⟩,by simp[intOf];omega⟩
   have hne:n=k:=(by omega);subst hne;go_wp2
   exact⟨⟨n+1,by omega,by go_num,Ha.out.step Hr.out Hn.out,bo⟩,by simp[intOf];omega⟩
  go_wp2
  go_ret
  exact⟨⟨true,rfl,⟨fun _ j r hj hr=>Ha.out j r (by omega) hr,fun _=>rfl⟩⟩,hB⟩
end Go.Proofs.YtlfnpjcjapljpaaGreatDoor.W
namespace Go.Proofs.YtlfnpjcjapljpaaGreatDoor.P
open Go.Proofs.Tryz Go.RowKit
set_option linter.unusedVariables false
end Go.Proofs.YtlfnpjcjapljpaaGreatDoor.P
