import Derived.Test.YtcjhlhijdacinaaGreatDoorJ34
import Derived.Maps.RangeWalk
import Derived.Test.YtcjhlhijdacinaaGreatDoorJ06
import Derived.Test.YtcjhlhijdacinaaGreatDoorJ05
import Derived.Deep.DeepCutAuto
import Derived.Deep.CutBlock
import Derived.Test.YtcjhlhijdacinaaGreatDoorJ13
namespace Go.Proofs.YtcjhlhijdacinaaGreatDoor
open Go.RowKit Go.Maps Go.WideMaps
set_option linter.unusedVariables false
theorem keyOf_string_inv {key:Value} {kl:Lit} (h:keyOf Tryz.prog 9 key=some kl):∃ s:ByteArray,key=.string s∧kl=.string s.data.toList:=by
 have hk:=Tryz.underlying9
 cases key <;> simp [keyOf,hk,mapKey] at h
 obtain ⟨-,rfl⟩:=h
 exact ⟨_,rfl,rfl⟩
namespace G
def valG (r:GrantD):Value:=.agg #[.string r.h,.string r.b,.string r.c,.int .i64 r.t,.int .i64 r.u]
theorem RV_shape {v:Value} {y:DataW GrantD × List MemPlace} (h:RV v=some y):∃ r:GrantD,v=valG r∧y.1=.held r:=by
 unfold RV at h
 split at h
 ·
  rename_i xs
  obtain ⟨l⟩:=xs
  simp only at h
  unfold RVL at h
  split at h
  ·
   have h2:=(Option.some.inj h).symm
   subst h2
   exact ⟨_,rfl,rfl⟩
  cases h
 cases h
end G
def sweptG (t:Int) (left:Lit→Bool) (gs:List G.GrantD):List G.GrantD:=gs.filter (fun g=>!overG t g || left (Lit.string (G.keyV g)))
theorem swept_start (t:Int) (gs:List G.GrantD):sweptG t (has (G.dec gs)) gs=gs:=by
 unfold sweptG
 rw [List.filter_eq_self]
 intro g hg
 have h:has (G.dec gs) (Lit.string (G.keyV g))=true:=by
  rw [show G.dec gs=Ord.dec G.keyV gs from rfl,Ord.dec_has,List.any_eq_true]
  exact ⟨g,hg,by simp⟩
 rw [h,Bool.or_true]
theorem swept_end {t:Int} {left:Lit→Bool} {gs:List G.GrantD} (h:∀ kl,left kl=false):sweptG t left gs=stillG t gs:=by
 unfold sweptG stillG
 refine List.filter_congr fun g _=>?_
 rw [h,Bool.or_false]
theorem swept_srt {t:Int} {left:Lit→Bool} {gs:List G.GrantD} (hs:G.Srt gs):G.Srt (sweptG t left gs):=List.Pairwise.filter _ hs
theorem still_srt {t:Int} {gs:List G.GrantD} (hs:G.Srt gs):G.Srt (stillG t gs):=List.Pairwise.filter _ hs
theorem keyV_inj {g r:G.GrantD} (h:G.keyV g=G.keyV r):g.h=r.h:=Ord.ba_ext h
theorem swept_came {t:Int} {left:Lit→Bool} {gs:List G.GrantD} (hs:G.Srt gs) {s:ByteArray} {r:G.GrantD} (hat:∀ zd,(G.dec (sweptG t left gs)).atKey (Lit.string s.data.toList) zd=.held r):r∈gs∧r.h=s:=by
 cases ha:(sweptG t left gs).any (fun y=>G.keyV y == s.data.toList)
 ·
  have h1:=Ord.dec_none G.keyV ha (.nil)
  have h2:=hat .nil
  rw [show G.dec (sweptG t left gs)=Ord.dec G.keyV (sweptG t left gs) from rfl,h1] at h2
  cases h2
 obtain ⟨y,hy,hk⟩:=List.any_eq_true.1 ha
 have hk':G.keyV y=s.data.toList:=by simpa using hk
 have h1:=Ord.dec_at G.keyV (swept_srt (t:=t) (left:=left) hs) hy .nil
 have h2:=hat .nil
 rw [← hk'] at h2
 rw [show G.dec (sweptG t left gs)=Ord.dec G.keyV (sweptG t left gs) from rfl,h1] at h2
 injection h2 with h2
 subst h2
 exact ⟨(List.mem_filter.1 hy).1,Ord.ba_ext hk'⟩
theorem same_str (a b:List UInt8):(Lit.string a).sameKey (Lit.string b)=(a == b):=rfl
theorem swept_struck {t:Int} {left:Lit→Bool} {gs:List G.GrantD} (hs:G.Srt gs) {r:G.GrantD} (hr:r∈gs) (ho:overG t r=true) :
  (G.dec (sweptG t left gs)).del (Lit.string (G.keyV r))=G.dec (sweptG t (fun z=>left z && !z.sameKey (Lit.string (G.keyV r))) gs):=by
 rw [show G.dec (sweptG t left gs)=Ord.dec G.keyV (sweptG t left gs) from rfl,Ord.dec_del]
 show Ord.dec G.keyV _=Ord.dec G.keyV _
 congr 1
 unfold Ord.out sweptG
 rw [List.filter_filter]
 refine List.filter_congr fun g hg=>?_
 simp only [same_str]
 cases hk:(G.keyV g == G.keyV r)
 · simp
 ·
  have e:=srtG_one hs hr hg (keyV_inj (by simpa using hk))
  subst e
  rw [ho]
  simp
theorem swept_stays {t:Int} {left:Lit→Bool} {gs:List G.GrantD} (hs:G.Srt gs) {r:G.GrantD} (hr:r∈gs) (ho:overG t r=false) :
  sweptG t left gs=sweptG t (fun z=>left z && !z.sameKey (Lit.string (G.keyV r))) gs:=by
 unfold sweptG
 refine List.filter_congr fun g hg=>?_
 simp only [same_str]
 cases hk:(G.keyV g == G.keyV r)
 · simp
 ·
  have e:=srtG_one hs hr hg (keyV_inj (by simpa using hk))
  subst e
  rw [ho]
  rfl
theorem below_grown {w w':World} (hb:Below w.heap.size w w') (row:Option Nat):w.grownBy w' row:=⟨hb.os,hb.tape,hb.output,hb.size,fun i hi _=>hb.block i hi⟩
theorem grown_cell {w w':World} {m b j:Nat} {v:Value} (hg:w.grownBy w' (some m)) (hb:b < w.heap.size) (hne:b≠m) (h:w.cell? ⟨b,j,none⟩=some v):w'.cell? ⟨b,j,none⟩=some v :=
 (World.cell?_of_block (w:=w) (a:=⟨b,j,none⟩) (hg.block b hb (fun e=>hne (Option.some.inj e)))).trans h
set_option maxRecDepth 4000 in
theorem room1_any (xb d:Nat) (t:Int) (s:ByteArray) (g:G.GrantD) (w:World) (hx:w.cell? ⟨xb,0,none⟩=some (.pointer (some ⟨d,0,none⟩))) (hd:w.cell? ⟨d,0,none⟩=some (.int .i64 t)) (hxl:xb < w.heap.size) (hdl:d < w.heap.size) :
  Calls Tryz.prog 93 #[.string s,.agg #[.string g.h,.string g.b,.string g.c,.int .i64 g.t,.int .i64 g.u],.pointer (some ⟨xb,0,none⟩)] w fun e w'=>e=.returned (.bool (overG t g))∧Below w.heap.size w w':=by
 have hb:Below w.heap.size w (w.alloc (.cells #[.string g.h,.string g.b,.string g.c,.int .i64 g.t,.int .i64 g.u] 40)):=bl_alloc bR _
 have hx':(w.alloc (.cells #[.string g.h,.string g.b,.string g.c,.int .i64 g.t,.int .i64 g.u] 40)).cell? ⟨xb,0,none⟩=some (.pointer (some ⟨d,0,none⟩)):=(hb.cell (p:=⟨xb,0,none⟩) hxl).trans hx
 have HO:Hid (Calls Tryz.prog 90 #[.pointer (some ⟨d,0,none⟩),.agg #[.string g.h,.string g.b,.string g.c,.int .i64 g.t,.int .i64 g.u]] (w.alloc (.cells #[.string g.h,.string g.b,.string g.c,.int .i64 g.t,.int .i64 g.u] 40)) fun e w'=>e=.returned (.bool (overG t g))∧Below (w.alloc (.cells #[.string g.h,.string g.b,.string g.c,.int .i64 g.t,.int .i64 g.u] 40)).heap.size (w.alloc (.cells #[.string g.h,.string g.b,.string g.c,.int .i64 g.t,.int .i64 g.u] 40)) w'):=isOver_any d t g _ ((hb.cell (p:=⟨d,0,none⟩) hdl).trans hd) (Nat.lt_of_lt_of_le hdl hb.size)
 have HB:=hidP hb
 clear hb hx hd
 go_enter Tryz.func93,Tryz.ntmps93
 go_wp2_with fail
 refine HO.out.mono ?_
 rintro e w1 ⟨rfl,hb⟩
 have HB1:=hidP (bl_trans HB.out hb)
 clear hb
 go_wp2
 go_ret
 exact ⟨rfl,HB1.out⟩
set_option maxRecDepth 4000 in
set_option maxHeartbeats 2000000 in
theorem delFunc (m1 n d xb:Nat) (t:Int) (gs:List G.GrantD) (w:World) (hown:w.ownsMap Tryz.prog 9 G.RV m1 n (G.dec gs)) (hs:G.Srt gs) (hx:w.cell? ⟨xb,0,none⟩=some (.pointer (some ⟨d,0,none⟩))) (hd:w.cell? ⟨d,0,none⟩=some (.int .i64 t)) (hxl:xb < w.heap.size) (hdl:d < w.heap.size) (hxm:xb≠m1) (hdm:d≠m1) (hfit:∀ g∈gs,g.h.size≤maxLen) :
  Calls Tryz.prog 92 #[.map (some m1),.func (.func 93) #[] #[.pointer (some ⟨xb,0,none⟩)]] w fun e w'=>e=.returned (.tuple #[])∧w'.ownsMap Tryz.prog 9 G.RV m1 n (G.dec (stillG t gs))∧w.grownBy w' (some m1):=by
 have HR1:Hid (∀ y,w.grownBy y (some m1)→∀ (s:ByteArray) (g:G.GrantD),Calls Tryz.prog 93 #[.string s,.agg #[.string g.h,.string g.b,.string g.c,.int .i64 g.t,.int .i64 g.u],.pointer (some ⟨xb,0,none⟩)] y fun e w'=>e=.returned (.bool (overG t g))∧Below y.heap.size y w'):=fun y hy s g =>
  room1_any xb d t s g y (grown_cell hy hxl hxm hx) (grown_cell hy hdl hdm hd) (Nat.lt_of_lt_of_le hxl hy.size) (Nat.lt_of_lt_of_le hdl hy.size)
 have HS:=hidP hs
 have HF:=hidP hfit
 have HM:=hidP hown.lt
 clear hs hx hd hfit
 go_enter Tryz.func92,Tryz.ntmps92
 go_wp2_with (first | (at_range; refine wpList_range_own _ rfl _ 90 rfl 9 40 G.lawV Tryz.underlying90 _ m1 n _ rfl hown ?_; intro w0 hrg0 hg0 hs0) | go_in)
 go_frame
 go_loopw [4] (fun _ wr=>∃ (left:Lit→Bool) (cnt:Nat),Hid (wr.ranges Tryz.prog 9 G.RV m1 w.heap.size n (G.dec (sweptG t left gs)) left cnt)∧Hid (w.grownBy wr (some m1))) (fun _ wr=>wr.rangeLeft m1 w.heap.size)
 case atStart=>exact ⟨_,_,by show World.ranges _ _ _ _ _ _ _ _ _ _; rw [swept_start]; exact hrg0,hg0.but _⟩
 case round =>
  obtain ⟨left,cnt,HRG,HGW⟩:=hrel
  have hrg:=HRG.out
  go_wp2_with (first | (at_next; refine wpList_next_ranges _ rfl _ rfl 9 G.lawV G.RV Value.string G.valG (fun key kl hkey=>by obtain ⟨x,rfl,_⟩:=keyOf_string_inv hkey; exact ⟨x,rfl⟩) (fun v y hv=>by obtain ⟨c,rfl,_⟩:=G.RV_shape hv; exact ⟨c,rfl⟩) m1 w.heap.size n _ _ _ rfl hrg ?_ ?_) | go_in)
  ·
   intro _ hl0
   have HL0:=hidP hl0
   clear hl0 hrg
   go_wp2
   go_end0
   exact ⟨rfl,by rw [← swept_end HL0.out]; exact HRG.out.owns,HGW.out⟩
  intro s g kl y1 y2 w1 cnt1 hkey hlx hv hat hrg1 hlt hg1 hs1 hen
  obtain ⟨s',e1,rfl⟩:=keyOf_string_inv hkey
  injection e1 with e1
  subst e1
  obtain ⟨g',e2,hy⟩:=G.RV_shape hv
  have hgg:g'=g:=by
   unfold G.valG at e2
   injection e2 with e2
   have e3:[Value.string g.h,.string g.b,.string g.c,.int .i64 g.t,.int .i64 g.u]=[Value.string g'.h,.string g'.b,.string g'.c,.int .i64 g'.t,.int .i64 g'.u]:=congrArg Array.toList e2
   simp only [List.cons.injEq,Value.string.injEq,Value.int.injEq,true_and,and_true] at e3
   obtain ⟨a1,a2,a3,a4,a5⟩:=e3
   cases g; cases g'; simp_all
  subst hgg
  have HC:Hid (g'∈gs∧g'.h=s):=swept_came HS.out (fun zd=>(hat zd).trans hy)
  have HRG1:=hidP hrg1
  have HLT:=hidP hlt
  have HG1:Hid (w.grownBy w1 (some m1)):=HGW.out.andThen hg1 (fun j hj=>by cases hj; exact Or.inl (Nat.le_refl _))
  clear hkey hlx hv hat hrg1 hlt hg1 hs1 hy e2 hrg
  unfold G.valG at hen
  unfold G.valG
  go_wp2_with fail
  have HGX:Hid (w.grownBy (w1.alloc (.cells #[.string g'.h,.string g'.b,.string g'.c,.int .i64 g'.t,.int .i64 g'.u] 40)) (some m1)):=HG1.out.andThen (World.grownBy_alloc w1 _ none) (fun j hj=>by cases hj)
  refine (HR1.out _ HGX.out s g').mono ?_
  rintro e w2 ⟨rfl,hb⟩
  have HG2:Hid (w.grownBy w2 (some m1)):=HGX.out.andThen (below_grown hb none) (fun j hj=>by cases hj)
  have HRG2:Hid (w2.ranges Tryz.prog 9 G.RV m1 w.heap.size n (G.dec (sweptG t left gs)) (fun z=>left z && !z.sameKey (Lit.string s.data.toList)) cnt1):=(HRG1.out.alloc _).kept (below_grown hb none) (by simp) (by simp)
  have HK:Hid (Lit.string s.data.toList=Lit.string (G.keyV g')):=by show _=_; rw [G.keyV,HC.out.2]
  clear hb hen
  cases ho:overG t g'
  ·
   go_wp2
   refine ⟨⟨fun z=>left z && !z.sameKey (Lit.string (G.keyV g')),cnt1, ?_,HG2.out⟩, ?_⟩
   ·
    show World.ranges _ _ _ _ _ _ _ _ _ _
    have h:=HRG2.out
    rw [HK.out] at h
    rw [← swept_stays HS.out HC.out.1 ho]
    exact h
   rw [HRG2.out.left_eq,HRG.out.left_eq]
   exact HLT.out
  have hrg2:=HRG2.out
  have hkey:keyOf Tryz.prog 9 (.string s)=some (.string s.data.toList):=keyOf_string_mk Tryz.underlying9 (by rw [← HC.out.2]; exact HF.out g' HC.out.1)
  go_wp2_with (first | (at_delete; refine wpList_delete_ranges _ rfl _ _ 90 9 rfl 40 G.lawV Tryz.underlying90 _ m1 w.heap.size n _ _ _ rfl hrg2 _ _ rfl hkey ?_; intro w3 cnt2 hrg3 hle hturn; go_frame) | go_in)
  rw [strike_twice] at hrg3
  go_roundw
  case rel =>
   refine ⟨fun z=>left z && !z.sameKey (Lit.string (G.keyV g')),cnt2, ?_,HG2.out.andThen hturn.grown (fun j hj=>by cases hj; exact Or.inr rfl)⟩
   show World.ranges _ _ _ _ _ _ _ _ _ _
   rw [HK.out,swept_struck HS.out HC.out.1 ho] at hrg3
   exact hrg3
  have h1:=HLT.out
  rw [hrg3.left_eq,HRG.out.left_eq]
  omega
end Go.Proofs.YtcjhlhijdacinaaGreatDoor
namespace Go.Proofs.YtcjhlhijdacinaaGreatDoor
open Go.RowKit Go.Maps Go.WideMaps
set_option linter.unusedVariables false
set_option maxRecDepth 4000 in
set_option maxHeartbeats 2000000 in
theorem hasRoom_any (m1 n:Nat) (h:ByteArray) (gs:List G.GrantD) (w:World) (hown:w.ownsMap Tryz.prog 9 G.RV m1 n (G.dec gs)) (hs:G.Srt gs) (hh:h.size≤maxLen) (hl:gs.length≤1048576) :
  Calls Tryz.prog 91 #[.map (some m1),.string h] w fun e w'=>e=.returned (.bool (roomG h gs))∧Below w.heap.size w w':=by
 have HOWN:=hidP hown
 rcases G.lookV m1 n gs hown hs h hh with ⟨r,hr,e,hrun⟩ | ⟨hno,hrun⟩
 ·
  have hroom:roomG h gs=true:=by unfold roomG; rw [has_of hr e]; rfl
  rw [hroom]
  clear hown hs hr e hroom
  go_enter Tryz.func91,Tryz.ntmps91
  go_wp2
  go_ret
  exact ⟨rfl,bl_alloc bR _⟩
 ·
  have hroom:roomG h gs=decide (gs.length < 40):=by unfold roomG; rw [has_none hno]; rfl
  rw [hroom]
  have hb:Below w.heap.size w (w.alloc (.cells #[.string ⟨#[]⟩,.string ⟨#[]⟩,.string ⟨#[]⟩,.int .i64 0,.int .i64 0] 40)):=bl_alloc bR _
  have HB:=hidP hb
  have hlen:∀ ty,Sem.run Tryz.prog (Builtin.len_ #[90] ty #[.map (some m1)]) (w.alloc (.cells #[.string ⟨#[]⟩,.string ⟨#[]⟩,.string ⟨#[]⟩,.int .i64 0,.int .i64 0] 40))=.ok (.int .i64 (gs.length:Int)) (w.alloc (.cells #[.string ⟨#[]⟩,.string ⟨#[]⟩,.string ⟨#[]⟩,.int .i64 0,.int .i64 0] 40)):=fun ty=>by
   have h1:=(G.mapv_below hown hb).len (t:=90) (e:=40) Tryz.underlying90 ty
   rw [show G.dec gs=Ord.dec G.keyV gs from rfl,Ord.dec_size] at h1
   exact h1
  clear hown hs hno hroom hb
  by_cases hc:(gs.length:Int) < 40
  ·
   have hc2:gs.length < 40:=by omega
   rw [decide_eq_true hc2]
   clear hc2
   go_enter Tryz.func91,Tryz.ntmps91
   go_wp2
   go_ret
   exact ⟨rfl,HB.out⟩
  have hc2:¬ gs.length < 40:=by omega
  rw [decide_eq_false hc2]
  clear hc2
  go_enter Tryz.func91,Tryz.ntmps91
  go_wp2
  go_ret
  exact ⟨rfl,HB.out⟩
theorem book_grants {y y':World} {d m1 m2 n:Nat} {t:Int} {gs gs':List G.GrantD} {rs:List Pr.PlRaw} (h:Book y d t m1 m2 gs rs) (hd:d≠m1) (hg:y.grownBy y' (some m1)) (ho:y'.ownsMap Tryz.prog 9 G.RV m1 n (G.dec gs')):Book y' d t m1 m2 gs' rs:=by
 obtain ⟨n2,o2⟩:=h.o2
 have hdn:some d≠some m1:=fun e=>hd (Option.some.inj e)
 exact ⟨fun k=>(World.cell?_of_block (w:=y) (a:=⟨d,k,none⟩) (hg.block d h.l hdn)).trans (h.c k),fun k=>(World.frozen?_of_block (w:=y) (a:=⟨d,k,none⟩) (hg.block d h.l hdn)).trans (h.f k),Nat.lt_of_lt_of_le h.l hg.size,⟨n,ho⟩,⟨n2,o2.kept (row:=some m1) hg (fun e=>h.ne (Option.some.inj e).symm)⟩,h.ne⟩
theorem left_srt {t:Int} {h:ByteArray} {gs:List G.GrantD} (hs:G.Srt gs):G.Srt (leftG t h gs):=by
 unfold leftG
 split
 · exact hs
 exact still_srt hs
theorem left_mem {t:Int} {h:ByteArray} {gs:List G.GrantD}:∀ g∈leftG t h gs,g∈gs:=by
 unfold leftG
 intro g hg
 split at hg
 · exact hg
 exact (List.mem_filter.1 hg).1
theorem left_len {t:Int} {h:ByteArray} {gs:List G.GrantD}:(leftG t h gs).length≤gs.length:=by
 unfold leftG
 split
 · exact Nat.le_refl _
 exact List.length_filter_le ..
set_option maxRecDepth 4000 in
set_option maxHeartbeats 2000000 in
theorem makeRoom_any (d m1 m2 n:Nat) (t:Int) (h:ByteArray) (gs:List G.GrantD) (rs:List Pr.PlRaw) (w:World) (hB:Book w d t m1 m2 gs rs) (hown:w.ownsMap Tryz.prog 9 G.RV m1 n (G.dec gs)) (hd:d≠m1) (hs:G.Srt gs) (hh:h.size≤maxLen) (hl:gs.length≤1048576) (hfit:∀ g∈gs,g.h.size≤maxLen) :
  Calls Tryz.prog 78 #[.pointer (some ⟨d,0,none⟩),.string h] w fun e w'=>e=.returned (.bool (roomG h (leftG t h gs)))∧Book w' d t m1 m2 (leftG t h gs) rs∧w'.ownsMap Tryz.prog 9 G.RV m1 n (G.dec (leftG t h gs))∧w.grownBy w' (some m1):=by
 obtain ⟨W0,hW0⟩:∃ W0,W0=w.alloc (.cells #[.pointer (some ⟨d,0,none⟩)] 62):=⟨_,rfl⟩
 have HW0:=hidP hW0
 have B0:Hid (Below w.heap.size w W0):=by rw [hW0]; exact bl_alloc bR _
 have Z0:Hid (w.heap.size < W0.heap.size):=by rw [hW0]; show _ < _; simp
 obtain ⟨xb,hxb⟩:∃ xb,xb=w.heap.size:=⟨_,rfl⟩
 have HXB:=hidP hxb
 have KX:Hid (∀ y,W0.grownBy y (some m1)→y.cell? ⟨xb,0,none⟩=some (.pointer (some ⟨d,0,none⟩))):=by
  intro y hy
  have hm:=hown.lt
  refine grown_cell hy (by have:=Z0.out; omega) (by omega) ?_
  rw [hW0,hxb]
  simp [go_sem]
 have BK:Hid (∀ y,Below W0.heap.size W0 y→Book y d t m1 m2 gs rs∧y.ownsMap Tryz.prog 9 G.RV m1 n (G.dec gs)):=fun y hy=>⟨hB.keep (bl_trans B0.out hy),G.mapv_below hown (bl_trans B0.out hy)⟩
 have HR:Hid (∀ y (gs':List G.GrantD),y.ownsMap Tryz.prog 9 G.RV m1 n (G.dec gs')→G.Srt gs'→gs'.length≤gs.length→Calls Tryz.prog 91 #[.map (some m1),.string h] y fun e w'=>e=.returned (.bool (roomG h gs'))∧Below y.heap.size y w'):=fun y gs' ho hs' hl'=>hasRoom_any m1 n h gs' y ho hs' hh (by omega)
 have DF:Hid (∀ y,Below W0.heap.size W0 y→Calls Tryz.prog 92 #[.map (some m1),.func (.func 93) #[] #[.pointer (some ⟨xb,0,none⟩)]] y fun e w'=>e=.returned (.tuple #[])∧w'.ownsMap Tryz.prog 9 G.RV m1 n (G.dec (stillG t gs))∧y.grownBy w' (some m1)):=by
  intro y hy
  have hm:=hown.lt
  have hk:=BK.out y hy
  have hz:=Z0.out
  have hzy:=hy.size
  exact delFunc m1 n d xb t gs y hk.2 hs (KX.out y (below_grown hy _)) (hk.1.c 0) (by omega) hk.1.l (by omega) hd hfit
 have HS:=hidP hs
 have HD:=hidP hd
 clear hW0 hB hown hs hfit hd
 go_enter Tryz.func78,Tryz.ntmps78
 go_upto_region 1 with fail
 rw [← HW0.out,← hxb]
 clear hxb
 have k0:W0.cell? ⟨xb,0,none⟩=some (.pointer (some ⟨d,0,none⟩)):=KX.out W0 (below_grown bR _)
 have k1:W0.cell? ⟨d,1,none⟩=some (.map (some m1)):=(BK.out W0 bR).1.c 1
 go_wp2_with fail
 clear k0 k1
 refine (HR.out W0 gs (BK.out W0 bR).2 HS.out (Nat.le_refl _)).mono ?_
 rintro e w1 ⟨rfl,c1⟩
 have C1:=hidP c1
 clear c1
 cases hr:roomG h gs
 ·
  have E1:Hid (leftG t h gs=stillG t gs):=by show _=_; unfold leftG; rw [hr]; rfl
  clear hr
  have k0:w1.cell? ⟨xb,0,none⟩=some (.pointer (some ⟨d,0,none⟩)):=KX.out w1 (below_grown C1.out _)
  have k1:w1.cell? ⟨d,1,none⟩=some (.map (some m1)):=(BK.out w1 C1.out).1.c 1
  go_wp2_with fail
  clear k0 k1
  refine (DF.out w1 C1.out).mono ?_
  rintro e w2 ⟨rfl,o2,g2⟩
  have G2:=hidP g2
  have B2:=hidP (book_grants (BK.out w1 C1.out).1 HD.out g2 o2)
  have O2:=hidP o2
  have GW2:Hid (W0.grownBy w2 (some m1)):=(below_grown C1.out (some m1)).andThen g2 (fun j hj=>Or.inr hj)
  clear o2 g2
  have k0:w2.cell? ⟨xb,0,none⟩=some (.pointer (some ⟨d,0,none⟩)):=KX.out w2 GW2.out
  have k1:w2.cell? ⟨d,1,none⟩=some (.map (some m1)):=B2.out.c 1
  go_wp2_with fail
  clear k0 k1
  refine (HR.out w2 (stillG t gs) O2.out (still_srt HS.out) (List.length_filter_le ..)).mono ?_
  rintro e w3 ⟨rfl,c3⟩
  have C3:=hidP c3
  clear c3
  go_wp2
  go_ret
  rw [E1.out]
  exact ⟨rfl,B2.out.keep C3.out,G.mapv_below O2.out C3.out,((below_grown B0.out (some m1)).andThen GW2.out (fun j hj=>Or.inr hj)).andThen (below_grown C3.out (some m1)) (fun j hj=>Or.inr hj)⟩
 ·
  have E1:Hid (leftG t h gs=gs):=by show _=_; unfold leftG; rw [hr]; rfl
  have HR9:=hidP hr
  clear hr
  have k0:w1.cell? ⟨xb,0,none⟩=some (.pointer (some ⟨d,0,none⟩)):=KX.out w1 (below_grown C1.out _)
  have k1:w1.cell? ⟨d,1,none⟩=some (.map (some m1)):=(BK.out w1 C1.out).1.c 1
  go_wp2_with fail
  clear k0 k1
  refine (HR.out w1 gs (BK.out w1 C1.out).2 HS.out (Nat.le_refl _)).mono ?_
  rintro e w3 ⟨rfl,c3⟩
  have C3:=hidP (bl_trans C1.out c3)
  clear c3
  go_wp2
  go_ret
  rw [E1.out]
  exact ⟨rfl,(BK.out w3 C3.out).1,(BK.out w3 C3.out).2,below_grown (bl_trans B0.out C3.out) _⟩
end Go.Proofs.YtcjhlhijdacinaaGreatDoor
namespace Go.Proofs.YtcjhlhijdacinaaGreatDoor
open Go.RowKit Go.Maps Go.WideMaps
set_option linter.unusedVariables false
theorem hinfoG:(Tryz.prog.info? 40).map (·.size)=some 5:=by kernel_rfl
theorem there_newG (y:World) (O:Array Value) (ty:TypeId) {k:Nat} (h:O.size=k):(y.alloc (.cells O ty)).there y.heap.size 0 k:=by
 subst h
 intro j hj
 have h1:=heap_alloc_newL y (.cells O ty)
 generalize y.alloc (.cells O ty)=x at h1 ⊢
 simp [World.cell?,World.frozen?,h1,hj]
def zeroG:G.GrantD:=⟨⟨#[]⟩,⟨#[]⟩,⟨#[]⟩,0,0⟩
def FoundG (h:ByteArray) (gs:List G.GrantD) (g:G.GrantD) (q:Bool):Prop:=(q=true∧g∈gs∧g.h=h)∨(q=false∧∀ r∈gs,r.h≠h)
theorem foundG (h:ByteArray) (gs:List G.GrantD) (hs:G.Srt gs) (hh:h.size≤maxLen):∃ g q,FoundG h gs g q∧∀ (y:World) (m n:Nat),y.ownsMap Tryz.prog 9 G.RV m n (G.dec gs)→Sem.run Tryz.prog (Instr.lookup 90 (.map (some m)) (.string h) true) y=.ok (.tuple #[.agg #[.string g.h,.string g.b,.string g.c,.int .i64 g.t,.int .i64 g.u],.bool q]) y:=by
 by_cases hx:∃ r∈gs,r.h=h
 ·
  obtain ⟨r,hr,e⟩:=hx
  refine ⟨r,true,Or.inl ⟨rfl,hr,e⟩,fun y m n ho=>?_⟩
  rcases G.lookV m n gs ho hs h hh with ⟨r',hr',e',hrun⟩ | ⟨hno,-⟩
  ·
   rw [srtG_one hs hr hr' (e'.trans e.symm)] at hrun
   exact hrun
  exact (hno r hr e).elim
 refine ⟨zeroG,false,Or.inr ⟨rfl,fun r hr e=>hx ⟨r,hr,e⟩⟩,fun y m n ho=>?_⟩
 rcases G.lookV m n gs ho hs h hh with ⟨r',hr',e',-⟩ | ⟨-,hrun⟩
 · exact (hx ⟨r',hr',e'⟩).elim
 exact hrun
def slLk:Nat→Nat
 | 0=>8
 | 1=>9
 | 2=>10
 | 3=>11
 | 4=>12
 | 5=>13
 | 6=>14
 | 7=>7
 | 8=>15
 | 9=>16
 | 10=>5
 | 11=>100011
 | 12=>6
 | _=>0
theorem slLk_inj (i:Nat) (hi:i < 13):∀ j,j < 13→slLk j=slLk i→j=i:=by
 have h:∀ a:_root_.Fin 13,∀ b:_root_.Fin 13,slLk b.1=slLk a.1→b.1=a.1:=by decide +kernel
 intro j hj e
 exact h ⟨i,hi⟩ ⟨j,hj⟩ e
theorem slLk_far:∀ j,j < 100000→(j < 5∨5+12≤j)→∀ i,i < 13→slLk i≠j:=by
 intro j h1 h2 i hi
 have h:∀ a:_root_.Fin 13,5≤slLk a.1∧(slLk a.1 < 5+12∨100000≤slLk a.1):=by decide +kernel
 have:=h ⟨i,hi⟩
 dsimp only at this
 omega
def GLk (d pb m1:Nat) (h:ByteArray) (g:G.GrantD) (q:Bool) (Z:Nat) (L:Array Bool) (w:World):Nat→Value→Prop
 | 0,v=>v=.pointer (some ⟨d,0,none⟩)
 | 1,v=>v=.pointer (some ⟨d,0,none⟩)
 | 2,v=>v=.pointer (some ⟨d,1,none⟩)
 | 3,v=>v=.map (some m1)
 | 4,v=>v=.pointer (some ⟨pb,4,none⟩)
 | 5,v=>v=.string h
 | 6,v=>v=.tuple #[.agg #[.string g.h,.string g.b,.string g.c,.int .i64 g.t,.int .i64 g.u],.bool q]
 | 7,v=>v=.tuple #[.agg #[.string g.h,.string g.b,.string g.c,.int .i64 g.t,.int .i64 g.u],.bool q]
 | 8,v=>v=.agg #[.string g.h,.string g.b,.string g.c,.int .i64 g.t,.int .i64 g.u]
 | 9,v=>v=.bool q
 | 10,v=>∃ A,v=.pointer (some ⟨A,0,none⟩)∧Z≤A∧A < w.heap.size∧(L.getD 11 false=false→w.there A 0 5)∧(L.getD 11 false=true→w.rangeAt A 0 g.cells)
 | 11,v=>True
 | 12,v=>v=.bool q
 | _,_=>True
theorem GLk.keep {d pb m1:Nat} {h:ByteArray} {g:G.GrantD} {q:Bool} {Z:Nat} {L L':Array Bool} {w:World} (h11:L'.getD 11 false=L.getD 11 false):∀ j v,GLk d pb m1 h g q Z L w j v→GLk d pb m1 h g q Z L' w j v
 | 0,_,h=>h
 | 1,_,h=>h
 | 2,_,h=>h
 | 3,_,h=>h
 | 4,_,h=>h
 | 5,_,h=>h
 | 6,_,h=>h
 | 7,_,h=>h
 | 8,_,h=>h
 | 9,_,h=>h
 | 10,_,h=>by
  obtain ⟨A,h1,h2,h3,h4,h5⟩:=h
  exact ⟨A,h1,h2,h3,fun e=>h4 (by rw [← h11]; exact e),fun e=>h5 (by rw [← h11]; exact e)⟩
 | 11,_,h=>h
 | 12,_,h=>h
 | _+13,_,h=>h
theorem GLk.keepN {d pb m1:Nat} {h:ByteArray} {g:G.GrantD} {q:Bool} {Z:Nat} {L L':Array Bool} {w w':World}  : ∀ j v,j≠10→GLk d pb m1 h g q Z L w j v→GLk d pb m1 h g q Z L' w' j v
 | 0,_,h10,h=>h
 | 1,_,h10,h=>h
 | 2,_,h10,h=>h
 | 3,_,h10,h=>h
 | 4,_,h10,h=>h
 | 5,_,h10,h=>h
 | 6,_,h10,h=>h
 | 7,_,h10,h=>h
 | 8,_,h10,h=>h
 | 9,_,h10,h=>h
 | 10,_,h10,h=>(h10 rfl).elim
 | 11,_,h10,h=>h
 | 12,_,h10,h=>h
 | _+13,_,h10,h=>h
set_option maxRecDepth 4000 in
set_option maxHeartbeats 4000000 in
theorem mayGive_any (d m1 m2:Nat) (t:Int) (p:TakeP) (s:Int) (a:Option Addr) (nw cw:Nat) (gs:List G.GrantD) (rs:List Pr.PlRaw) (w:World) (hB:Book w d t m1 m2 gs rs) (hs:G.Srt gs) (hf:p.fits) :
  Calls Tryz.prog 77 #[.pointer (some ⟨d,0,none⟩),.agg #[.int .i64 p.k,.string p.b,.int .i64 s,.slice a nw cw,.string p.h,.string p.c,.int .i64 p.t]] w fun e w'=>e=.returned (.bool (mayG t p gs))∧Below w.heap.size w w':=by
 obtain ⟨g,q,hgq,hlk⟩:=foundG p.h gs hs hf.h
 obtain ⟨W0,hW0⟩:∃ W0,W0=w.alloc (.cells #[.int .i64 p.k,.string p.b,.int .i64 s,.slice a nw cw,.string p.h,.string p.c,.int .i64 p.t] 29):=⟨_,rfl⟩
 have HW0:=hidP hW0
 have B0:Hid (Below w.heap.size w W0):=by rw [hW0]; exact bl_alloc bR _
 obtain ⟨pb,hpb⟩:∃ pb,pb=w.heap.size:=⟨_,rfl⟩
 have KP:Hid (∀ y,Below W0.heap.size W0 y→∀ j,y.cell? ⟨pb,j,none⟩=(#[.int .i64 p.k,.string p.b,.int .i64 s,.slice a nw cw,.string p.h,.string p.c,.int .i64 p.t]:Array Value)[j]?):=by
  intro y hb j
  rw [hW0] at hb
  rw [hpb,box_keep hb j]
  simp [go_sem]
 have KD:Hid (∀ y,Below W0.heap.size W0 y→y.cell? ⟨d,1,none⟩=some (.map (some m1))):=fun y hy=>(hB.keep (bl_trans B0.out hy)).c 1
 have LK:Hid (∀ y,Below W0.heap.size W0 y→Sem.run Tryz.prog (Instr.lookup 90 (.map (some m1)) (.string p.h) true) y=.ok (.tuple #[.agg #[.string g.h,.string g.b,.string g.c,.int .i64 g.t,.int .i64 g.u],.bool q]) y):=fun y hy=>by
  obtain ⟨n,ho⟩:=(hB.keep (bl_trans B0.out hy)).o1
  exact hlk y m1 n ho
 have IOv:Hid (∀ y,Below W0.heap.size W0 y→Calls Tryz.prog 90 #[.pointer (some ⟨d,0,none⟩),.agg #[.string g.h,.string g.b,.string g.c,.int .i64 g.t,.int .i64 g.u]] y fun e w'=>e=.returned (.bool (overG t g))∧Below y.heap.size y w'):=fun y hy=>isOver_any d t g y ((hB.keep (bl_trans B0.out hy)).c 0) (hB.keep (bl_trans B0.out hy)).l
 have HM:Hid (mayG t p gs=(!q || (overG t g || mineG p g))):=by
  rcases hgq with ⟨rfl,h1,h2⟩ | ⟨rfl,h1⟩
  · exact may_of hs h1 h2
  exact may_none h1
 clear hB hs hf hW0 hlk hgq
 go_enter Tryz.func77,Tryz.ntmps77
 go_wp2_with fail
 rw [← HW0.out,← hpb]
 have HPB:=hidP hpb
 clear hpb
 refine wp_region_any (by kernel_rfl) ?_
 refine reg_invG slLk 13 (GLk d pb m1 p.h g q W0.heap.size) (fun _ y=>Below W0.heap.size W0 y) (by decide) rfl bD ?done ?step
 case done =>
  intro L a y hL hdf hsz hout hG hD
  obtain ⟨A,hA,hZ,hA2,-,hrow⟩:=hG 10 (by omega)
  have h6:_=Value.bool q:=hG 12 (by omega)
  have HROW:Hid (y.rangeAt A 0 g.cells):=hrow (hL 11 (by omega))
  have HY:=hidP hD
  have HA2:=hidP hA2
  clear hrow hG hD hL
  obtain ⟨l',hl',ha⟩:=frameP_of (lo:=5) (n:=12) hdf hsz (fun j hj=>by
   by_cases hj9:j < 100000
   · exact hout j (fun i hi=>slLk_far j hj9 hj i hi)
   rw [Array.getD_eq_getD_getElem?,Array.getD_eq_getD_getElem?,Array.getElem?_eq_none (Nat.le_trans (Nat.le_of_eq hsz) (Nat.le_trans (lE rfl) (Nat.le_of_not_lt hj9))),Array.getElem?_eq_none (Nat.le_trans (lE rfl) (Nat.le_of_not_lt hj9))]) (lE rfl)
  subst ha
  obtain ⟨u0,ul0,rfl,uh0⟩:=lenP_succ hl'
  obtain ⟨u1,ul1,rfl,uh1⟩:=lenP_succ uh0
  obtain ⟨u2,ul2,rfl,uh2⟩:=lenP_succ uh1
  obtain ⟨u3,ul3,rfl,uh3⟩:=lenP_succ uh2
  obtain ⟨u4,ul4,rfl,uh4⟩:=lenP_succ uh3
  obtain ⟨u5,ul5,rfl,uh5⟩:=lenP_succ uh4
  obtain ⟨u6,ul6,rfl,uh6⟩:=lenP_succ uh5
  obtain ⟨u7,ul7,rfl,uh7⟩:=lenP_succ uh6
  obtain ⟨u8,ul8,rfl,uh8⟩:=lenP_succ uh7
  obtain ⟨u9,ul9,rfl,uh9⟩:=lenP_succ uh8
  obtain ⟨u10,ul10,rfl,uh10⟩:=lenP_succ uh9
  obtain ⟨u11,ul11,rfl,uh11⟩:=lenP_succ uh10
  obtain rfl:=lenP_zero uh11
  have hA':u0=_:=hA
  have h6':u1=_:=h6
  subst hA' h6'
  clear hA h6 hdf hsz hout
  simp only [tkd,Nat.reduceAdd]
  have c0:∀ z,Below y.heap.size y z→z.cell? ⟨A,0,none⟩=some (.string g.h):=fun z hz=>(hz.cell (p:=⟨A,0,none⟩) HA2.out).trans (HROW.out 0 _ rfl)
  have c1:∀ z,Below y.heap.size y z→z.cell? ⟨A,1,none⟩=some (.string g.b):=fun z hz=>(hz.cell (p:=⟨A,1,none⟩) HA2.out).trans (HROW.out 1 _ rfl)
  have c2:∀ z,Below y.heap.size y z→z.cell? ⟨A,2,none⟩=some (.string g.c):=fun z hz=>(hz.cell (p:=⟨A,2,none⟩) HA2.out).trans (HROW.out 2 _ rfl)
  have c3:∀ z,Below y.heap.size y z→z.cell? ⟨A,3,none⟩=some (.int .i64 g.t):=fun z hz=>(hz.cell (p:=⟨A,3,none⟩) HA2.out).trans (HROW.out 3 _ rfl)
  have c4:∀ z,Below y.heap.size y z→z.cell? ⟨A,4,none⟩=some (.int .i64 g.u):=fun z hz=>(hz.cell (p:=⟨A,4,none⟩) HA2.out).trans (HROW.out 4 _ rfl)
  have CA:Hid (∀ z,Below y.heap.size y z→z.cell? ⟨A,0,none⟩=some (.string g.h)∧z.cell? ⟨A,1,none⟩=some (.string g.b)∧z.cell? ⟨A,2,none⟩=some (.string g.c)∧z.cell? ⟨A,3,none⟩=some (.int .i64 g.t)∧z.cell? ⟨A,4,none⟩=some (.int .i64 g.u)):=fun z hz=>⟨c0 z hz,c1 z hz,c2 z hz,c3 z hz,c4 z hz⟩
  clear c0 c1 c2 c3 c4
  cases q
  ·
   go_wp2
   go_ret
   exact ⟨by rw [HM.out]; rfl,bl_trans B0.out HY.out⟩
  obtain ⟨k0,k1,k2,k3,k4⟩:=CA.out y bR
  go_wp2_with fail
  clear k0 k1 k2 k3 k4
  refine (IOv.out y HY.out).mono ?_
  rintro e y2 ⟨rfl,hb2⟩
  have HB2:=hidP hb2
  clear hb2
  cases hov:overG t g
  ·
   have p1:y2.cell? ⟨pb,1,none⟩=some (.string p.b):=KP.out y2 (bl_trans HY.out HB2.out) 1
   have p5:y2.cell? ⟨pb,5,none⟩=some (.string p.c):=KP.out y2 (bl_trans HY.out HB2.out) 5
   have p6:y2.cell? ⟨pb,6,none⟩=some (.int .i64 p.t):=KP.out y2 (bl_trans HY.out HB2.out) 6
   obtain ⟨k0,k1,k2,k3,k4⟩:=CA.out y2 HB2.out
   cases q1:(g.b.toList == p.b.toList)
   ·
    have HE:Hid (mayG t p gs=false):=by show _=_; rw [HM.out,hov]; unfold mineG eqT; rw [q1]; rfl
    go_wp2
    go_ret
    exact ⟨by rw [HE.out]; rfl,bl_trans B0.out (bl_trans HY.out HB2.out)⟩
   cases q2:(g.c.toList == p.c.toList)
   ·
    have HE:Hid (mayG t p gs=false):=by show _=_; rw [HM.out,hov]; unfold mineG eqT; rw [q1,q2]; rfl
    go_wp2
    go_ret
    exact ⟨by rw [HE.out]; rfl,bl_trans B0.out (bl_trans HY.out HB2.out)⟩
   have HE:Hid (mayG t p gs=decide (g.t≤p.t)):=by show _=_; rw [HM.out,hov]; unfold mineG eqT; rw [q1,q2]; rfl
   go_wp2
   go_ret
   exact ⟨by rw [HE.out]; rfl,bl_trans B0.out (bl_trans HY.out HB2.out)⟩
  have HE:Hid (mayG t p gs=true):=by show _=_; rw [HM.out,hov]; rfl
  go_wp2
  go_ret
  exact ⟨by rw [HE.out]; rfl,bl_trans B0.out (bl_trans HY.out HB2.out)⟩
 case step =>
  intro listed x y i hI hi hlt
  have ho:=ready_open hi
  have HLZ:=hidP hI.lz
  have HD:=hidP hI.d
  have HJ:=hidP hI
  have HI:=hidP hi
  have HO:=hidP ho
  obtain rfl | rfl | rfl | rfl | rfl | rfl | rfl | rfl | rfl | rfl | rfl | rfl | rfl:i=0∨i=1∨i=2∨i=3∨i=4∨i=5∨i=6∨i=7∨i=8∨i=9∨i=10∨i=11∨i=12:=by omega
  ·
   have e1:x.tmps[0]?.getD undef=.pointer (some ⟨d,0,none⟩):=ev_tmp (hI.out 0 (fun i hi=>slLk_far 0 (by omega) (by omega) i hi))
   clear hi hI ho
   refine op9 fun K hK=>?_
   go_simp
   exact HJ.out.pu hK HI.out (rfl) (fun j u _ _ _ _ h=>GLk.keep (setT_ne (by decide)) j u h) (HD.out)
  ·
   have e1:x.tmps[8]?.getD undef=_:=ev_tmp (hI.good 0 (by omega) (wO hi))
   clear hi hI ho
   refine op9 fun K hK=>?_
   go_simp
   exact HJ.out.pu hK HI.out (rfl) (fun j u _ _ _ _ h=>GLk.keep (setT_ne (by decide)) j u h) (HD.out)
  ·
   have e1:x.tmps[9]?.getD undef=_:=ev_tmp (hI.good 1 (by omega) (wO hi))
   clear hi hI ho
   refine op9 fun K hK=>?_
   go_simp
   exact HJ.out.pu hK HI.out (rfl) (fun j u _ _ _ _ h=>GLk.keep (setT_ne (by decide)) j u h) (HD.out)
  ·
   have e1:x.tmps[10]?.getD undef=_:=ev_tmp (hI.good 2 (by omega) (wO hi))
   have k1:y.cell? ⟨d,1,none⟩=some (.map (some m1)):=KD.out y hI.d
   clear hi hI ho
   refine op9 fun K hK=>?_
   go_simp
   exact HJ.out.pu hK HI.out (rfl) (fun j u _ _ _ _ h=>GLk.keep (setT_ne (by decide)) j u h) (HD.out)
  ·
   have e1:x.tmps[3]?.getD undef=.pointer (some ⟨pb,0,none⟩):=ev_tmp (hI.out 3 (fun i hi=>slLk_far 3 (by omega) (by omega) i hi))
   clear hi hI ho
   refine op9 fun K hK=>?_
   go_simp
   exact HJ.out.pu hK HI.out (rfl) (fun j u _ _ _ _ h=>GLk.keep (setT_ne (by decide)) j u h) (HD.out)
  ·
   have e1:x.tmps[12]?.getD undef=_:=ev_tmp (hI.good 4 (by omega) (wO hi))
   have k1:y.cell? ⟨pb,4,none⟩=some (.string p.h):=KP.out y hI.d 4
   clear hi hI ho
   refine op9 fun K hK=>?_
   go_simp
   exact HJ.out.pu hK HI.out (rfl) (fun j u _ _ _ _ h=>GLk.keep (setT_ne (by decide)) j u h) (HD.out)
  ·
   have e1:x.tmps[11]?.getD undef=_:=ev_tmp (hI.good 3 (by omega) (wO hi))
   have e2:x.tmps[13]?.getD undef=_:=ev_tmp (hI.good 5 (by omega) (wO hi))
   have k1:=LK.out y hI.d
   clear hi hI ho
   refine op9 fun K hK=>?_
   go_simp
   exact HJ.out.pu hK HI.out (rfl) (fun j u _ _ _ _ h=>GLk.keep (setT_ne (by decide)) j u h) (HD.out)
  ·
   have e1:x.tmps[14]?.getD undef=_:=ev_tmp (hI.good 6 (by omega) (wO hi))
   clear hi hI ho
   refine op9 fun K hK=>?_
   go_simp
   exact HJ.out.pu hK HI.out (rfl) (fun j u _ _ _ _ h=>GLk.keep (setT_ne (by decide)) j u h) (HD.out)
  ·
   have e1:x.tmps[7]?.getD undef=_:=ev_tmp (hI.good 7 (by omega) (wO hi))
   clear hi hI ho
   refine op9 fun K hK=>?_
   go_simp
   exact HJ.out.pu hK HI.out (rfl) (fun j u _ _ _ _ h=>GLk.keep (setT_ne (by decide)) j u h) (HD.out)
  ·
   have e1:x.tmps[7]?.getD undef=_:=ev_tmp (hI.good 7 (by omega) (wO hi))
   clear hi hI ho
   refine op9 fun K hK=>?_
   go_simp
   exact HJ.out.pu hK HI.out (rfl) (fun j u _ _ _ _ h=>GLk.keep (setT_ne (by decide)) j u h) (HD.out)
  ·
   have h11:listed.getD 11 false=false:=hI.shut ho (by rfl)
   clear hi hI ho
   refine op9 fun K hK=>?_
   go_simp
   have hbl:Below y.heap.size y (y.alloc (.cells #[.string ⟨#[]⟩,.string ⟨#[]⟩,.string ⟨#[]⟩,.int .i64 0,.int .i64 0] 40)):=bl_alloc bR _
   exact HJ.out.pu hK HI.out (⟨y.heap.size,rfl,HD.out.size,by simp,fun _=>there_newG y _ _ (by rfl),fun e=>by rw [setT_ne (by decide),h11] at e; cases e⟩) (fun j u _ _ hne _ h=>GLk.keepN j u hne h) (bl_trans HD.out hbl)
  ·
   have gf8:=hI.good 8 (by omega) (wO hi)
   have gf10:=hI.good 10 (by omega) (wO hi)
   have h11:listed.getD 11 false=false:=noT (fun h=>openT ho h)
   obtain ⟨A,hA,hZ,hA2,hth,-⟩:=gf10
   have hT:=hidP (hth h11)
   have hz9:11 < listed.size:=by rw [hI.lz]; omega
   clear hth
   clear hi hI ho
   refine op9 fun K hK=>?_
   refine wp_store_mid 40 _ _ rfl A 0 #[.string g.h,.string g.b,.string g.c,.int .i64 g.t,.int .i64 g.u] hA gf8 hT.out hinfoG (by simp [Value.oneCell']) ?_
   have hx:Ex A y (y.setCells A 0 [.string g.h,.string g.b,.string g.c,.int .i64 g.t,.int .i64 g.u]):=(Ex.refl _ _).cells _ _
   have hrg:(y.setCells A 0 [.string g.h,.string g.b,.string g.c,.int .i64 g.t,.int .i64 g.u]).rangeAt A 0 g.cells:=World.rangeAt_setCells_same y A 0 _ hT.out
   exact hK.out _ _ (HJ.out.nil HI.out (by omega) (fun _=>trivial) (fun j u hu hj hne hl h=>by
    by_cases e10:j=10
    ·
     subst e10
     exact ⟨A,hu.trans hA,hZ,Nat.lt_of_lt_of_le hA2 hx.size,(fun e=>by rw [setT_same hz9] at e; cases e),fun _=>hrg⟩
    exact GLk.keepN j u e10 h) (Ex.mono HD.out hx hZ) undef)
  have e1:x.tmps[16]?.getD undef=_:=ev_tmp (hI.good 9 (by omega) (wO hi))
  clear hi hI ho
  refine op9 fun K hK=>?_
  go_simp
  exact HJ.out.pu hK HI.out (rfl) (fun j u _ _ _ _ h=>GLk.keep (setT_ne (by decide)) j u h) (HD.out)
end Go.Proofs.YtcjhlhijdacinaaGreatDoor
