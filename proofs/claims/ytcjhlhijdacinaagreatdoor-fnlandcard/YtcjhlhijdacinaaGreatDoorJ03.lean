import Derived.Test.YtcjhlhijdacinaaGreatDoorJ02
import Derived.Deep.RegionHeld3
import Derived.Laws.Pointers
import Derived.StillTactics
import Derived.Test.YtcjhlhijdacinaaGreatDoorJ01
import Derived.Laws.EntriesVeiled
namespace Go.Proofs.YtcjhlhijdacinaaGreatDoor.Pr
open Go.RowKit Go.Maps Go.WideMaps
set_option linter.unusedVariables false
def KeysSay:Prop:=∀ (mb:Option Nat) (Wo:World),Calls Tryz.prog 80 #[.map mb] Wo fun e w'=>e=.returned (.func (.func 96) #[] #[.pointer (some ⟨Wo.heap.size,0,none⟩)])∧w'=Wo.alloc (.cells #[.map mb] 91)
def SortedSay:Prop:=∀ (b nn:Nat) (rs:List PlRaw) (w:World),w.ownsMap Tryz.prog 9 RV b nn (dec rs)→rs.length≤1048576 →
 Calls Tryz.prog 79 #[.func (.func 96) #[] #[.pointer (some ⟨w.heap.size,0,none⟩)]] (w.alloc (.cells #[.map (some b)] 91)) fun e w'=>∃ (v:Value) (ss:List (List UInt8)),e=.returned v∧ss.Perm (strKeys (dec rs)) ∧
  w'.ownsRow (w.alloc (.cells #[.map (some b)] 91)).heap.size 9 1 v ss.length ((ss.mergeSort (fun x y=>decide (x≤y))).map encStr)∧Below (w.alloc (.cells #[.map (some b)] 91)).heap.size (w.alloc (.cells #[.map (some b)] 91)) w'
theorem atV {w:World} (b n:Nat) (rs:List PlRaw) (hown:w.ownsMap Tryz.prog 9 RV b n (dec rs)) (hs:Srt rs) (r:PlRaw) (hr:r∈rs) (hz:r.b.size≤maxLen) :
  Sem.run Tryz.prog (Instr.lookup 91 (.map (some b)) (.string r.b) false) w=.ok (.agg #[.string r.b,.int .i64 r.s,.slice r.a r.n r.c]) w:=by
 obtain ⟨v,ps,hrun,hv⟩:=hown.lookup lawV (t:=91) (e:=54) Tryz.underlying91 (zeroV w) (zd:=.held ⟨⟨#[]⟩,0,none,0,0⟩) (zp:=[]) rfl (keyOf_string_mk Tryz.underlying9 hz)
 rw [show Lit.string r.b.data.toList=Lit.string (keyV r) from rfl,show (dec rs).atKey (Lit.string (keyV r)) (.held ⟨⟨#[]⟩,0,none,0,0⟩)=.held r from Ord.dec_at keyV hs hr _] at hv
 rw [RV_inv hv] at hrun
 exact hrun
theorem enc_key (r:PlRaw):encStr (keyV r)=Value.string r.b:=by
 show Value.string ⟨r.b.data.toList.toArray⟩=_
 rw [Array.toArray_toList]
theorem flat_snoc' {rs:List PlRaw} {k:Nat} {r:PlRaw} (hr:rs[k]?=some r):flatR (rs.take (k+1))=flatR (rs.take k)++r.cells:=by
 have hlt:k < rs.length:=(List.getElem?_eq_some_iff.1 hr).1
 have he:rs[k]=r:=by rw [List.getElem?_eq_getElem hlt] at hr; exact Option.some.inj hr
 rw [List.take_succ_eq_append_getElem hlt,he]
 simp [flatR]
set_option maxRecDepth 4000 in
set_option maxHeartbeats 2000000 in
theorem own_low {w:World} {v:Value} {m:Nat} {xs:List Value} {B B':Nat} (h:w.ownsRow B 54 3 v m xs) (hB:B'≤B):w.ownsRow B' 54 3 v m xs:=by
 obtain ⟨h1,h2 | ⟨g,cap,cur,h3,h4,h5⟩⟩:=h
 · exact ⟨h1,Or.inl h2⟩
 exact ⟨h1,Or.inr ⟨g,cap,cur,h3,Nat.le_trans hB h4,h5⟩⟩
set_option maxRecDepth 4000 in
set_option maxHeartbeats 2000000 in
theorem inOrderO (hK:KeysSay) (hS:SortedSay) (b nn:Nat) (rs:List PlRaw) (w:World) (hown:w.ownsMap Tryz.prog 9 RV b nn (dec rs)) (hs:Srt rs) (hfit:∀ r∈rs,r.b.size≤maxLen) (hl:rs.length≤1048576) :
  Calls Tryz.prog 53 #[.map (some b)] w fun e w'=>(∃ v,e=.returned v∧w'.ownsRow w.heap.size 54 3 v rs.length (flatR rs))∧Below w.heap.size w w':=by
 have HO:=hidP hown
 have HS:=hidP hs
 have cK:=hidP hK
 have cS:=hidP hS
 have HF:=hidP hfit
 clear hown hs hK hS hfit
 obtain ⟨i0,hi,hz0,hz1,hz2⟩:=info_parts infoR
 go_enter Tryz.func53,Tryz.ntmps53
 go_wp2_with fail
 refine (cK.out _ _).mono ?_
 rintro e w' ⟨rfl,rfl⟩
 go_wp2_with fail
 refine (cS.out b nn rs _ HO.out hl).mono ?_
 rintro e w1 ⟨v,ss,rfl,hp,hrow,hb⟩
 have hlen:ss.length=rs.length:=by rw [hp.length_eq,show strKeys (dec rs)=rs.map keyV from Ord.keys_dec keyV rs,List.length_map]
 rw [Ord.sorted_keys keyV HS.out hp,hlen] at hrow
 have B1:Hid (Below w.heap.size w w1):=bl_trans (bl_alloc bR _) hb
 have O1:=hidP (mapv_below HO.out B1.out)
 obtain ⟨a,c,rfl⟩:=str_shape hrow
 have Hrow:Hid (StrAt w1 a (rs.map (fun r=>r.b))):=str_at (by rw [List.length_map,List.map_map]; rw [List.map_map,show (encStr ∘ keyV)=((fun x=>Value.string x) ∘ fun r:PlRaw=>r.b) from funext enc_key] at hrow; exact hrow)
 clear hrow hp hb hlen
 go_wp2_with fail
 go_loopw [3,10] (fun v i wx=>∃ (k:Nat),k≤rs.length∧i=.int .i64 k∧wx.ownsRow w1.heap.size 54 3 v k (flatR (rs.take k))∧Hid (Below w1.heap.size w1 wx)) (fun _ i _=>rs.length - (intOf i).toNat)
 case atStart=>exact ⟨0,Nat.zero_le _,rfl,World.ownsRow_nil _ _ _ _,Below.refl _ _⟩
 case round =>
  obtain ⟨k,hk,rfl,hown,HB⟩:=hrel
  by_cases hlt:k < rs.length
  ·
   obtain ⟨r,hr⟩:∃ r,rs[k]?=some r:=⟨rs[k],List.getElem?_eq_getElem hlt⟩
   have Hr:=hidP hr
   obtain ⟨g,rfl,hg,hc⟩:=(Hrow.out.keep HB.out).resolve_left (fun h=>by rw [List.map_eq_nil_iff] at h; rw [h] at hlt; simp at hlt)
   have c0:=hc k r.b (by rw [List.getElem?_map,hr]; rfl)
   have hlk:=atV b nn rs (mapv_below O1.out HB.out) HS.out r (List.mem_of_getElem? hr) (HF.out r (List.mem_of_getElem? hr))
   obtain ⟨xs,hxs⟩:∃ xs,xs=flatR (rs.take k):=⟨_,rfl⟩
   rw [← hxs] at hown
   have Ho:=hidP hown
   have Hx:=hidP hxs
   have hzw:=HB.out.size
   have i1:(k:Int) < (rs.length:Int):=by omega
   clear hr hown hxs hc
   go_wp2_with (at_builtin; refine wpList_append_own _ rfl _ _ 24 rfl w1.heap.size 54 i0 _ 3 48 Tryz.underlying24 hi hz0 hz1 hz2 rfl (by decide) _ k _ rfl (by exact owns_below Ho.out (by repeat (first | exact Below.refl _ _ | refine bl_alloc ?_ _))) ⟨_,0,none⟩ 1 1 r.cells rfl rfl (new_cells _ _ (by simp) _ _ _ rfl) (cellsR_one _) (by unfold maxLen; omega) (by omega) (by simp; omega) ?_; intro v' w2 ho2 hg2 hn2)
   refine ⟨⟨k+1,by omega,by go_num, ?_,Below.grown (by repeat (first | exact HB.out | refine bl_alloc ?_ _)) hg2 (by simp; omega) (owns_ge Ho.out)⟩,by simp [intOf]; omega⟩
   rw [flat_snoc' Hr.out,← Hx.out]
   exact ho2
  go_wp2
  go_ret
  have hk':k=rs.length:=by omega
  subst hk'
  rw [List.take_of_length_le (Nat.le_refl _)] at hown
  exact ⟨⟨_,rfl,own_low hown B1.out.size⟩,bl_trans B1.out HB.out⟩
end Go.Proofs.YtcjhlhijdacinaaGreatDoor.Pr
namespace Go.Proofs.YtcjhlhijdacinaaGreatDoor.P
open Go.RowKit
set_option linter.unusedVariables false
set_option maxRecDepth 4000 in
set_option maxHeartbeats 1000000 in
theorem allOk (P:PlaceD→Bool) (b off cap:Nat) (rs:List PlaceD) (w:World) (hR:RowsAt w b off rs) (l1:b < w.heap.size) (hl:rs.length≤1048576)
  (hF:∀ r∈rs,∀ x,Below w.heap.size w x→Calls Tryz.prog 64 #[.agg #[.string r.b,.int .i64 r.s,.slice r.a r.ws.length r.c]] x fun e x'=>e=.returned (.bool (P r))∧Below x.heap.size x x') :
  Calls Tryz.prog 63 #[.slice (some ⟨b,off,none⟩) rs.length cap,.func (.func 64) #[] #[]] w fun e w'=>(∃ q:Bool,e=.returned (.bool q)∧(q=true↔∀ r∈rs,P r=true))∧Below w.heap.size w w':=by
 have HF:=hidP hF
 clear hF
 go_enter Tryz.func63,Tryz.ntmps63
 go_wp2
 go_loopw [9] (fun i wx=>∃ (k:Nat),k≤rs.length∧i=.int .i64 k∧Hid (∀ j r,j < k→rs[j]?=some r→P r=true)∧Below w.heap.size w wx) (fun i _=>rs.length - (intOf i).toNat)
 case atStart=>exact ⟨0,Nat.zero_le _,rfl,fun j r h=>by omega,Below.refl _ _⟩
 case round =>
  obtain ⟨k,hk,rfl,Ha,hB⟩:=hrel
  by_cases hlt:k < rs.length
  ·
   obtain ⟨r,hr⟩:∃ r,rs[k]?=some r:=⟨rs[k],List.getElem?_eq_getElem hlt⟩
   have Hr:=hidP hr
   clear hr
   obtain ⟨c0,c1,c2⟩:=(hR.keep l1 hB).at Hr.out
   go_wp2_with fail
   refine (HF.out r (List.mem_of_getElem? Hr.out) _ (bl_alloc hB _)).mono ?_
   rintro e w1 ⟨rfl,hb⟩
   have hB1:=bl_trans (bl_alloc hB _) hb
   have Hb1:=hidP hB1
   clear hB hb hB1
   cases hP:P r
   ·
    go_wp2
    go_ret
    exact ⟨⟨false,rfl,⟨fun h=>(by cases h),fun h=>by have:=h r (List.mem_of_getElem? Hr.out); rw [hP] at this; cases this⟩⟩,Hb1.out⟩
   go_wp2
   exact ⟨⟨k+1,by omega,by go_num,(fun j q hj hq=>by
    by_cases e:j=k
    · subst e; have hh:=Hr.out; rw [hh] at hq; cases hq; exact hP
    exact Ha.out j q (by omega) hq),Hb1.out⟩,by simp [intOf]; omega⟩
  go_wp2
  go_ret
  exact ⟨⟨true,rfl,⟨fun _ r hr=>by
   obtain ⟨j,hj⟩:=List.getElem?_of_mem hr
   have hjl:j < rs.length:=(List.getElem?_eq_some_iff.1 hj).1
   exact Ha.out j r (by omega) hj,fun _=>rfl⟩⟩,hB⟩
theorem name_any (r:PlaceD) (w:World) :
  Calls Tryz.prog 62 #[.agg #[.string r.b,.int .i64 r.s,.slice r.a r.ws.length r.c]] w fun e w'=>e=.returned (.string r.b)∧Below w.heap.size w w':=by
 go_enter Tryz.func62,Tryz.ntmps62
 go_wp2
 go_ret
 exact ⟨rfl,by repeat (first | exact Below.refl _ _ | refine bl_alloc ?_ _)⟩
def AscN (rs:List PlaceD) (n:Nat):Prop:=∀ j q r,j+1 < n→rs[j]?=some q→rs[j+1]?=some r→Op.bytesLess q.b.toList r.b.toList=true
theorem AscN.step {rs:List PlaceD} {k:Nat} {q r:PlaceD} (h:AscN rs (k+1)) (hq:rs[k]?=some q) (hr:rs[k+1]?=some r) (hs:Op.bytesLess q.b.toList r.b.toList=true):AscN rs (k+1+1):=by
 intro j q' r' hj hq' hr'
 by_cases e:j=k
 · subst e; rw [hq] at hq'; rw [hr] at hr'; cases hq'; cases hr'; exact hs
 exact h j q' r' (by omega) hq' hr'
theorem keepAsc {x w':World} {b off m:Nat} {rs:List PlaceD} {r q:PlaceD} (hk:rs[m+1]?=some r) (hq:rs[m]?=some q) (h1:RowsAt x b off rs) (l1:b < x.heap.size) (hb:Below x.heap.size x w') :
  Below x.heap.size x w'∧(w'.cell? ⟨b,off+(m+1) * 3,none⟩=some (.string r.b)∧w'.cell? ⟨b,off+(m+1) * 3+1,none⟩=some (.int .i64 r.s)∧w'.cell? ⟨b,off+(m+1) * 3+2,none⟩=some (.slice r.a r.ws.length r.c))∧(w'.cell? ⟨b,off+m * 3,none⟩=some (.string q.b)∧w'.cell? ⟨b,off+m * 3+1,none⟩=some (.int .i64 q.s)∧w'.cell? ⟨b,off+m * 3+2,none⟩=some (.slice q.a q.ws.length q.c)):=⟨hb,(h1.keep l1 hb).at hk,(h1.keep l1 hb).at hq⟩
set_option maxRecDepth 4000 in
set_option maxHeartbeats 2000000 in
theorem ascends (b off cap:Nat) (rs:List PlaceD) (w:World) (hR:RowsAt w b off rs) (l1:b < w.heap.size) (hl:rs.length≤1048576) :
  Calls Tryz.prog 61 #[.slice (some ⟨b,off,none⟩) rs.length cap,.func (.func 62) #[] #[]] w fun e w'=>(∃ q:Bool,e=.returned (.bool q)∧(q=true↔AscN rs rs.length))∧Below w.heap.size w w':=by
 go_enter Tryz.func61,Tryz.ntmps61
 go_wp2
 go_loopw [5] (fun i wx=>∃ (m:Nat),m≤rs.length∧i=.int .i64 ((m:Int)+1)∧Hid (AscN rs (m+1))∧Below w.heap.size w wx) (fun i _=>rs.length+1 - (intOf i).toNat)
 case atStart=>exact ⟨0,Nat.zero_le _,rfl,(fun j q r hj _ _=>by omega),Below.refl _ _⟩
 case round =>
  obtain ⟨m,hk,rfl,Ha,hB⟩:=hrel
  by_cases hlt:m+1 < rs.length
  ·
   obtain ⟨r,hr⟩:∃ r,rs[m+1]?=some r:=⟨rs[m+1],List.getElem?_eq_getElem hlt⟩
   obtain ⟨q,hq⟩:∃ q,rs[m]?=some q:=⟨rs[m],List.getElem?_eq_getElem (by omega)⟩
   have Hr:=hidP hr
   have Hq:=hidP hq
   clear hr hq
   have g1:=hR.keep l1 hB
   have z1:b < wr.heap.size:=Nat.lt_of_lt_of_le l1 hB.size
   have i0:(0:Int)≤(m:Int):=by omega
   have i1:(m:Int)+1 < (rs.length:Int):=by omega
   have i2:(m:Int) < (rs.length:Int):=by omega
   have i3:(0:Int)≤(m:Int)+1:=by omega
   have iw:IntKind.i64.wrap (m:Int)=(m:Int):=by rw [IntKind.wrap_i64]; omega
   cases hasc:Op.bytesLess q.b.toList r.b.toList
   ·
    go_wp2_with fail
    go_region_held3 (fun w'=>Below wr.heap.size wr w'∧(w'.cell? ⟨b,off+(m+1) * 3,none⟩=some (.string r.b)∧w'.cell? ⟨b,off+(m+1) * 3+1,none⟩=some (.int .i64 r.s)∧w'.cell? ⟨b,off+(m+1) * 3+2,none⟩=some (.slice r.a r.ws.length r.c))∧(w'.cell? ⟨b,off+m * 3,none⟩=some (.string q.b)∧w'.cell? ⟨b,off+m * 3+1,none⟩=some (.int .i64 q.s)∧w'.cell? ⟨b,off+m * 3+2,none⟩=some (.slice q.a q.ws.length q.c)))
     (first | exact keepAsc Hr.out Hq.out g1 z1 bD | exact keepAsc Hr.out Hq.out g1 z1 (bl_trans bD hx) | exact keepAsc Hr.out Hq.out g1 z1 (bl_trans (bl_trans bD hx) hy))
     (first | (go_at_call 62; refine (name_any q _).mono ?_; rintro e w' ⟨rfl,hx⟩) | (go_at_call 62; refine (name_any r _).mono ?_; rintro e w'' ⟨rfl,hy⟩))
    have y1:=bl_trans (bl_trans (bl_drew (Below.refl _ wr)) hx) hy
    have Hb1:=hidP (bl_trans hB y1)
    clear hx hy y1 hB g1
    go_wp2
    go_ret
    exact ⟨⟨false,rfl,⟨fun h=>(by cases h),fun h=>by have:=h m q r (by omega) Hq.out Hr.out; rw [hasc] at this; cases this⟩⟩,Hb1.out⟩
   go_wp2_with fail
   go_region_held3 (fun w'=>Below wr.heap.size wr w'∧(w'.cell? ⟨b,off+(m+1) * 3,none⟩=some (.string r.b)∧w'.cell? ⟨b,off+(m+1) * 3+1,none⟩=some (.int .i64 r.s)∧w'.cell? ⟨b,off+(m+1) * 3+2,none⟩=some (.slice r.a r.ws.length r.c))∧(w'.cell? ⟨b,off+m * 3,none⟩=some (.string q.b)∧w'.cell? ⟨b,off+m * 3+1,none⟩=some (.int .i64 q.s)∧w'.cell? ⟨b,off+m * 3+2,none⟩=some (.slice q.a q.ws.length q.c)))
    (first | exact keepAsc Hr.out Hq.out g1 z1 bD | exact keepAsc Hr.out Hq.out g1 z1 (bl_trans bD hx) | exact keepAsc Hr.out Hq.out g1 z1 (bl_trans (bl_trans bD hx) hy))
    (first | (go_at_call 62; refine (name_any q _).mono ?_; rintro e w' ⟨rfl,hx⟩) | (go_at_call 62; refine (name_any r _).mono ?_; rintro e w'' ⟨rfl,hy⟩))
   have y1:=bl_trans (bl_trans (bl_drew (Below.refl _ wr)) hx) hy
   have Hb1:=hidP (bl_trans hB y1)
   clear hx hy y1 hB g1
   go_wp2
   exact ⟨⟨m+1,by omega,by go_num,Ha.out.step Hq.out Hr.out hasc,Hb1.out⟩,by simp [intOf]; omega⟩
  go_wp2
  go_ret
  exact ⟨⟨true,rfl,⟨fun _ j q r hj hq hr=>Ha.out j q r (by omega) hq hr,fun _=>rfl⟩⟩,hB⟩
end Go.Proofs.YtcjhlhijdacinaaGreatDoor.P
namespace Go.Proofs.YtcjhlhijdacinaaGreatDoor
open Go.RowKit
set_option linter.unusedVariables false
def inB (n low high:Int):Bool:=decide (low≤n) && decide (n≤high)
def okc (c:UInt8):Bool:=decide (33≤(c.toNat:Int)) && decide ((c.toNat:Int)≤126)
def nameB (s:ByteArray):Bool:=inB s.size 1 20 && s.data.toList.all okc
theorem specIn_any (n low high:Int) (w:World):Calls Tryz.prog 27 #[.int .i64 n,.int .i64 low,.int .i64 high] w fun e w'=>e=.returned (.bool (inB n low high))∧w'=w:=by
 unfold inB
 by_cases h1:low≤n
 ·
  rw [decide_eq_true h1,Bool.true_and]
  go_enter Tryz.func27,Tryz.ntmps27
  go_wp2
  go_ret
  exact ⟨rfl,rfl⟩
 rw [decide_eq_false h1,Bool.false_and]
 go_enter Tryz.func27,Tryz.ntmps27
 go_wp2
 go_ret
 exact ⟨rfl,rfl⟩
theorem within_any (n low high:Int) (w:World):Calls Tryz.prog 55 #[.int .i64 n,.int .i64 low,.int .i64 high] w fun e w'=>e=.returned (.bool (inB n low high))∧w'=w:=by
 unfold inB
 by_cases h1:low≤n
 ·
  rw [decide_eq_true h1,Bool.true_and]
  go_enter Tryz.func55,Tryz.ntmps55
  go_wp2
  go_ret
  exact ⟨rfl,rfl⟩
 rw [decide_eq_false h1,Bool.false_and]
 go_enter Tryz.func55,Tryz.ntmps55
 go_wp2
 go_ret
 exact ⟨rfl,rfl⟩
theorem ret_b {a b:Bool} (h:a=b):Ending.returned (.bool a)=.returned (.bool b):=by rw [h]
theorem take_snoc (s:ByteArray) (k:Nat) (h:k < s.size):s.data.toList.take (k+1)=s.data.toList.take k++[s[k]]:=by
 rw [List.take_succ_eq_append_getElem (by simpa using h)]; rfl
theorem all_snoc (s:ByteArray) (k:Nat) (h:k < s.size) (ha:(s.data.toList.take k).all okc=true) (hc:okc s[k]=true):(s.data.toList.take (k+1)).all okc=true:=by
 rw [take_snoc s k h,List.all_append,ha]; simp [hc]
theorem all_bad (s:ByteArray) (k:Nat) (h:k < s.size) (hc:okc s[k]=false):s.data.toList.all okc=false:=by
 rw [List.all_eq_false]
 exact ⟨s.data.toList[k]'(by simpa using h),List.getElem_mem _,by show ¬ okc s[k]=true; simp [hc]⟩
theorem all_end (s:ByteArray) (k:Nat) (h:s.size≤k) (ha:(s.data.toList.take k).all okc=true):s.data.toList.all okc=true:=by
 rwa [List.take_of_length_le (by simpa using h)] at ha
set_option maxHeartbeats 400000 in
theorem specName_any (s:ByteArray) (w:World) (hs:s.size≤maxLen) :
  Calls Tryz.prog 25 #[.string s] w fun e w'=>e=.returned (.bool (nameB s))∧w'=w:=by
 unfold maxLen at hs
 cases hin:inB s.size 1 20
 ·
  rw [show nameB s=false from by simp [nameB,hin]]
  go_enter Tryz.func25,Tryz.ntmps25
  go_wp2_with (go_at_call 27; refine (specIn_any _ _ _ _).mono ?_; rintro e w' ⟨rfl,rfl⟩)
  go_ret
  exact ⟨rfl,rfl⟩
 ·
  have hl:s.size≤20:=by simp [inB] at hin; omega
  have Hn:Hid (nameB s=s.data.toList.all okc):=by show nameB s=_; simp [nameB,hin]
  go_enter Tryz.func25,Tryz.ntmps25
  go_wp2_with (go_at_call 27; refine (specIn_any _ _ _ _).mono ?_; rintro e w' ⟨rfl,rfl⟩)
  go_loop [3] (fun i=>∃ k:Nat,k≤s.size∧i=.int .i64 k∧(s.data.toList.take k).all okc=true) (fun i=>s.size - (intOf i).toNat)
  case atStart=>exact ⟨0,Nat.zero_le _,rfl,rfl⟩
  obtain ⟨k,hk,rfl,hall⟩:=hrel
  have Ha:=hidP hall
  clear hall
  by_cases hlt:k < s.size
  ·
   by_cases b1:(s[k].toNat:Int) < 33
   ·
    go_wp2
    go_ret
    exact ⟨ret_b (by rw [Hn.out,all_bad s k hlt (by simp [okc]; omega)]),rfl⟩
   by_cases b2:126 < (s[k].toNat:Int)
   ·
    go_wp2
    go_ret
    exact ⟨ret_b (by rw [Hn.out,all_bad s k hlt (by simp [okc]; omega)]),rfl⟩
   have Hc:Hid (okc s[k]=true):=by show okc s[k]=true; simp [okc]; omega
   go_wp2
   exact ⟨⟨k+1,by omega,by go_num,all_snoc s k hlt Ha.out Hc.out⟩,by simp [intOf]; omega⟩
  go_wp2
  go_ret
  exact ⟨ret_b (by rw [Hn.out,all_end s k (by omega) Ha.out]),rfl⟩
set_option maxHeartbeats 400000 in
theorem implName_any (s:ByteArray) (w:World) (hs:s.size≤maxLen) :
  Calls Tryz.prog 68 #[.string s] w fun e w'=>e=.returned (.bool (nameB s))∧w'=w:=by
 unfold maxLen at hs
 cases hin:inB s.size 1 20
 ·
  rw [show nameB s=false from by simp [nameB,hin]]
  go_enter Tryz.func68,Tryz.ntmps68
  go_wp2_with (go_at_call 55; refine (within_any _ _ _ _).mono ?_; rintro e w' ⟨rfl,rfl⟩)
  go_ret
  exact ⟨rfl,rfl⟩
 ·
  have hl:s.size≤20:=by simp [inB] at hin; omega
  have Hn:Hid (nameB s=s.data.toList.all okc):=by show nameB s=_; simp [nameB,hin]
  go_enter Tryz.func68,Tryz.ntmps68
  go_wp2_with (go_at_call 55; refine (within_any _ _ _ _).mono ?_; rintro e w' ⟨rfl,rfl⟩)
  go_loop [10] (fun i=>∃ k:Nat,k≤s.size∧i=.int .i64 k∧(s.data.toList.take k).all okc=true) (fun i=>s.size - (intOf i).toNat)
  case atStart=>exact ⟨0,Nat.zero_le _,rfl,rfl⟩
  obtain ⟨k,hk,rfl,hall⟩:=hrel
  have Ha:=hidP hall
  clear hall
  by_cases hlt:k < s.size
  ·
   by_cases b1:(s[k].toNat:Int) < 33
   ·
    go_wp2
    go_ret
    exact ⟨ret_b (by rw [Hn.out,all_bad s k hlt (by simp [okc]; omega)]),rfl⟩
   by_cases b2:126 < (s[k].toNat:Int)
   ·
    go_wp2
    go_ret
    exact ⟨ret_b (by rw [Hn.out,all_bad s k hlt (by simp [okc]; omega)]),rfl⟩
   have Hc:Hid (okc s[k]=true):=by show okc s[k]=true; simp [okc]; omega
   go_wp2
   exact ⟨⟨k+1,by omega,by go_num,all_snoc s k hlt Ha.out Hc.out⟩,by simp [intOf]; omega⟩
  go_wp2
  go_ret
  exact ⟨ret_b (by rw [Hn.out,all_end s k (by omega) Ha.out]),rfl⟩
def holdB (s:ByteArray):Bool:=nameB s && !(s.toList == [42])
theorem specHold_any (s:ByteArray) (w:World) (hs:s.size≤maxLen) :
  Calls Tryz.prog 26 #[.string s] w fun e w'=>e=.returned (.bool (holdB s))∧w'=w:=by
 unfold holdB
 cases hn:nameB s
 ·
  go_enter Tryz.func26,Tryz.ntmps26
  go_wp2_with (go_at_call 25; refine (specName_any s _ hs).mono ?_; rintro e w' ⟨rfl,rfl⟩)
  go_ret
  exact ⟨rfl,rfl⟩
 ·
  go_enter Tryz.func26,Tryz.ntmps26
  go_wp2_with (go_at_call 25; refine (specName_any s _ hs).mono ?_; rintro e w' ⟨rfl,rfl⟩)
  go_ret
  exact ⟨rfl,rfl⟩
theorem implHold_any (s:ByteArray) (w:World) (hs:s.size≤maxLen) :
  Calls Tryz.prog 75 #[.string s] w fun e w'=>e=.returned (.bool (holdB s))∧w'=w:=by
 unfold holdB
 cases hn:nameB s
 ·
  go_enter Tryz.func75,Tryz.ntmps75
  go_wp2_with (go_at_call 68; refine (implName_any s _ hs).mono ?_; rintro e w' ⟨rfl,rfl⟩)
  go_ret
  exact ⟨rfl,rfl⟩
 ·
  go_enter Tryz.func75,Tryz.ntmps75
  go_wp2_with (go_at_call 68; refine (implName_any s _ hs).mono ?_; rintro e w' ⟨rfl,rfl⟩)
  go_ret
  exact ⟨rfl,rfl⟩
def ticksB (p s d g:Int):Bool:=inB p 0 100 && (inB s 0 100 && (inB d 0 100 && inB g 0 100))
def wantB (c h:ByteArray) (v p s d g:Int):Bool:=nameB c && (inB v 1 1000000 && ((h.toList.isEmpty || holdB h) && ticksB p s d g))
set_option maxHeartbeats 1000000 in
theorem specWant_any (c h:ByteArray) (v p s d g:Int) (w:World) (hc:c.size≤maxLen) (hh:h.size≤maxLen) :
  Calls Tryz.prog 71 #[.agg #[.string c,.int .i64 v,.string h,.int .i64 p,.int .i64 s,.int .i64 d,.int .i64 g]] w fun e w'=>e=.returned (.bool (wantB c h v p s d g))∧w'=w.alloc (.cells #[.string c,.int .i64 v,.string h,.int .i64 p,.int .i64 s,.int .i64 d,.int .i64 g] 56):=by
 cases h0:nameB c
 ·
  go_enter Tryz.func71,Tryz.ntmps71
  go_wp2_with (first | (go_at_call 25; refine (specName_any c _ hc).mono ?_; rintro e w' ⟨rfl,rfl⟩) | (go_at_call 26; refine (specHold_any h _ hh).mono ?_; rintro e w' ⟨rfl,rfl⟩) | (go_at_call 27; refine (specIn_any _ _ _ _).mono ?_; rintro e w' ⟨rfl,rfl⟩))
  go_ret
  exact ⟨ret_b (by simp [wantB,ticksB, *]),rfl⟩
 ·
  skip
  cases h1:inB v 1 1000000
  ·
   go_enter Tryz.func71,Tryz.ntmps71
   go_wp2_with (first | (go_at_call 25; refine (specName_any c _ hc).mono ?_; rintro e w' ⟨rfl,rfl⟩) | (go_at_call 26; refine (specHold_any h _ hh).mono ?_; rintro e w' ⟨rfl,rfl⟩) | (go_at_call 27; refine (specIn_any _ _ _ _).mono ?_; rintro e w' ⟨rfl,rfl⟩))
   go_ret
   exact ⟨ret_b (by simp [wantB,ticksB, *]),rfl⟩
  skip
  have he:(h.toList.isEmpty || holdB h)=false∨(h.toList.isEmpty=true)∨(h.toList.isEmpty=false∧holdB h=true):=by cases h.toList.isEmpty <;> cases holdB h <;> simp
  rcases he with he | he | he
  ·
   obtain ⟨e1,e2⟩:h.toList.isEmpty=false∧holdB h=false:=by simpa using he
   clear he
   go_enter Tryz.func71,Tryz.ntmps71
   go_wp2_with (first | (go_at_call 25; refine (specName_any c _ hc).mono ?_; rintro e w' ⟨rfl,rfl⟩) | (go_at_call 26; refine (specHold_any h _ hh).mono ?_; rintro e w' ⟨rfl,rfl⟩) | (go_at_call 27; refine (specIn_any _ _ _ _).mono ?_; rintro e w' ⟨rfl,rfl⟩))
   go_ret
   exact ⟨ret_b (by simp [wantB,ticksB, *]),rfl⟩
  ·
   skip
   cases q0:inB p 0 100
   ·
    go_enter Tryz.func71,Tryz.ntmps71
    go_wp2_with (first | (go_at_call 25; refine (specName_any c _ hc).mono ?_; rintro e w' ⟨rfl,rfl⟩) | (go_at_call 26; refine (specHold_any h _ hh).mono ?_; rintro e w' ⟨rfl,rfl⟩) | (go_at_call 27; refine (specIn_any _ _ _ _).mono ?_; rintro e w' ⟨rfl,rfl⟩))
    go_ret
    exact ⟨ret_b (by simp [wantB,ticksB, *]),rfl⟩
   skip
   cases q1:inB s 0 100
   ·
    go_enter Tryz.func71,Tryz.ntmps71
    go_wp2_with (first | (go_at_call 25; refine (specName_any c _ hc).mono ?_; rintro e w' ⟨rfl,rfl⟩) | (go_at_call 26; refine (specHold_any h _ hh).mono ?_; rintro e w' ⟨rfl,rfl⟩) | (go_at_call 27; refine (specIn_any _ _ _ _).mono ?_; rintro e w' ⟨rfl,rfl⟩))
    go_ret
    exact ⟨ret_b (by simp [wantB,ticksB, *]),rfl⟩
   skip
   cases q2:inB d 0 100
   ·
    go_enter Tryz.func71,Tryz.ntmps71
    go_wp2_with (first | (go_at_call 25; refine (specName_any c _ hc).mono ?_; rintro e w' ⟨rfl,rfl⟩) | (go_at_call 26; refine (specHold_any h _ hh).mono ?_; rintro e w' ⟨rfl,rfl⟩) | (go_at_call 27; refine (specIn_any _ _ _ _).mono ?_; rintro e w' ⟨rfl,rfl⟩))
    go_ret
    exact ⟨ret_b (by simp [wantB,ticksB, *]),rfl⟩
   skip
   cases q3:inB g 0 100
   ·
    go_enter Tryz.func71,Tryz.ntmps71
    go_wp2_with (first | (go_at_call 25; refine (specName_any c _ hc).mono ?_; rintro e w' ⟨rfl,rfl⟩) | (go_at_call 26; refine (specHold_any h _ hh).mono ?_; rintro e w' ⟨rfl,rfl⟩) | (go_at_call 27; refine (specIn_any _ _ _ _).mono ?_; rintro e w' ⟨rfl,rfl⟩))
    go_ret
    exact ⟨ret_b (by simp [wantB,ticksB, *]),rfl⟩
   go_enter Tryz.func71,Tryz.ntmps71
   go_wp2_with (first | (go_at_call 25; refine (specName_any c _ hc).mono ?_; rintro e w' ⟨rfl,rfl⟩) | (go_at_call 26; refine (specHold_any h _ hh).mono ?_; rintro e w' ⟨rfl,rfl⟩) | (go_at_call 27; refine (specIn_any _ _ _ _).mono ?_; rintro e w' ⟨rfl,rfl⟩))
   go_ret
   exact ⟨ret_b (by simp [wantB,ticksB, *]),rfl⟩
  obtain ⟨e1,e2⟩:=he
  cases q0:inB p 0 100
  ·
   go_enter Tryz.func71,Tryz.ntmps71
   go_wp2_with (first | (go_at_call 25; refine (specName_any c _ hc).mono ?_; rintro e w' ⟨rfl,rfl⟩) | (go_at_call 26; refine (specHold_any h _ hh).mono ?_; rintro e w' ⟨rfl,rfl⟩) | (go_at_call 27; refine (specIn_any _ _ _ _).mono ?_; rintro e w' ⟨rfl,rfl⟩))
   go_ret
   exact ⟨ret_b (by simp [wantB,ticksB, *]),rfl⟩
  skip
  cases q1:inB s 0 100
  ·
   go_enter Tryz.func71,Tryz.ntmps71
   go_wp2_with (first | (go_at_call 25; refine (specName_any c _ hc).mono ?_; rintro e w' ⟨rfl,rfl⟩) | (go_at_call 26; refine (specHold_any h _ hh).mono ?_; rintro e w' ⟨rfl,rfl⟩) | (go_at_call 27; refine (specIn_any _ _ _ _).mono ?_; rintro e w' ⟨rfl,rfl⟩))
   go_ret
   exact ⟨ret_b (by simp [wantB,ticksB, *]),rfl⟩
  skip
  cases q2:inB d 0 100
  ·
   go_enter Tryz.func71,Tryz.ntmps71
   go_wp2_with (first | (go_at_call 25; refine (specName_any c _ hc).mono ?_; rintro e w' ⟨rfl,rfl⟩) | (go_at_call 26; refine (specHold_any h _ hh).mono ?_; rintro e w' ⟨rfl,rfl⟩) | (go_at_call 27; refine (specIn_any _ _ _ _).mono ?_; rintro e w' ⟨rfl,rfl⟩))
   go_ret
   exact ⟨ret_b (by simp [wantB,ticksB, *]),rfl⟩
  skip
  cases q3:inB g 0 100
  ·
   go_enter Tryz.func71,Tryz.ntmps71
   go_wp2_with (first | (go_at_call 25; refine (specName_any c _ hc).mono ?_; rintro e w' ⟨rfl,rfl⟩) | (go_at_call 26; refine (specHold_any h _ hh).mono ?_; rintro e w' ⟨rfl,rfl⟩) | (go_at_call 27; refine (specIn_any _ _ _ _).mono ?_; rintro e w' ⟨rfl,rfl⟩))
   go_ret
   exact ⟨ret_b (by simp [wantB,ticksB, *]),rfl⟩
  go_enter Tryz.func71,Tryz.ntmps71
  go_wp2_with (first | (go_at_call 25; refine (specName_any c _ hc).mono ?_; rintro e w' ⟨rfl,rfl⟩) | (go_at_call 26; refine (specHold_any h _ hh).mono ?_; rintro e w' ⟨rfl,rfl⟩) | (go_at_call 27; refine (specIn_any _ _ _ _).mono ?_; rintro e w' ⟨rfl,rfl⟩))
  go_ret
  exact ⟨ret_b (by simp [wantB,ticksB, *]),rfl⟩
theorem copyOk_any (c h:ByteArray) (v p s d g:Int) (w:World) (hc:c.size≤maxLen) (hh:h.size≤maxLen) :
  Calls Tryz.prog 107 #[.agg #[.string c,.int .i64 v,.string h,.int .i64 p,.int .i64 s,.int .i64 d,.int .i64 g]] w fun e w'=>e=.returned (.bool (nameB c))∧w'=w.alloc (.cells #[.string c,.int .i64 v,.string h,.int .i64 p,.int .i64 s,.int .i64 d,.int .i64 g] 56):=by
 go_enter Tryz.func107,Tryz.ntmps107
 go_wp2_with (go_at_call 68; refine (implName_any c _ hc).mono ?_; rintro e w' ⟨rfl,rfl⟩)
 go_ret
 exact ⟨rfl,rfl⟩
theorem versionOk_any (c h:ByteArray) (v p s d g:Int) (w:World) (hc:c.size≤maxLen) (hh:h.size≤maxLen) :
  Calls Tryz.prog 108 #[.agg #[.string c,.int .i64 v,.string h,.int .i64 p,.int .i64 s,.int .i64 d,.int .i64 g]] w fun e w'=>e=.returned (.bool (inB v 1 1000000))∧w'=w.alloc (.cells #[.string c,.int .i64 v,.string h,.int .i64 p,.int .i64 s,.int .i64 d,.int .i64 g] 56):=by
 go_enter Tryz.func108,Tryz.ntmps108
 go_wp2_with (go_at_call 55; refine (within_any _ _ _ _).mono ?_; rintro e w' ⟨rfl,rfl⟩)
 go_ret
 exact ⟨rfl,rfl⟩
theorem holdOk_any (c h:ByteArray) (v p s d g:Int) (w:World) (hc:c.size≤maxLen) (hh:h.size≤maxLen) :
  Calls Tryz.prog 109 #[.agg #[.string c,.int .i64 v,.string h,.int .i64 p,.int .i64 s,.int .i64 d,.int .i64 g]] w fun e w'=>e=.returned (.bool (h.toList.isEmpty || holdB h))∧w'=w.alloc (.cells #[.string c,.int .i64 v,.string h,.int .i64 p,.int .i64 s,.int .i64 d,.int .i64 g] 56):=by
 cases he:h.toList.isEmpty
 ·
  go_enter Tryz.func109,Tryz.ntmps109
  go_wp2_with (go_at_call 75; refine (implHold_any h _ hh).mono ?_; rintro e w' ⟨rfl,rfl⟩)
  go_ret
  exact ⟨rfl,rfl⟩
 ·
  go_enter Tryz.func109,Tryz.ntmps109
  go_wp2
  go_ret
  exact ⟨rfl,rfl⟩
theorem build4 (p s d g:Int) (w:World):Sem.run Tryz.prog (Instr.build 163 #[(0,.int .i64 p),(1,.int .i64 s),(2,.int .i64 d),(3,.int .i64 g)]) w=.ok (.agg #[.int .i64 p,.int .i64 s,.int .i64 d,.int .i64 g]) w:=by kernel_rfl
set_option maxHeartbeats 1000000 in
theorem ticksOk_any (c h:ByteArray) (v p s d g:Int) (w:World) (hc:c.size≤maxLen) (hh:h.size≤maxLen) :
  Calls Tryz.prog 110 #[.agg #[.string c,.int .i64 v,.string h,.int .i64 p,.int .i64 s,.int .i64 d,.int .i64 g]] w fun e w'=>e=.returned (.bool (ticksB p s d g))∧w'=w.alloc (.cells #[.string c,.int .i64 v,.string h,.int .i64 p,.int .i64 s,.int .i64 d,.int .i64 g] 56):=by
 have hb4:=build4
 have i0:∀ w,Sem.run Tryz.prog (Instr.index 163 (.agg #[.int .i64 p,.int .i64 s,.int .i64 d,.int .i64 g]) (.int .i64 0)) w=.ok (.int .i64 p) w:=fun _=>by kernel_rfl
 have i1:∀ w,Sem.run Tryz.prog (Instr.index 163 (.agg #[.int .i64 p,.int .i64 s,.int .i64 d,.int .i64 g]) (.int .i64 1)) w=.ok (.int .i64 s) w:=fun _=>by kernel_rfl
 have i2:∀ w,Sem.run Tryz.prog (Instr.index 163 (.agg #[.int .i64 p,.int .i64 s,.int .i64 d,.int .i64 g]) (.int .i64 2)) w=.ok (.int .i64 d) w:=fun _=>by kernel_rfl
 have i3:∀ w,Sem.run Tryz.prog (Instr.index 163 (.agg #[.int .i64 p,.int .i64 s,.int .i64 d,.int .i64 g]) (.int .i64 3)) w=.ok (.int .i64 g) w:=fun _=>by kernel_rfl
 cases q0:inB p 0 100
 ·
  go_enter Tryz.func110,Tryz.ntmps110
  go_wp2
  refine wp_loop_rounds 1 ?_
  rw [rounds_succ]
  go_wp2_with (go_at_call 55; refine (within_any _ _ _ _).mono ?_; rintro e w' ⟨rfl,rfl⟩)
  go_ret
  exact ⟨ret_b (by simp [ticksB, *]),rfl⟩
 ·
  skip
  cases q1:inB s 0 100
  ·
   go_enter Tryz.func110,Tryz.ntmps110
   go_wp2
   refine wp_loop_rounds 2 ?_
   iterate 2
    rw [rounds_succ]
    go_wp2_with (go_at_call 55; refine (within_any _ _ _ _).mono ?_; rintro e w' ⟨rfl,rfl⟩)
   go_ret
   exact ⟨ret_b (by simp [ticksB, *]),rfl⟩
  skip
  cases q2:inB d 0 100
  ·
   go_enter Tryz.func110,Tryz.ntmps110
   go_wp2
   refine wp_loop_rounds 3 ?_
   iterate 3
    rw [rounds_succ]
    go_wp2_with (go_at_call 55; refine (within_any _ _ _ _).mono ?_; rintro e w' ⟨rfl,rfl⟩)
   go_ret
   exact ⟨ret_b (by simp [ticksB, *]),rfl⟩
  skip
  cases q3:inB g 0 100
  ·
   go_enter Tryz.func110,Tryz.ntmps110
   go_wp2
   refine wp_loop_rounds 4 ?_
   iterate 4
    rw [rounds_succ]
    go_wp2_with (go_at_call 55; refine (within_any _ _ _ _).mono ?_; rintro e w' ⟨rfl,rfl⟩)
   go_ret
   exact ⟨ret_b (by simp [ticksB, *]),rfl⟩
  go_enter Tryz.func110,Tryz.ntmps110
  go_wp2
  refine wp_loop_rounds 5 ?_
  iterate 5
   rw [rounds_succ]
   go_wp2_with (go_at_call 55; refine (within_any _ _ _ _).mono ?_; rintro e w' ⟨rfl,rfl⟩)
  go_ret
  exact ⟨ret_b (by simp [ticksB, *]),rfl⟩
theorem build_checks (w:World):Sem.run Tryz.prog (Instr.buildSlice 149 4 #[(0,.func (.func 107) #[] #[]),(1,.func (.func 108) #[] #[]),(2,.func (.func 109) #[] #[]),(3,.func (.func 110) #[] #[])]) w=.ok (.slice (some ⟨w.heap.size,0,none⟩) 4 4) (w.alloc (.cells #[.func (.func 107) #[] #[],.func (.func 108) #[] #[],.func (.func 109) #[] #[],.func (.func 110) #[] #[]] 108)):=by kernel_rfl
set_option maxHeartbeats 2000000 in
theorem implWant_any (c h:ByteArray) (v p s d g:Int) (w:World) (hc:c.size≤maxLen) (hh:h.size≤maxLen) :
  Calls Tryz.prog 98 #[.agg #[.string c,.int .i64 v,.string h,.int .i64 p,.int .i64 s,.int .i64 d,.int .i64 g]] w fun e w'=>e=.returned (.bool (wantB c h v p s d g))∧Below w.heap.size w w':=by
 have hbc:=build_checks
 cases q0:nameB c
 ·
  go_enter Tryz.func98,Tryz.ntmps98
  go_wp2_with go_in
  refine wp_loop_rounds 1 ?_
  rw [rounds_succ]
  go_wp2_with (first | (go_at_call 107; refine (copyOk_any c h v p s d g _ hc hh).mono ?_; rintro e w' ⟨rfl,rfl⟩) | (go_at_call 108; refine (versionOk_any c h v p s d g _ hc hh).mono ?_; rintro e w' ⟨rfl,rfl⟩) | (go_at_call 109; refine (holdOk_any c h v p s d g _ hc hh).mono ?_; rintro e w' ⟨rfl,rfl⟩) | (go_at_call 110; refine (ticksOk_any c h v p s d g _ hc hh).mono ?_; rintro e w' ⟨rfl,rfl⟩) | go_in)
  go_ret
  exact ⟨ret_b (by simp [wantB, *]),by repeat (first | exact Below.refl _ _ | refine bl_alloc ?_ _ | refine bl_drew ?_)⟩
 ·
  skip
  cases q1:inB v 1 1000000
  ·
   go_enter Tryz.func98,Tryz.ntmps98
   go_wp2_with go_in
   refine wp_loop_rounds 2 ?_
   iterate 2
    rw [rounds_succ]
    go_wp2_with (first | (go_at_call 107; refine (copyOk_any c h v p s d g _ hc hh).mono ?_; rintro e w' ⟨rfl,rfl⟩) | (go_at_call 108; refine (versionOk_any c h v p s d g _ hc hh).mono ?_; rintro e w' ⟨rfl,rfl⟩) | (go_at_call 109; refine (holdOk_any c h v p s d g _ hc hh).mono ?_; rintro e w' ⟨rfl,rfl⟩) | (go_at_call 110; refine (ticksOk_any c h v p s d g _ hc hh).mono ?_; rintro e w' ⟨rfl,rfl⟩) | go_in)
   go_ret
   exact ⟨ret_b (by simp [wantB, *]),by repeat (first | exact Below.refl _ _ | refine bl_alloc ?_ _ | refine bl_drew ?_)⟩
  skip
  cases q2:(h.toList.isEmpty || holdB h)
  ·
   go_enter Tryz.func98,Tryz.ntmps98
   go_wp2_with go_in
   refine wp_loop_rounds 3 ?_
   iterate 3
    rw [rounds_succ]
    go_wp2_with (first | (go_at_call 107; refine (copyOk_any c h v p s d g _ hc hh).mono ?_; rintro e w' ⟨rfl,rfl⟩) | (go_at_call 108; refine (versionOk_any c h v p s d g _ hc hh).mono ?_; rintro e w' ⟨rfl,rfl⟩) | (go_at_call 109; refine (holdOk_any c h v p s d g _ hc hh).mono ?_; rintro e w' ⟨rfl,rfl⟩) | (go_at_call 110; refine (ticksOk_any c h v p s d g _ hc hh).mono ?_; rintro e w' ⟨rfl,rfl⟩) | go_in)
   go_ret
   exact ⟨ret_b (by simp [wantB, *]),by repeat (first | exact Below.refl _ _ | refine bl_alloc ?_ _ | refine bl_drew ?_)⟩
  skip
  cases q3:ticksB p s d g
  ·
   go_enter Tryz.func98,Tryz.ntmps98
   go_wp2_with go_in
   refine wp_loop_rounds 4 ?_
   iterate 4
    rw [rounds_succ]
    go_wp2_with (first | (go_at_call 107; refine (copyOk_any c h v p s d g _ hc hh).mono ?_; rintro e w' ⟨rfl,rfl⟩) | (go_at_call 108; refine (versionOk_any c h v p s d g _ hc hh).mono ?_; rintro e w' ⟨rfl,rfl⟩) | (go_at_call 109; refine (holdOk_any c h v p s d g _ hc hh).mono ?_; rintro e w' ⟨rfl,rfl⟩) | (go_at_call 110; refine (ticksOk_any c h v p s d g _ hc hh).mono ?_; rintro e w' ⟨rfl,rfl⟩) | go_in)
   go_ret
   exact ⟨ret_b (by simp [wantB, *]),by repeat (first | exact Below.refl _ _ | refine bl_alloc ?_ _ | refine bl_drew ?_)⟩
  go_enter Tryz.func98,Tryz.ntmps98
  go_wp2_with go_in
  refine wp_loop_rounds 5 ?_
  iterate 5
   rw [rounds_succ]
   go_wp2_with (first | (go_at_call 107; refine (copyOk_any c h v p s d g _ hc hh).mono ?_; rintro e w' ⟨rfl,rfl⟩) | (go_at_call 108; refine (versionOk_any c h v p s d g _ hc hh).mono ?_; rintro e w' ⟨rfl,rfl⟩) | (go_at_call 109; refine (holdOk_any c h v p s d g _ hc hh).mono ?_; rintro e w' ⟨rfl,rfl⟩) | (go_at_call 110; refine (ticksOk_any c h v p s d g _ hc hh).mono ?_; rintro e w' ⟨rfl,rfl⟩) | go_in)
  go_ret
  exact ⟨ret_b (by simp [wantB, *]),by repeat (first | exact Below.refl _ _ | refine bl_alloc ?_ _ | refine bl_drew ?_)⟩
end Go.Proofs.YtcjhlhijdacinaaGreatDoor
