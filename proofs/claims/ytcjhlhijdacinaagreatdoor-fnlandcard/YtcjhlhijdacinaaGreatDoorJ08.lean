import Derived.Test.YtcjhlhijdacinaaGreatDoorJ07
import Derived.Test.YtcjhlhijdacinaaGreatDoorJ06
import Derived.Test.YtcjhlhijdacinaaGreatDoorJ02
import Derived.Deep.RegionHeld3
import Derived.Laws.Pointers
import Derived.StillTactics
import Derived.Test.YtcjhlhijdacinaaGreatDoorJ03
import Derived.Deep.QuietTactic
import Derived.BigQuiet
import Derived.Maps.OwnSet
namespace Go.Proofs.YtcjhlhijdacinaaGreatDoor.P
open Go.RowKit
set_option linter.unusedVariables false
def SaysG (q:Bool) (t:Int) (gs:List G.GrantD):Prop:=q=true↔GrantsSay t gs
def SaysP (q:Bool) (ps:List PlaceD):Prop:=q=true↔PlacesSay ps
def SaysF (q:Bool) (b:ByteArray) (s:Int) (ws:List W.WantD):Prop:=q=true↔nameB b=true∧(inB s 1 1000000=true∧(ws.length≤10∧W.AllW ws ws.length))
open Classical in
noncomputable def fineB (r:PlaceD):Bool:=decide r.fine
theorem fineB_iff (r:PlaceD):fineB r=true↔r.fine:=by
 classical
 unfold fineB
 exact decide_eq_true_iff
theorem fineB_of {r:PlaceD} {q:Bool} (k:q=true↔r.fine):q=fineB r:=by
 have h:=k.trans (fineB_iff r).symm
 cases q <;> cases hf:fineB r <;> simp_all
end Go.Proofs.YtcjhlhijdacinaaGreatDoor.P
namespace Go.Proofs.YtcjhlhijdacinaaGreatDoor.W
open Go.RowKit
set_option linter.unusedVariables false
set_option maxHeartbeats 1000000 in
theorem holdsDiffer2 (a:Option Addr) (cap:Nat) (ws:List WantD) (w:World) (hG:Gv w a ws) (hc:ws.length≤cap) (hl:ws.length≤1048576) :
  Calls Tryz.prog 65 #[.slice a ws.length cap] w fun e w'=>(∃ q:Bool,e=.returned (.bool q)∧(q=true↔Diff ws ws.length))∧Below w.heap.size w w':=by
 go_enter Tryz.func65,Tryz.ntmps65
 go_wp2
 go_loopw [9] (fun i wx=>∃ (k:Nat),k≤ws.length∧i=.int .i64 k∧Hid (Diff ws k)∧Below w.heap.size w wx) (fun i _=>ws.length - (intOf i).toNat)
 case atStart=>exact ⟨0,Nat.zero_le _,rfl,fun j r h=>by omega,Below.refl _ _⟩
 case round =>
  obtain ⟨k,hk,rfl,Ha,hB⟩:=hrel
  by_cases hlt:k < ws.length
  ·
   obtain ⟨b,rfl,l1,hR⟩:=hG.resolve_left (fun h=>by rw [h] at hlt; simp at hlt)
   have hkc:(k:Int)≤(cap:Int):=by omega
   obtain ⟨r,hr⟩:∃ r,ws[k]?=some r:=⟨ws[k],List.getElem?_eq_getElem hlt⟩
   have Hr:=hidP hr
   clear hr
   have i0:(0:Int)≤(k:Int):=by omega
   have i1:(k:Int)≤(ws.length:Int):=by omega
   obtain ⟨c0,c1,c2,c3,c4,c5,c6⟩:=(hR.keep l1 hB).at Hr.out
   simp only [Nat.zero_add] at c0 c1 c2 c3 c4 c5 c6
   obtain ⟨wo,rfl⟩:∃ wo:World,wo=wr:=⟨_,rfl⟩
   go_wp2_with fail
   clear c0 c1 c2 c3 c4 c5 c6
   go_loopw [18] (fun j wx=>∃ (n:Nat),n≤k∧j=.int .i64 n∧Hid (NoneOf ws r n)∧Below (wo.alloc (.cells #[.string r.c,.int .i64 r.v,.string r.h,.int .i64 r.p,.int .i64 r.s,.int .i64 r.d,.int .i64 r.g] 56)).heap.size (wo.alloc (.cells #[.string r.c,.int .i64 r.v,.string r.h,.int .i64 r.p,.int .i64 r.s,.int .i64 r.d,.int .i64 r.g] 56)) wx) (fun j _=>k - (intOf j).toNat)
   case atStart=>exact ⟨0,Nat.zero_le _,rfl,fun i q h=>by omega,Below.refl _ _⟩
   obtain ⟨n,hn,rfl,Hn,hBn⟩:=hrel
   have bo:Below w.heap.size w wr:=bl_trans (bl_trans hB (bl_alloc bR _)) hBn
   by_cases hnl:n < k
   ·
    obtain ⟨t,ht⟩:∃ t,ws[n]?=some t:=⟨ws[n],List.getElem?_eq_getElem (by omega)⟩
    have Ht:=hidP ht
    clear ht
    have j0:(0:Int)≤(n:Int):=by omega
    have j1:(n:Int) < (k:Int):=by omega
    obtain ⟨c0,c1,c2,c3,c4,c5,c6⟩:=(hR.keep l1 bo).at Ht.out
    simp only [Nat.zero_add] at c0 c1 c2 c3 c4 c5 c6
    have hkb:=box_keep hBn
    have hzb:=boxlt hBn
    cases he:r.h.toList.isEmpty
    ·
     cases hcl:(t.h.toList == r.h.toList)
     ·
      go_wp2
      exact ⟨⟨n+1,by omega,by go_num,NoneOf.step Hn.out Ht.out (by simp [clash,he,hcl]),bl_trans hBn (bl_alloc bR _)⟩,by simp [intOf]; omega⟩
     go_wp2
     go_ret
     exact ⟨⟨false,rfl,⟨fun h=>(by cases h),fun h=>by have:=h k r hlt Hr.out n t hnl Ht.out; simp [clash,he,hcl] at this⟩⟩,bl_alloc bo _⟩
    go_wp2
    exact ⟨⟨n+1,by omega,by go_num,NoneOf.step Hn.out Ht.out (by simp [clash,he]),bl_trans hBn (bl_alloc bR _)⟩,by simp [intOf]; omega⟩
   have hne:n=k:=by omega
   subst hne
   go_wp2
   exact ⟨⟨n+1,by omega,by go_num,Ha.out.step Hr.out Hn.out,bo⟩,by simp [intOf]; omega⟩
  go_wp2
  go_ret
  exact ⟨⟨true,rfl,⟨fun _ j r hj hr=>Ha.out j r (by omega) hr,fun _=>rfl⟩⟩,hB⟩
end Go.Proofs.YtcjhlhijdacinaaGreatDoor.W
namespace Go.Proofs.YtcjhlhijdacinaaGreatDoor.P
open Go.RowKit
set_option linter.unusedVariables false
def SaysH (q:Bool) (ps:List PlaceD):Prop:=q=true↔W.Diff (ps.flatMap (·.ws)) (ps.flatMap (·.ws)).length
theorem flat_len (ps:List PlaceD) (h:∀ p∈ps,p.ws.length≤10):(ps.flatMap (·.ws)).length≤ps.length * 10:=by
 induction ps with
 | nil=>simp
 | cons p ps ih =>
  rw [List.flatMap_cons,List.length_append,List.length_cons]
  have h1:=h p (List.mem_cons_self ..)
  have h2:=ih (fun q hq=>h q (List.mem_cons_of_mem _ hq))
  omega
theorem flatW_append (xs ys:List W.WantD):W.flatR (xs++ys)=W.flatR xs++W.flatR ys:=by simp [W.flatR]
theorem flat_step {ps:List PlaceD} {k:Nat} {p:PlaceD} (hp:ps[k]?=some p):(ps.take (k+1)).flatMap (·.ws)=(ps.take k).flatMap (·.ws)++p.ws:=by
 have hlt:k < ps.length:=(List.getElem?_eq_some_iff.1 hp).1
 have he:ps[k]=p:=by rw [List.getElem?_eq_getElem hlt] at hp; exact Option.some.inj hp
 rw [List.take_succ_eq_append_getElem hlt,List.flatMap_append,he]
 simp
theorem sl_gv {w:World} {v:Value} {ws:List W.WantD} {B:Nat} (h:w.ownsRow B 56 7 v ws.length (W.flatR ws)):∃ a c,v=.slice a ws.length c∧ws.length≤c∧W.Gv w a ws:=by
 have hs:W.Sl w v ws B:=W.Sl.of_owns h
 rcases h.2 with ⟨h1,h2⟩ | ⟨g,cap,cur,h1,-,-,h4,-⟩
 · exact ⟨none,0,by rw [h2]; exact h1,by omega,Or.inl (List.eq_nil_of_length_eq_zero h2)⟩
 refine ⟨_,cap,h1,h4, ?_⟩
 rcases hs with ⟨-,h⟩ | ⟨g',cap',e,h1',h2',h3',h4'⟩
 · exact Or.inl h
 rw [h1] at e; cases e; exact Or.inr ⟨g,rfl,h2',h3'⟩
end Go.Proofs.YtcjhlhijdacinaaGreatDoor.P
namespace Go.Proofs.YtcjhlhijdacinaaGreatDoor
open Go.RowKit
set_option linter.unusedVariables false
theorem W.all_zero (a:Option Addr) (cap:Nat) (v:Value) (w:World) :
  Calls Tryz.prog 97 #[.slice a 0 cap,v] w fun e w'=>e=.returned (.bool true)∧w'=w:=by
 go_enter Tryz.func97,Tryz.ntmps97
 go_wp2
 refine wp_loop_rounds 1 ?_
 rw [rounds_succ]
 go_wp2
 go_ret
 exact ⟨rfl,rfl⟩
theorem W.asc_zero (a:Option Addr) (cap:Nat) (v:Value) (w:World) :
  Calls Tryz.prog 99 #[.slice a 0 cap,v] w fun e w'=>e=.returned (.bool true)∧w'=w:=by
 go_enter Tryz.func99,Tryz.ntmps99
 go_wp2
 refine wp_loop_rounds 1 ?_
 rw [rounds_succ]
 go_wp2
 go_ret
 exact ⟨rfl,rfl⟩
end Go.Proofs.YtcjhlhijdacinaaGreatDoor
namespace Go.Proofs.YtcjhlhijdacinaaGreatDoor.W
open Go.RowKit
theorem eachWant_gv (a:Option Addr) (cap:Nat) (ws:List WantD) (w:World) (h:Gv w a ws) (hfit:∀ r∈ws,r.fits) (hl:ws.length≤10) :
  Calls Tryz.prog 83 #[.slice a ws.length cap] w fun e w'=>(∃ q:Bool,e=.returned (.bool q)∧(q=true↔Each ws ws.length))∧Below w.heap.size w w':=by
 rcases h with rfl | ⟨b,rfl,hb,hR⟩
 ·
  show Calls Tryz.prog _ #[.slice a 0 cap] w _
  go_enter Tryz.func83,Tryz.ntmps83
  go_wp2_with (go_at_call 97; refine (all_zero _ _ _ _).mono ?_; rintro e w' ⟨rfl,rfl⟩)
  go_ret
  exact ⟨⟨true,rfl,⟨fun _ j r hj hr=>(by simp at hr),fun _=>rfl⟩⟩,Below.refl _ _⟩
 · exact eachWant b 0 cap ws w hR hb hfit hl
theorem ascendWants_gv (a:Option Addr) (cap:Nat) (ws:List WantD) (w:World) (h:Gv w a ws) (hl:ws.length≤10) :
  Calls Tryz.prog 84 #[.slice a ws.length cap] w fun e w'=>(∃ q:Bool,e=.returned (.bool q)∧(q=true↔Asc ws ws.length))∧Below w.heap.size w w':=by
 rcases h with rfl | ⟨b,rfl,hb,hR⟩
 ·
  show Calls Tryz.prog _ #[.slice a 0 cap] w _
  go_enter Tryz.func84,Tryz.ntmps84
  go_wp2_with (go_at_call 99; refine (asc_zero _ _ _ _).mono ?_; rintro e w' ⟨rfl,rfl⟩)
  go_ret
  exact ⟨⟨true,rfl,⟨fun _ j q r hj hq hr=>(by simp at hq),fun _=>rfl⟩⟩,Below.refl _ _⟩
 · exact ascendWants b 0 cap ws w hR hb hl
set_option maxHeartbeats 1000000 in
theorem implWantsOk_gv (a:Option Addr) (cap:Nat) (ws:List WantD) (w:World) (hG:Gv w a ws) (hc:ws.length≤cap) (hfit:∀ r∈ws,r.fits) (hl:ws.length≤1048576) :
  Calls Tryz.prog 69 #[.slice a ws.length cap] w fun e w'=>(∃ q:Bool,e=.returned (.bool q)∧Says q ws)∧Below w.heap.size w w':=by
 have hba:=build_all
 by_cases h10:ws.length≤10
 ·
  go_enter Tryz.func69,Tryz.ntmps69
  go_wp2_with go_in
  clear hba
  refine wp_loop_rounds 5 ?_
  rw [rounds_succ]
  go_wp2_with fail
  refine (fewWants_any _ _ _ _).mono ?_
  rintro e w1 ⟨rfl,rfl⟩
  have d10:decide (ws.length≤10)=true:=by simpa using h10
  go_wp2_with fail
  rw [rounds_succ]
  go_wp2_with fail
  have R0:=hG.keep (bl_alloc bR (.cells #[.func (.func 82) #[] #[],.func (.func 83) #[] #[],.func (.func 84) #[] #[],.func (.func 65) #[] #[]] 81))
  refine (eachWant_gv a _ ws _ R0 hfit h10).mono ?_
  rintro e w2 ⟨⟨q2,rfl,h2⟩,b2⟩
  have k2:=box_keep b2
  cases q2
  ·
   go_wp2
   go_ret
   exact ⟨⟨false,rfl,says_no (fun _ h=>by have:=h2.2 h.1; cases this)⟩,bl_trans (bl_alloc bR _) b2⟩
  have e2:=hidP (h2.1 rfl)
  clear h2
  go_wp2_with fail
  rw [rounds_succ]
  go_wp2_with fail
  have R2:=R0.keep b2
  refine (ascendWants_gv a _ ws _ R2 h10).mono ?_
  rintro e w3 ⟨⟨q3,rfl,h3⟩,b3⟩
  have b3':=bl_trans b2 b3
  clear k2
  have k3:=box_keep b3'
  cases q3
  ·
   go_wp2
   go_ret
   exact ⟨⟨false,rfl,says_no (fun _ h=>by have:=h3.2 h.2.1; cases this)⟩,bl_trans (bl_alloc bR _) b3'⟩
  have e3:=hidP (h3.1 rfl)
  clear h3
  go_wp2_with fail
  rw [rounds_succ]
  go_wp2_with fail
  have R3:=R2.keep b3
  refine (holdsDiffer2 a cap ws _ R3 hc (by omega)).mono ?_
  rintro e w4 ⟨⟨q4,rfl,h4⟩,b4⟩
  have b4':=bl_trans b3' b4
  clear k3
  cases q4
  ·
   go_wp2
   go_ret
   exact ⟨⟨false,rfl,says_no (fun _ h=>by have:=h4.2 h.2.2; cases this)⟩,bl_trans (bl_alloc bR _) b4'⟩
  have e4:=hidP (h4.1 rfl)
  clear h4
  go_wp2_with fail
  rw [rounds_succ]
  go_wp2
  go_ret
  exact ⟨⟨true,rfl,says_yes ⟨e2.out,e3.out,e4.out⟩ (Nat.le_refl _) h10⟩,bl_trans (bl_alloc bR _) b4'⟩
 ·
  go_enter Tryz.func69,Tryz.ntmps69
  go_wp2_with go_in
  clear hba
  refine wp_loop_rounds 1 ?_
  rw [rounds_succ]
  go_wp2_with fail
  refine (fewWants_any _ _ _ _).mono ?_
  rintro e w1 ⟨rfl,rfl⟩
  have d10:decide (ws.length≤10)=false:=by simpa using h10
  go_wp2
  go_ret
  exact ⟨⟨false,rfl,says_no (fun h _=>h10 h)⟩,bl_alloc bR _⟩
end Go.Proofs.YtcjhlhijdacinaaGreatDoor.W
namespace Go.Proofs.YtcjhlhijdacinaaGreatDoor
open Go.RowKit
set_option linter.unusedVariables false
theorem W.fresh_src (a:Option Addr) (c:Nat) (l:List W.WantD) (w:World) (h:W.Src w a c l) (hl:l.length≤1048576) :
  Calls Tryz.prog 54 #[.slice a l.length c] w fun e w'=>(∃ v,e=.returned v∧W.Sl w' v l w.heap.size)∧Below w.heap.size w w':=by
 rcases h with ⟨rfl,rfl,rfl⟩ | ⟨g,rfl,hg,hr⟩
 ·
  obtain ⟨i0,hi,hz0,hz1,hz2⟩:=info_parts W.infoR
  show Calls Tryz.prog _ #[.slice none 0 0] w _
  go_enter Tryz.func54,Tryz.ntmps54
  go_wp2_with (at_builtin; refine wpList_append_own_none rfl _ _ 27 rfl w.heap.size 56 i0 7 Tryz.underlying27 hi (.slice none 0 0) 0 [] rfl (World.ownsRow_nil _ _ _ _) rfl ?_)
  go_ret
  exact ⟨⟨_,rfl,Or.inl ⟨rfl,rfl⟩⟩,Below.refl _ _⟩
 · exact W.fresh g c l w hr hl
theorem W.Src.gv {w:World} {a:Option Addr} {c:Nat} {l:List W.WantD} (h:W.Src w a c l):W.Gv w a l:=by
 rcases h with ⟨-,-,h⟩ | ⟨g,h1,h2,h3⟩
 · exact Or.inl h
 exact Or.inr ⟨g,h1,h2,h3⟩
end Go.Proofs.YtcjhlhijdacinaaGreatDoor
