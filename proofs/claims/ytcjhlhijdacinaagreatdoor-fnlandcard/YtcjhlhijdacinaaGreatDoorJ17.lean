import Derived.Test.YtcjhlhijdacinaaGreatDoorJ11
import Derived.Test.YtcjhlhijdacinaaGreatDoorJ08
import Derived.Test.YtcjhlhijdacinaaGreatDoorJ06
import Derived.Test.YtcjhlhijdacinaaGreatDoorJ04
import Derived.Test.YtcjhlhijdacinaaGreatDoorJ07
import Derived.Deep.QuietTactic
import Derived.BigQuiet
namespace Go.Proofs.YtcjhlhijdacinaaGreatDoor
open Go.RowKit
theorem W.wp_app_src {ops:Array Oper} {rest:List Oper} {o:Oper} {a:Act} {w:World} {Q:Exit→Act→World→Prop} (B:Nat) (hgd:o.guard=none) (s x:Operand)
  (ho:o.op=.call { callee:=.builtin .append,args:=#[s,x],argTypes:=#[27,27] }) (n:Nat) (xs:List Value) (v:Value) (hs:a.eval s=v) (hown:w.ownsRow B 56 7 v n xs)
  (l:List W.WantD) (ad:Option Addr) (c:Nat) (hx:a.eval x=.slice ad l.length c) (hsrc:W.Src w ad c l) (hl:l.length≤1048576) (hn:n≤1048576) (hB:B≤w.heap.size)
  (h:∀ v' w',w'.ownsRow B 56 7 v' (n+l.length) (xs++W.flatR l)→w.grownBy w' v.ownBlock→wpList Tryz.prog ops Q rest (a.put o.dst v') w'):wpList Tryz.prog ops Q (o :: rest) a w:=by
 obtain ⟨i0,hi,hz0,hz1,hz2⟩:=info_parts W.infoR
 rcases hsrc with ⟨rfl,rfl,rfl⟩ | ⟨g,rfl,hg,hr⟩
 · exact wpList_append_own_none hgd s x 27 ho B 56 i0 7 Tryz.underlying27 hi v n xs hs hown hx (h v w (by simpa [W.flatR] using hown) ⟨rfl,rfl,rfl,Nat.le_refl _,fun _ _ _=>rfl⟩)
 ·
  refine wpList_append_own _ hgd s x 27 ho B 56 i0 _ 7 72 Tryz.underlying27 hi hz0 hz1 hz2 rfl (by decide) v n xs hs hown ⟨g,0,none⟩ l.length c (W.flatR l) hx (W.flatR_len _) (W.flat_cells hr) (W.flatR_one _) (by unfold maxLen; omega) (by omega) hB ?_
  intro v' w' ho' hg' hn'
  exact h v' w' ho' hg'
end Go.Proofs.YtcjhlhijdacinaaGreatDoor
namespace Go.Proofs.YtcjhlhijdacinaaGreatDoor.G
open Go.RowKit
set_option linter.unusedVariables false
theorem allx_zero (a:Option Addr) (cap:Nat) (v:Value) (w:World) :
  Calls Tryz.prog 58 #[.slice a 0 cap,v] w fun e w'=>e=.returned (.bool true)∧w'=w:=by
 go_enter Tryz.func58,Tryz.ntmps58
 go_wp2
 refine wp_loop_rounds 1 ?_
 rw [rounds_succ]
 go_wp2
 go_ret
 exact ⟨rfl,rfl⟩
theorem ascx_zero (a:Option Addr) (cap:Nat) (v:Value) (w:World) :
  Calls Tryz.prog 56 #[.slice a 0 cap,v] w fun e w'=>e=.returned (.bool true)∧w'=w:=by
 go_enter Tryz.func56,Tryz.ntmps56
 go_wp2
 refine wp_loop_rounds 1 ?_
 rw [rounds_succ]
 go_wp2
 go_ret
 exact ⟨rfl,rfl⟩
theorem ascends_x (a:Option Addr) (cap:Nat) (rs:List GrantD) (w:World) (h:GvG w a rs) (hl:rs.length≤1048576) :
  Calls Tryz.prog 56 #[.slice a rs.length cap,.func (.func 57) #[] #[]] w fun e w'=>(∃ q:Bool,e=.returned (.bool q)∧(q=true↔AscN rs rs.length))∧Below w.heap.size w w':=by
 rcases h with rfl | ⟨b,rfl,hb,hR⟩
 ·
  refine (ascx_zero a cap _ w).mono ?_
  rintro e w' ⟨rfl,rfl⟩
  exact ⟨⟨true,rfl,⟨fun _ j q r hj hq hr=>(by simp at hq),fun _=>rfl⟩⟩,Below.refl _ _⟩
 · exact ascends b 0 cap rs w hR hb hl
theorem allOk_x (bk:Nat) (P:GrantD→Bool) (a:Option Addr) (cap:Nat) (rs:List GrantD) (w:World) (h:GvG w a rs) (hl:rs.length≤1048576)
  (hF:∀ r∈rs,∀ x,Below w.heap.size w x→Calls Tryz.prog 59 #[.agg #[.string r.h,.string r.b,.string r.c,.int .i64 r.t,.int .i64 r.u],.pointer (some ⟨bk,0,none⟩)] x fun e x'=>e=.returned (.bool (P r))∧Below x.heap.size x x') :
  Calls Tryz.prog 58 #[.slice a rs.length cap,.func (.func 59) #[] #[.pointer (some ⟨bk,0,none⟩)]] w fun e w'=>(∃ q:Bool,e=.returned (.bool q)∧(q=true↔∀ r∈rs,P r=true))∧Below w.heap.size w w':=by
 rcases h with rfl | ⟨b,rfl,hb,hR⟩
 ·
  refine (allx_zero a cap _ w).mono ?_
  rintro e w' ⟨rfl,rfl⟩
  exact ⟨⟨true,rfl,⟨fun _ r hr=>(by cases hr),fun _=>rfl⟩⟩,Below.refl _ _⟩
 · exact allOk bk P b 0 cap rs w hR hb hl hF
end Go.Proofs.YtcjhlhijdacinaaGreatDoor.G
namespace Go.Proofs.YtcjhlhijdacinaaGreatDoor.P
open Go.RowKit
set_option linter.unusedVariables false
structure LandX (w:World) (gs:List G.GrantD) (ps:List PlaceD) (a1 a2:Option Addr):Prop where
 g:G.GvG w a1 gs
 p:GvP w a2 ps
 k:∀ r∈ps,W.Src w r.a r.c r.ws
theorem LandX.keep {w w':World} {gs:List G.GrantD} {ps:List PlaceD} {a1 a2:Option Addr} (h:LandX w gs ps a1 a2) (hb:Below w.heap.size w w'):LandX w' gs ps a1 a2 :=
 ⟨h.g.keep hb,h.p.keep hb,fun r hr=>(h.k r hr).keep hb⟩
theorem src_gv {w:World} {a:Option Addr} {c:Nat} {l:List W.WantD} (h:W.Src w a c l):W.Gv w a l:=by
 rcases h with ⟨-,-,h⟩ | ⟨g,h1,h2,h3⟩
 · exact Or.inl h
 exact Or.inr ⟨g,h1,h2,h3⟩
theorem allx_zero (a:Option Addr) (cap:Nat) (v:Value) (w:World) :
  Calls Tryz.prog 63 #[.slice a 0 cap,v] w fun e w'=>e=.returned (.bool true)∧w'=w:=by
 go_enter Tryz.func63,Tryz.ntmps63
 go_wp2
 refine wp_loop_rounds 1 ?_
 rw [rounds_succ]
 go_wp2
 go_ret
 exact ⟨rfl,rfl⟩
theorem ascx_zero (a:Option Addr) (cap:Nat) (v:Value) (w:World) :
  Calls Tryz.prog 61 #[.slice a 0 cap,v] w fun e w'=>e=.returned (.bool true)∧w'=w:=by
 go_enter Tryz.func61,Tryz.ntmps61
 go_wp2
 refine wp_loop_rounds 1 ?_
 rw [rounds_succ]
 go_wp2
 go_ret
 exact ⟨rfl,rfl⟩
theorem ascends_x (a:Option Addr) (cap:Nat) (rs:List PlaceD) (w:World) (h:GvP w a rs) (hl:rs.length≤1048576) :
  Calls Tryz.prog 61 #[.slice a rs.length cap,.func (.func 62) #[] #[]] w fun e w'=>(∃ q:Bool,e=.returned (.bool q)∧(q=true↔AscN rs rs.length))∧Below w.heap.size w w':=by
 rcases h with rfl | ⟨b,rfl,hb,hR⟩
 ·
  refine (ascx_zero a cap _ w).mono ?_
  rintro e w' ⟨rfl,rfl⟩
  exact ⟨⟨true,rfl,⟨fun _ j q r hj hq hr=>(by simp at hq),fun _=>rfl⟩⟩,Below.refl _ _⟩
 · exact ascends b 0 cap rs w hR hb hl
theorem allOk_x (P:PlaceD→Bool) (a:Option Addr) (cap:Nat) (rs:List PlaceD) (w:World) (h:GvP w a rs) (hl:rs.length≤1048576)
  (hF:∀ r∈rs,∀ x,Below w.heap.size w x→Calls Tryz.prog 64 #[.agg #[.string r.b,.int .i64 r.s,.slice r.a r.ws.length r.c]] x fun e x'=>e=.returned (.bool (P r))∧Below x.heap.size x x') :
  Calls Tryz.prog 63 #[.slice a rs.length cap,.func (.func 64) #[] #[]] w fun e w'=>(∃ q:Bool,e=.returned (.bool q)∧(q=true↔∀ r∈rs,P r=true))∧Below w.heap.size w w':=by
 rcases h with rfl | ⟨b,rfl,hb,hR⟩
 ·
  refine (allx_zero a cap _ w).mono ?_
  rintro e w' ⟨rfl,rfl⟩
  exact ⟨⟨true,rfl,⟨fun _ r hr=>(by cases hr),fun _=>rfl⟩⟩,Below.refl _ _⟩
 · exact allOk P b 0 cap rs w hR hb hl hF
theorem ml_boxx {w w':World} {t:Int} {gs:List G.GrantD} {ps:List PlaceD} {a1 a2:Option Addr} {cp1 cp2:Nat} (hb:Below (w.alloc (.cells #[.int .i64 t,.slice a1 gs.length cp1,.slice a2 ps.length cp2] 26)).heap.size (w.alloc (.cells #[.int .i64 t,.slice a1 gs.length cp1,.slice a2 ps.length cp2] 26)) w'):(∀ k,w'.cell? ⟨w.heap.size,k,none⟩=(#[.int .i64 t,.slice a1 gs.length cp1,.slice a2 ps.length cp2]:Array Value)[k]?)∧w.heap.size < w'.heap.size:=by
 constructor
 ·
  intro k
  rw [hb.cell (p:=⟨w.heap.size,k,none⟩) (by simp)]
  simp [go_sem]
 have:=hb.size; simp at this; omega
set_option maxRecDepth 4000 in
set_option maxHeartbeats 1000000 in
theorem grantsOk_x (t:Int) (gs:List G.GrantD) (ps:List PlaceD) (a1 a2:Option Addr) (cp1 cp2:Nat) (w:World) (hA:LandX w gs ps a1 a2) (hF:Fit gs ps) (h0:0≤t) (h1:t≤2000000) :
  Calls Tryz.prog 36 #[.agg #[.int .i64 t,.slice a1 gs.length cp1,.slice a2 ps.length cp2]] w fun e w'=>(∃ q:Bool,e=.returned (.bool q)∧SaysG q t gs)∧Below w.heap.size w w':=by
 have HA:=hidP hA
 have HF:=hidP hF
 have hgl:=hF.gl
 clear hA hF
 by_cases h40:gs.length≤40
 ·
  have hi40:(gs.length:Int)≤40:=by omega
  go_enter Tryz.func36,Tryz.ntmps36
  go_wp2_with fail
  have hb0:Below w.heap.size w (w.alloc (.cells #[.int .i64 t,.slice a1 gs.length cp1,.slice a2 ps.length cp2] 26)):=bl_alloc bR _
  refine (G.ascends_x a1 cp1 gs _ (HA.out.keep hb0).g hgl).mono ?_
  rintro e w1 ⟨⟨q1,rfl,k1⟩,c1⟩
  have B1:=hidP (bl_trans hb0 c1)
  have H0:=hidP k1
  obtain ⟨kb,kz⟩:=ml_boxx c1
  clear k1 hb0 c1
  cases q1
  ·
   go_wp2
   go_ret
   exact ⟨⟨false,rfl,⟨fun h=>(by cases h),fun h=>by have:=H0.out.2 h.2.1; cases this⟩⟩,B1.out⟩
  have H1:=hidP (H0.out.1 rfl)
  have Hck:=hidP (kb 0)
  clear H0
  go_wp2_with fail
  refine (G.allOk_x w.heap.size (grantB t) a1 cp1 gs w1 (HA.out.keep B1.out).g hgl (fun r hr x hx=>closGrant r t w.heap.size x ((hx.cell (p:=⟨w.heap.size,0,none⟩) kz).trans Hck.out) (Nat.lt_of_lt_of_le kz hx.size) (HF.out.g r hr) h0 h1)).mono ?_
  rintro e w2 ⟨⟨q2,rfl,k2⟩,c2⟩
  have B2:=hidP (bl_trans B1.out c2)
  have H2:=hidP k2
  clear c2 k2 kb
  go_wp2
  go_ret
  exact ⟨⟨q2,rfl,⟨fun h=>⟨h40,H1.out,H2.out.1 h⟩,fun h=>H2.out.2 h.2.2⟩⟩,B2.out⟩
 ·
  have hi40:(40:Int) < (gs.length:Int):=by omega
  have H40:=hidP h40
  clear h40
  go_enter Tryz.func36,Tryz.ntmps36
  go_wp2
  go_ret
  first
  | exact ⟨Or.inl ⟨rfl,⟨fun h=>(by cases h),fun h=>absurd h.1 H40.out⟩⟩,bl_alloc bR _⟩
  | exact ⟨⟨false,rfl,⟨fun h=>(by cases h),fun h=>absurd h.1 H40.out⟩⟩,bl_alloc bR _⟩
set_option maxRecDepth 4000 in
set_option maxHeartbeats 1000000 in
theorem placeOk_qx (b:ByteArray) (s:Int) (a:Option Addr) (c:Nat) (ws:List W.WantD) (w:World) (hb:b.size≤maxLen) (hR:W.Gv w a ws) (hcap:ws.length≤c) (hfit:∀ r∈ws,r.fits) (hl:ws.length≤1048576) :
  Calls Tryz.prog 64 #[.agg #[.string b,.int .i64 s,.slice a ws.length c]] w fun e w'=>(∃ q:Bool,e=.returned (.bool q)∧SaysF q b s ws)∧Below w.heap.size w w':=by
 have HR:=hidP hR
 have HF:=hidP hfit
 clear hR hfit
 have hb0:Hid (Below w.heap.size w (w.alloc (.cells #[.string b,.int .i64 s,.slice a ws.length c] 54))):=bl_alloc bR _
 cases q1:nameB b
 ·
  go_enter Tryz.func64,Tryz.ntmps64
  go_wp2_with (first | (go_at_call 68; refine (implName_any _ _ hb).mono ?_; rintro e w' ⟨rfl,rfl⟩) | (go_at_call 55; refine (within_any _ _ _ _).mono ?_; rintro e w' ⟨rfl,rfl⟩))
  go_ret
  exact ⟨⟨false,rfl,⟨fun h=>(by cases h),fun h=>by have:=h.1; rw [q1] at this; cases this⟩⟩,hb0.out⟩
 cases q2:inB s 1 1000000
 ·
  go_enter Tryz.func64,Tryz.ntmps64
  go_wp2_with (first | (go_at_call 68; refine (implName_any _ _ hb).mono ?_; rintro e w' ⟨rfl,rfl⟩) | (go_at_call 55; refine (within_any _ _ _ _).mono ?_; rintro e w' ⟨rfl,rfl⟩))
  go_ret
  exact ⟨⟨false,rfl,⟨fun h=>(by cases h),fun h=>by have:=h.2.1; rw [q2] at this; cases this⟩⟩,hb0.out⟩
 ·
  go_enter Tryz.func64,Tryz.ntmps64
  go_wp2_with (first | (go_at_call 68; refine (implName_any _ _ hb).mono ?_; rintro e w' ⟨rfl,rfl⟩) | (go_at_call 55; refine (within_any _ _ _ _).mono ?_; rintro e w' ⟨rfl,rfl⟩))
  refine (W.implWantsOk_gv a c ws _ (HR.out.keep hb0.out) hcap HF.out hl).mono ?_
  rintro e w1 ⟨⟨q,rfl,k⟩,cc⟩
  have K:=hidP k
  have B1:=hidP (bl_trans hb0.out cc)
  clear k cc
  go_wp2
  go_ret
  exact ⟨⟨q,rfl,⟨fun h=>⟨q1,q2,K.out.1 h⟩,fun h=>K.out.2 h.2.2⟩⟩,B1.out⟩
theorem placeOk_x (r:PlaceD) (w:World) (hk:W.Src w r.a r.c r.ws∧r.ws.length≤r.c) (hb:r.b.size≤maxLen) (hfit:∀ q∈r.ws,q.fits) (hl:r.ws.length≤1048576) :
  Calls Tryz.prog 64 #[.agg #[.string r.b,.int .i64 r.s,.slice r.a r.ws.length r.c]] w fun e w'=>e=.returned (.bool (fineB r))∧Below w.heap.size w w':=by
 refine (placeOk_qx r.b r.s r.a r.c r.ws w hb (src_gv hk.1) hk.2 hfit hl).mono ?_
 rintro e w' ⟨⟨q,rfl,k⟩,c⟩
 refine ⟨?_,c⟩
 have:q=fineB r:=fineB_of k
 rw [this]
set_option maxRecDepth 4000 in
set_option maxHeartbeats 1000000 in
theorem placesOk_x (t:Int) (gs:List G.GrantD) (ps:List PlaceD) (a1 a2:Option Addr) (cp1 cp2:Nat) (w:World) (hA:LandX w gs ps a1 a2) (hcp:∀ r∈ps,r.ws.length≤r.c) (hF:Fit gs ps) :
  Calls Tryz.prog 37 #[.agg #[.int .i64 t,.slice a1 gs.length cp1,.slice a2 ps.length cp2]] w fun e w'=>(∃ q:Bool,e=.returned (.bool q)∧SaysP q ps)∧Below w.heap.size w w':=by
 have HA:=hidP hA
 have HF:=hidP hF
 have HCP:=hidP hcp
 clear hcp
 have hpl:=hF.pl
 clear hA hF
 by_cases h4:ps.length≤4
 ·
  have hi4:(ps.length:Int)≤4:=by omega
  go_enter Tryz.func37,Tryz.ntmps37
  go_wp2_with fail
  have hb0:Below w.heap.size w (w.alloc (.cells #[.int .i64 t,.slice a1 gs.length cp1,.slice a2 ps.length cp2] 26)):=bl_alloc bR _
  refine (ascends_x a2 cp2 ps _ (HA.out.keep hb0).p hpl).mono ?_
  rintro e w1 ⟨⟨q1,rfl,k1⟩,c1⟩
  have B1:=hidP (bl_trans hb0 c1)
  have H0:=hidP k1
  obtain ⟨kb,kz⟩:=ml_boxx c1
  clear k1 hb0 c1
  cases q1
  ·
   go_wp2
   go_ret
   exact ⟨⟨false,rfl,⟨fun h=>(by cases h),fun h=>by have:=H0.out.2 h.2.1; cases this⟩⟩,B1.out⟩
  have H1:=hidP (H0.out.1 rfl)
  clear H0
  go_wp2_with fail
  refine (allOk_x fineB a2 cp2 ps w1 (HA.out.keep B1.out).p hpl (fun r hr x hx=>placeOk_x r x ⟨((HA.out.keep B1.out).k r hr).keep hx,HCP.out r hr⟩ (HF.out.p r hr).1 (HF.out.p r hr).2 (HF.out.ln r hr))).mono ?_
  rintro e w2 ⟨⟨q2,rfl,k2⟩,c2⟩
  have B2:=hidP (bl_trans B1.out c2)
  have H2:=hidP k2
  clear c2 k2 kb
  go_wp2
  go_ret
  exact ⟨⟨q2,rfl,⟨fun h=>⟨h4,H1.out,fun p hp=>(fineB_iff p).1 (H2.out.1 h p hp)⟩,fun h=>H2.out.2 (fun p hp=>(fineB_iff p).2 (h.2.2 p hp))⟩⟩,B2.out⟩
 ·
  have hi4:(4:Int) < (ps.length:Int):=by omega
  have H4:=hidP h4
  clear h4
  go_enter Tryz.func37,Tryz.ntmps37
  go_wp2
  go_ret
  first
  | exact ⟨Or.inl ⟨rfl,⟨fun h=>(by cases h),fun h=>absurd h.1 H4.out⟩⟩,bl_alloc bR _⟩
  | exact ⟨⟨false,rfl,⟨fun h=>(by cases h),fun h=>absurd h.1 H4.out⟩⟩,bl_alloc bR _⟩
set_option maxRecDepth 4000 in
set_option maxHeartbeats 1000000 in
theorem holdApart_x (t:Int) (gs:List G.GrantD) (ps:List PlaceD) (a1 a2:Option Addr) (cp1 cp2:Nat) (w:World) (hA:LandX w gs ps a1 a2) (hF:Fit gs ps) (h4:ps.length≤4) (h10:∀ p∈ps,p.ws.length≤10) :
  Calls Tryz.prog 38 #[.agg #[.int .i64 t,.slice a1 gs.length cp1,.slice a2 ps.length cp2]] w fun e w'=>(∃ q:Bool,e=.returned (.bool q)∧SaysH q ps)∧Below w.heap.size w w':=by
 have HA:=hidP hA
 have H10:=hidP h10
 obtain ⟨i0,hi,hz0,hz1,hz2⟩:=info_parts W.infoR
 clear hA hF h10
 go_enter Tryz.func38,Tryz.ntmps38
 go_wp2
 go_loopw [3,9] (fun v i wx=>∃ (k:Nat),k≤ps.length∧i=.int .i64 k∧wx.ownsRow (w.heap.size+1) 56 7 v ((ps.take k).flatMap (·.ws)).length (W.flatR ((ps.take k).flatMap (·.ws)))∧Below (w.alloc (.cells #[.int .i64 t,.slice a1 gs.length cp1,.slice a2 ps.length cp2] 26)).heap.size (w.alloc (.cells #[.int .i64 t,.slice a1 gs.length cp1,.slice a2 ps.length cp2] 26)) wx) (fun _ i _=>ps.length - (intOf i).toNat)
 case atStart=>exact ⟨0,Nat.zero_le _,rfl,World.ownsRow_nil _ _ _ _,Below.refl _ _⟩
 case round =>
  obtain ⟨k,hk,rfl,hown,hB⟩:=hrel
  by_cases hlt:k < ps.length
  ·
   obtain ⟨p,hp⟩:∃ p,ps[k]?=some p:=⟨ps[k],List.getElem?_eq_getElem hlt⟩
   have Hp:=hidP hp
   have hA1:=HA.out.keep (bl_trans (bl_alloc bR _) hB)
   obtain ⟨b2,rfl,hb2,hR2⟩:=hA1.p.resolve_left (fun h=>by rw [h] at hlt; simp at hlt)
   obtain ⟨d0,d1,d2⟩:=hR2.at hp
   simp only [Nat.zero_add] at d0 d1 d2
   have Hsrc:=hidP (hA1.k p (List.mem_of_getElem? hp))
   have hw10:p.ws.length≤10:=H10.out p (List.mem_of_getElem? hp)
   obtain ⟨n,hn⟩:∃ n,n=((ps.take k).flatMap (·.ws)).length:=⟨_,rfl⟩
   obtain ⟨xs,hxs⟩:∃ xs,xs=W.flatR ((ps.take k).flatMap (·.ws)):=⟨_,rfl⟩
   have hnk:n≤40:=by
    rw [hn]
    have h1:=flat_len (ps.take k) (fun q hq=>H10.out q (List.mem_of_mem_take hq))
    have h2:(ps.take k).length≤4:=by rw [List.length_take]; omega
    omega
   rw [← hn,← hxs] at hown
   have Ho:=hidP hown
   have Hn:=hidP hn
   have Hx:=hidP hxs
   have hz:w.heap.size+1≤wr.heap.size:=by have:=hB.size; simpa using this
   clear hp hown hn hxs hA1 hR2 hb2
   go_wp2_with (at_builtin; refine W.wp_app_src (w.heap.size+1) rfl _ _ rfl n _ _ rfl (by exact owns_below Ho.out (by repeat (first | exact Below.refl _ _ | refine bl_alloc ?_ _))) p.ws p.a p.c (by first | rfl | simp [Act.eval]) (by exact Hsrc.out.keep (by repeat (first | exact Below.refl _ _ | refine bl_alloc ?_ _))) (by omega) (by omega) (by simp; omega) ?_; intro v' w2 ho2 hg2)
   refine ⟨⟨k+1,by omega,by go_num, ?_,Below.grown (by repeat (first | exact hB | refine bl_alloc ?_ _)) hg2 (by simp; omega) (fun j hj=>by have:=owns_ge Ho.out j hj; simpa using this)⟩,by simp [intOf]; omega⟩
   rw [flat_step Hp.out,List.length_append,flatW_append,← Hn.out,← Hx.out]
   exact ho2
  have hk':k=ps.length:=by omega
  subst hk'
  rw [List.take_of_length_le (Nat.le_refl _)] at hown
  obtain ⟨a,c,rfl,hc,hG⟩:=sl_gv hown
  have HG:=hidP hG
  have hlen:(ps.flatMap (·.ws)).length≤1048576:=by
   have h1:=flat_len ps H10.out
   omega
  obtain ⟨l,hl⟩:∃ l,l=ps.flatMap (·.ws):=⟨_,rfl⟩
  have Hl:=hidP hl
  rw [← hl] at hc hlen ⊢
  have HG2:Hid (W.Gv wr a l):=by rw [hl]; exact HG.out
  have HB:Hid (Below w.heap.size w wr):=bl_trans (bl_alloc bR _) hB
  clear hl hown hG HG hB
  go_wp2_with fail
  refine (W.holdsDiffer2 a c l _ HG2.out hc hlen).mono ?_
  rintro e w3 ⟨⟨q,rfl,kq⟩,c3⟩
  have K:=hidP kq
  have B3:=hidP (bl_trans HB.out c3)
  clear kq c3
  go_wp2
  go_ret
  exact ⟨⟨q,rfl,by unfold SaysH; rw [← Hl.out]; exact K.out⟩,B3.out⟩
theorem three_landx {w w':World} {t:Int} {gs:List G.GrantD} {ps:List PlaceD} {a1 a2:Option Addr} {cp1 cp2:Nat} (hb:Below ((((w.alloc (.cells #[.int .i64 t,.slice a1 gs.length cp1,.slice a2 ps.length cp2] 26))).alloc (.cells #[.func (.func 35) #[] #[],.func (.func 36) #[] #[],.func (.func 37) #[] #[],.func (.func 38) #[] #[]] 38)).alloc (.cells #[.int .i64 t,.slice a1 gs.length cp1,.slice a2 ps.length cp2] 26)).heap.size ((((w.alloc (.cells #[.int .i64 t,.slice a1 gs.length cp1,.slice a2 ps.length cp2] 26))).alloc (.cells #[.func (.func 35) #[] #[],.func (.func 36) #[] #[],.func (.func 37) #[] #[],.func (.func 38) #[] #[]] 38)).alloc (.cells #[.int .i64 t,.slice a1 gs.length cp1,.slice a2 ps.length cp2] 26)) w') :
  (∀ k,w'.cell? ⟨w.heap.size+1,k,none⟩=(#[.func (.func 35) #[] #[],.func (.func 36) #[] #[],.func (.func 37) #[] #[],.func (.func 38) #[] #[]]:Array Value)[k]?)∧(∀ k,w'.cell? ⟨w.heap.size+1+1,k,none⟩=(#[.int .i64 t,.slice a1 gs.length cp1,.slice a2 ps.length cp2]:Array Value)[k]?):=by
 constructor
 ·
  intro k
  rw [hb.cell (p:=⟨w.heap.size+1,k,none⟩) (by simp)]
  simp [go_sem,World.cell?_alloc_past]
 ·
  intro k
  rw [hb.cell (p:=⟨w.heap.size+1+1,k,none⟩) (by simp)]
  simp [go_sem]
set_option maxRecDepth 4000 in
set_option maxHeartbeats 2000000 in
theorem implLandOk_x (t:Int) (gs:List G.GrantD) (ps:List PlaceD) (a1 a2:Option Addr) (cp1 cp2:Nat) (w:World) (hA:LandX w gs ps a1 a2) (hcp:∀ r∈ps,r.ws.length≤r.c) (hF:Fit gs ps) :
  Calls Tryz.prog 12 #[.agg #[.int .i64 t,.slice a1 gs.length cp1,.slice a2 ps.length cp2]] w fun e w'=>(∃ q:Bool,e=.returned (.bool q)∧SaysL q t gs ps)∧Below w.heap.size w w':=by
 have Hx0:Hid (Below w.heap.size w ((((w.alloc (.cells #[.int .i64 t,.slice a1 gs.length cp1,.slice a2 ps.length cp2] 26))).alloc (.cells #[.func (.func 35) #[] #[],.func (.func 36) #[] #[],.func (.func 37) #[] #[],.func (.func 38) #[] #[]] 38)).alloc (.cells #[.int .i64 t,.slice a1 gs.length cp1,.slice a2 ps.length cp2] 26))):=bl_alloc (bl_alloc (bl_alloc bR _) _) _
 have HA0:=hidP (hA.keep Hx0.out)
 have HF:=hidP hF
 have HCP:=hidP hcp
 clear hcp
 clear hA hF
 have hbv:=build_land
 go_enter Tryz.func12,Tryz.ntmps12
 go_wp2_with go_in
 clear hbv
 refine wp_loop_rounds 5 ?_
 rw [rounds_succ]
 go_wp2_with fail
 refine (timeOk_any t _ _ _ _ _ _ _).mono ?_
 rintro e w1 ⟨rfl,c1⟩
 obtain ⟨q1,hq1⟩:∃ q,q=timeB t:=⟨_,rfl⟩
 have H1:Hid (q1=true↔timeB t=true):=by rw [hq1]; exact Iff.rfl
 rw [← hq1]
 have C1:=hidP c1
 clear hq1 c1
 obtain ⟨kf1,km1⟩:=three_landx C1.out
 cases q1
 ·
  go_wp2
  go_ret
  exact ⟨⟨false,rfl,saysL_no (fun h=>by have:=H1.out.2 h.1; cases this)⟩,bl_trans Hx0.out C1.out⟩
 have G1:=hidP (H1.out.1 rfl)
 clear H1
 have ht0:0≤t:=by have:=G1.out; simp [timeB,inB] at this; omega
 have ht1:t≤2000000:=by have:=G1.out; simp [timeB,inB] at this; omega
 have HA1:=hidP (HA0.out.keep C1.out)
 go_wp2_with fail
 rw [rounds_succ]
 go_wp2_with fail
 refine (grantsOk_x t gs ps a1 a2 cp1 cp2 _ HA1.out HF.out ht0 ht1).mono ?_
 rintro e w2 ⟨⟨q2,rfl,h2⟩,c2⟩
 have H2:=hidP h2
 have C2:=hidP (bl_trans C1.out c2)
 clear h2 c2 kf1 km1
 obtain ⟨kf2,km2⟩:=three_landx C2.out
 cases q2
 ·
  go_wp2
  go_ret
  exact ⟨⟨false,rfl,saysL_no (fun h=>by have:=H2.out.2 h.2.1; cases this)⟩,bl_trans Hx0.out C2.out⟩
 have G2:=hidP (H2.out.1 rfl)
 clear H2
 have HA2:=hidP (HA0.out.keep C2.out)
 go_wp2_with fail
 rw [rounds_succ]
 go_wp2_with fail
 refine (placesOk_x t gs ps a1 a2 cp1 cp2 _ HA2.out HCP.out HF.out).mono ?_
 rintro e w3 ⟨⟨q3,rfl,h3⟩,c3⟩
 have H3:=hidP h3
 have C3:=hidP (bl_trans C2.out c3)
 clear h3 c3 kf2 km2
 obtain ⟨kf3,km3⟩:=three_landx C3.out
 cases q3
 ·
  go_wp2
  go_ret
  exact ⟨⟨false,rfl,saysL_no (fun h=>by have:=H3.out.2 h.2.2.1; cases this)⟩,bl_trans Hx0.out C3.out⟩
 have G3:=hidP (H3.out.1 rfl)
 clear H3
 have HA3:=hidP (HA0.out.keep C3.out)
 go_wp2_with fail
 rw [rounds_succ]
 go_wp2_with fail
 refine (holdApart_x t gs ps a1 a2 cp1 cp2 _ HA3.out HF.out G3.out.1 (fun p hp=>(G3.out.2.2 p hp).2.2.1)).mono ?_
 rintro e w4 ⟨⟨q4,rfl,h4⟩,c4⟩
 have H4:=hidP (h4.trans (apart_iff ps G3.out.2.2))
 have C4:=hidP (bl_trans C3.out c4)
 clear h4 c4 kf3 km3
 obtain ⟨kf4,km4⟩:=three_landx C4.out
 cases q4
 ·
  go_wp2
  go_ret
  exact ⟨⟨false,rfl,saysL_no (fun h=>by have:=H4.out.2 h.2.2.2; cases this)⟩,bl_trans Hx0.out C4.out⟩
 have G4:=hidP (H4.out.1 rfl)
 clear H4
 have HA4:=hidP (HA0.out.keep C4.out)
 go_wp2_with fail
 rw [rounds_succ]
 go_wp2
 go_ret
 exact ⟨⟨true,rfl,⟨fun _=>⟨G1.out,G2.out,G3.out,G4.out⟩,fun _=>rfl⟩⟩,bl_trans Hx0.out C4.out⟩
end Go.Proofs.YtcjhlhijdacinaaGreatDoor.P
namespace Go.Proofs.YtcjhlhijdacinaaGreatDoor.P
open Go.RowKit
set_option linter.unusedVariables false
def Cross (p q:PlaceD):Prop:=∀ x∈p.ws,∀ y∈q.ws,W.clash x y=false
def ApN (ps:List PlaceD) (k:Nat):Prop:=∀ i j p q,i < j→j < k→ps[i]?=some p→ps[j]?=some q→Cross p q
def Cr (ps:List PlaceD) (p:PlaceD) (n:Nat):Prop:=∀ i q,i < n→ps[i]?=some q→Cross q p
def CrJ (q p:PlaceD) (n:Nat):Prop:=∀ j y,j < n→p.ws[j]?=some y→∀ x∈q.ws,W.clash x y=false
def CrN (q:PlaceD) (y:W.WantD) (n:Nat):Prop:=∀ j x,j < n→q.ws[j]?=some x→W.clash x y=false
def FineN (ps:List PlaceD) (k:Nat):Prop:=∀ j p,j < k→ps[j]?=some p→p.fine
def SaysQ (q:Bool) (ps:List PlaceD):Prop:=q=true↔PlacesSay ps∧Apart ps
theorem saysQ_no {ps:List PlaceD} (h:PlacesSay ps→Apart ps→False):SaysQ false ps:=⟨fun h'=>(by cases h'),fun h'=>(h h'.1 h'.2).elim⟩
theorem ApN.step {ps:List PlaceD} {k:Nat} {p:PlaceD} (h:ApN ps k) (hp:ps[k]?=some p) (hc:Cr ps p k):ApN ps (k+1):=by
 intro i j q r hij hj hq hr
 by_cases e:j=k
 · subst e; rw [hp] at hr; cases hr; exact hc i q hij hq
 exact h i j q r hij (by omega) hq hr
theorem FineN.step {ps:List PlaceD} {k:Nat} {p:PlaceD} (h:FineN ps k) (hp:ps[k]?=some p) (hc:p.fine):FineN ps (k+1):=by
 intro j q hj hq
 by_cases e:j=k
 · subst e; rw [hp] at hq; cases hq; exact hc
 exact h j q (by omega) hq
theorem Cr.step {ps:List PlaceD} {p q:PlaceD} {n:Nat} (h:Cr ps p n) (hq:ps[n]?=some q) (hc:Cross q p):Cr ps p (n+1):=by
 intro i r hi hr
 by_cases e:i=n
 · subst e; rw [hq] at hr; cases hr; exact hc
 exact h i r (by omega) hr
theorem CrJ.step {q p:PlaceD} {n:Nat} {y:W.WantD} (h:CrJ q p n) (hy:p.ws[n]?=some y) (hc:∀ x∈q.ws,W.clash x y=false):CrJ q p (n+1):=by
 intro j z hj hz
 by_cases e:j=n
 · subst e; rw [hy] at hz; cases hz; exact hc
 exact h j z (by omega) hz
theorem CrN.step {q:PlaceD} {y x:W.WantD} {n:Nat} (h:CrN q y n) (hx:q.ws[n]?=some x) (hc:W.clash x y=false):CrN q y (n+1):=by
 intro j z hj hz
 by_cases e:j=n
 · subst e; rw [hx] at hz; cases hz; exact hc
 exact h j z (by omega) hz
theorem CrN.all {q:PlaceD} {y:W.WantD} {n:Nat} (h:CrN q y n) (hn:q.ws.length≤n):∀ x∈q.ws,W.clash x y=false:=by
 intro x hx
 obtain ⟨j,hj⟩:=List.getElem?_of_mem hx
 have:=(List.getElem?_eq_some_iff.1 hj).1
 exact h j x (by omega) hj
theorem CrJ.all {q p:PlaceD} {n:Nat} (h:CrJ q p n) (hn:p.ws.length≤n):Cross q p:=by
 intro x hx y hy
 obtain ⟨j,hj⟩:=List.getElem?_of_mem hy
 have:=(List.getElem?_eq_some_iff.1 hj).1
 exact h j y (by omega) hj x hx
theorem apart_at {ps:List PlaceD} {i j:Nat} {p q:PlaceD} (h:Apart ps) (hij:i < j) (hp:ps[i]?=some p) (hq:ps[j]?=some q):Cross p q:=by
 obtain ⟨hi,rfl⟩:=List.getElem?_eq_some_iff.1 hp
 obtain ⟨hj,rfl⟩:=List.getElem?_eq_some_iff.1 hq
 exact List.pairwise_iff_getElem.1 h i j hi hj hij
theorem ApN.apart {ps:List PlaceD} {k:Nat} (h:ApN ps k) (hk:ps.length≤k):Apart ps :=
 List.pairwise_iff_getElem.2 (fun i j hi hj hij=>h i j ps[i] ps[j] hij (by omega) (List.getElem?_eq_getElem hi) (List.getElem?_eq_getElem hj))
theorem FineN.all {ps:List PlaceD} {k:Nat} (h:FineN ps k) (hk:ps.length≤k):∀ p∈ps,p.fine:=by
 intro p hp
 obtain ⟨j,hj⟩:=List.getElem?_of_mem hp
 have:=(List.getElem?_eq_some_iff.1 hj).1
 exact h j p (by omega) hj
theorem bl_dn {k:Nat} {w w':World} (h:Below k w w') {n:Nat}:Below k w (w'.drewN n):=⟨h.os,h.tape,h.output,h.size,h.block⟩
end Go.Proofs.YtcjhlhijdacinaaGreatDoor.P
