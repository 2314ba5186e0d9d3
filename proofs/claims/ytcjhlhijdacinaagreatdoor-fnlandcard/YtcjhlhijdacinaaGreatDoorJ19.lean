import Derived.Test.YtcjhlhijdacinaaGreatDoorJ18
namespace Go.Proofs.YtcjhlhijdacinaaGreatDoor.P
open Go.RowKit
set_option linter.unusedVariables false
theorem ml_box2x {w w':World} {t:Int} {gs:List G.GrantD} {ps:List PlaceD} {a1 a2:Option Addr} {cp1 cp2:Nat} (hb:Below (w.alloc (.cells #[.int .i64 t,.slice a1 gs.length cp1,.slice a2 ps.length cp2] 26)).heap.size (w.alloc (.cells #[.int .i64 t,.slice a1 gs.length cp1,.slice a2 ps.length cp2] 26)) w'):(∀ k,w'.cell? ⟨w.heap.size,k,none⟩=(#[.int .i64 t,.slice a1 gs.length cp1,.slice a2 ps.length cp2]:Array Value)[k]?)∧w.heap.size < w'.heap.size:=by
 constructor
 ·
  intro k
  rw [hb.cell (p:=⟨w.heap.size,k,none⟩) (by simp)]
  simp [go_sem]
 have:=hb.size; simp at this; omega
set_option maxRecDepth 4000 in
set_option maxHeartbeats 4000000 in
theorem specLandOk_x (t:Int) (gs:List G.GrantD) (ps:List PlaceD) (a1 a2:Option Addr) (cp1 cp2:Nat) (w:World) (hA:LandX w gs ps a1 a2) (hF:Fit gs ps) :
  Calls Tryz.prog 11 #[.agg #[.int .i64 t,.slice a1 gs.length cp1,.slice a2 ps.length cp2]] w fun e w'=>(∃ q:Bool,e=.returned (.bool q)∧SaysL q t gs ps)∧Below w.heap.size w w':=by
 have Hb0:Hid (Below w.heap.size w (w.alloc (.cells #[.int .i64 t,.slice a1 gs.length cp1,.slice a2 ps.length cp2] 26))):=bl_alloc bR _
 have HA:=hidP (hA.keep Hb0.out)
 have HF:=hidP hF
 have hgl:=hF.gl
 clear hA hF
 cases p1:inB t 0 2000000
 ·
  go_enter Tryz.func11,Tryz.ntmps11
  go_wp2_with (go_at_call 27; refine (specIn_any _ _ _ _).mono ?_; rintro e w' ⟨rfl,rfl⟩)
  go_ret
  exact ⟨⟨false,rfl,saysL_no2 (fun h=>by have:=h.1; simp [timeB,p1] at this)⟩,Hb0.out⟩
 have ht0:0≤t:=by simp [inB] at p1; omega
 have ht1:t≤2000000:=by simp [inB] at p1; omega
 have iw5:IntKind.i64.wrap (t+32)=t+32:=by rw [IntKind.wrap_i64]; omega
 by_cases p2:t % 2=0
 ·
  by_cases h40:gs.length≤40
  ·
   have hi40:(gs.length:Int)≤40:=by omega
   have HT:Hid (timeB t=true):=by show timeB t=true; simp [timeB,p1,p2]
   go_enter Tryz.func11,Tryz.ntmps11
   go_wp2_with (go_at_call 27; refine (specIn_any _ _ _ _).mono ?_; rintro e w' ⟨rfl,rfl⟩)
   go_loopw [3] (fun i wx=>∃ (k:Nat),k≤gs.length∧i=.int .i64 k∧Hid (G.AscN gs k)∧Hid (EachG t gs k)∧Hid (Below (w.alloc (.cells #[.int .i64 t,.slice a1 gs.length cp1,.slice a2 ps.length cp2] 26)).heap.size (w.alloc (.cells #[.int .i64 t,.slice a1 gs.length cp1,.slice a2 ps.length cp2] 26)) wx)) (fun i _=>gs.length - (intOf i).toNat)
   case atStart=>exact ⟨0,Nat.zero_le _,rfl,(fun j q r hj _ _=>by omega),(fun j r hj _=>by omega),Below.refl _ _⟩
   obtain ⟨k,hk,rfl,Ha,He,HB⟩:=hrel
   obtain ⟨kb,kz⟩:=ml_box2x HB.out
   by_cases hlt:k < gs.length
   ·
    obtain ⟨r,hr⟩:∃ r,gs[k]?=some r:=⟨gs[k],List.getElem?_eq_getElem hlt⟩
    obtain ⟨hf1,hf2,hf3⟩:=HF.out.g r (List.mem_of_getElem? hr)
    have Hr:=hidP hr
    have hA1:=HA.out.keep HB.out
    obtain ⟨b1,hb1,bz,hR1⟩:=hA1.g.resolve_left (fun h=>by rw [h] at hlt; simp at hlt)
    subst hb1
    obtain ⟨c0,c1,c2,c3,c4⟩:=hR1.at hr
    have i0':(0:Int)≤(k:Int):=by omega
    have i1':(k:Int) < (gs.length:Int):=by omega
    clear hr
    cases k with
    | zero =>
     simp only [Nat.zero_mul,Nat.add_zero,Nat.zero_add] at c0 c1 c2 c3 c4
     have i00:(0:Int) < (gs.length:Int):=by omega
     cases q1:holdB r.h
     ·
      go_wp2_with fail
      go_quiet (first | (go_at_call 26; refine Calls.quiet_of_same (specHold_any r.h _ hf1)) | (go_at_call 25; refine Calls.quiet_of_same (specName_any _ _ (by first | exact hf2 | exact hf3))) | (go_at_call 27; refine Calls.quiet_of_same (specIn_any _ _ _ _)))
      go_wp2
      go_ret
      exact ⟨⟨false,rfl,saysL_no2 (fun h=>by have h':=h.2.1.2.2 r (List.mem_of_getElem? Hr.out); simp [grantB, *] at h')⟩,bl_trans Hb0.out (bl_dn (bl_alloc HB.out _))⟩
     cases q2:nameB r.b
     ·
      go_wp2_with fail
      go_quiet (first | (go_at_call 26; refine Calls.quiet_of_same (specHold_any r.h _ hf1)) | (go_at_call 25; refine Calls.quiet_of_same (specName_any _ _ (by first | exact hf2 | exact hf3))) | (go_at_call 27; refine Calls.quiet_of_same (specIn_any _ _ _ _)))
      go_wp2
      go_ret
      exact ⟨⟨false,rfl,saysL_no2 (fun h=>by have h':=h.2.1.2.2 r (List.mem_of_getElem? Hr.out); simp [grantB, *] at h')⟩,bl_trans Hb0.out (bl_dn (bl_alloc HB.out _))⟩
     cases q3:nameB r.c
     ·
      go_wp2_with fail
      go_quiet (first | (go_at_call 26; refine Calls.quiet_of_same (specHold_any r.h _ hf1)) | (go_at_call 25; refine Calls.quiet_of_same (specName_any _ _ (by first | exact hf2 | exact hf3))) | (go_at_call 27; refine Calls.quiet_of_same (specIn_any _ _ _ _)))
      go_wp2
      go_ret
      exact ⟨⟨false,rfl,saysL_no2 (fun h=>by have h':=h.2.1.2.2 r (List.mem_of_getElem? Hr.out); simp [grantB, *] at h')⟩,bl_trans Hb0.out (bl_dn (bl_alloc HB.out _))⟩
     cases q4:inB r.t 0 1000000
     ·
      go_wp2_with fail
      go_quiet (first | (go_at_call 26; refine Calls.quiet_of_same (specHold_any r.h _ hf1)) | (go_at_call 25; refine Calls.quiet_of_same (specName_any _ _ (by first | exact hf2 | exact hf3))) | (go_at_call 27; refine Calls.quiet_of_same (specIn_any _ _ _ _)))
      go_wp2
      go_ret
      exact ⟨⟨false,rfl,saysL_no2 (fun h=>by have h':=h.2.1.2.2 r (List.mem_of_getElem? Hr.out); simp [grantB, *] at h')⟩,bl_trans Hb0.out (bl_dn (bl_alloc HB.out _))⟩
     cases q5:inB r.u 0 (t+32)
     ·
      go_wp2_with fail
      go_quiet (first | (go_at_call 26; refine Calls.quiet_of_same (specHold_any r.h _ hf1)) | (go_at_call 25; refine Calls.quiet_of_same (specName_any _ _ (by first | exact hf2 | exact hf3))) | (go_at_call 27; refine Calls.quiet_of_same (specIn_any _ _ _ _)))
      go_wp2
      go_ret
      exact ⟨⟨false,rfl,saysL_no2 (fun h=>by have h':=h.2.1.2.2 r (List.mem_of_getElem? Hr.out); simp [grantB, *] at h')⟩,bl_trans Hb0.out (bl_dn (bl_alloc HB.out _))⟩
     go_wp2_with fail
     go_quiet (first | (go_at_call 26; refine Calls.quiet_of_same (specHold_any r.h _ hf1)) | (go_at_call 25; refine Calls.quiet_of_same (specName_any _ _ (by first | exact hf2 | exact hf3))) | (go_at_call 27; refine Calls.quiet_of_same (specIn_any _ _ _ _)))
     go_wp2
     exact ⟨⟨0+1,by omega,by go_num,(fun j q r hj _ _=>by omega),He.out.step Hr.out (by simp [grantB, *]),bl_dn (bl_alloc HB.out _)⟩,by simp [intOf]; omega⟩
    | succ m =>
     simp only [Nat.zero_add] at c0 c1 c2 c3 c4
     obtain ⟨q,hq⟩:∃ q,gs[m]?=some q:=⟨gs[m],List.getElem?_eq_getElem (by omega)⟩
     have Hq:=hidP hq
     obtain ⟨e0,-⟩:=hR1.at hq
     simp only [Nat.zero_add] at e0
     clear hq
     have i0:(0:Int)≤(m:Int):=by omega
     have i1:(m:Int)+1 < (gs.length:Int):=by omega
     have i2:(m:Int) < (gs.length:Int):=by omega
     have iw:IntKind.i64.wrap (m:Int)=(m:Int):=by rw [IntKind.wrap_i64]; omega
     clear hA1 hR1
     cases q1:holdB r.h
     ·
      go_wp2_with fail
      go_quiet (first | (go_at_call 26; refine Calls.quiet_of_same (specHold_any r.h _ hf1)) | (go_at_call 25; refine Calls.quiet_of_same (specName_any _ _ (by first | exact hf2 | exact hf3))) | (go_at_call 27; refine Calls.quiet_of_same (specIn_any _ _ _ _)))
      go_wp2
      go_ret
      exact ⟨⟨false,rfl,saysL_no2 (fun h=>by have h':=h.2.1.2.2 r (List.mem_of_getElem? Hr.out); simp [grantB, *] at h')⟩,bl_trans Hb0.out (bl_dn (bl_alloc HB.out _))⟩
     cases q2:nameB r.b
     ·
      go_wp2_with fail
      go_quiet (first | (go_at_call 26; refine Calls.quiet_of_same (specHold_any r.h _ hf1)) | (go_at_call 25; refine Calls.quiet_of_same (specName_any _ _ (by first | exact hf2 | exact hf3))) | (go_at_call 27; refine Calls.quiet_of_same (specIn_any _ _ _ _)))
      go_wp2
      go_ret
      exact ⟨⟨false,rfl,saysL_no2 (fun h=>by have h':=h.2.1.2.2 r (List.mem_of_getElem? Hr.out); simp [grantB, *] at h')⟩,bl_trans Hb0.out (bl_dn (bl_alloc HB.out _))⟩
     cases q3:nameB r.c
     ·
      go_wp2_with fail
      go_quiet (first | (go_at_call 26; refine Calls.quiet_of_same (specHold_any r.h _ hf1)) | (go_at_call 25; refine Calls.quiet_of_same (specName_any _ _ (by first | exact hf2 | exact hf3))) | (go_at_call 27; refine Calls.quiet_of_same (specIn_any _ _ _ _)))
      go_wp2
      go_ret
      exact ⟨⟨false,rfl,saysL_no2 (fun h=>by have h':=h.2.1.2.2 r (List.mem_of_getElem? Hr.out); simp [grantB, *] at h')⟩,bl_trans Hb0.out (bl_dn (bl_alloc HB.out _))⟩
     cases q4:inB r.t 0 1000000
     ·
      go_wp2_with fail
      go_quiet (first | (go_at_call 26; refine Calls.quiet_of_same (specHold_any r.h _ hf1)) | (go_at_call 25; refine Calls.quiet_of_same (specName_any _ _ (by first | exact hf2 | exact hf3))) | (go_at_call 27; refine Calls.quiet_of_same (specIn_any _ _ _ _)))
      go_wp2
      go_ret
      exact ⟨⟨false,rfl,saysL_no2 (fun h=>by have h':=h.2.1.2.2 r (List.mem_of_getElem? Hr.out); simp [grantB, *] at h')⟩,bl_trans Hb0.out (bl_dn (bl_alloc HB.out _))⟩
     cases q5:inB r.u 0 (t+32)
     ·
      go_wp2_with fail
      go_quiet (first | (go_at_call 26; refine Calls.quiet_of_same (specHold_any r.h _ hf1)) | (go_at_call 25; refine Calls.quiet_of_same (specName_any _ _ (by first | exact hf2 | exact hf3))) | (go_at_call 27; refine Calls.quiet_of_same (specIn_any _ _ _ _)))
      go_wp2
      go_ret
      exact ⟨⟨false,rfl,saysL_no2 (fun h=>by have h':=h.2.1.2.2 r (List.mem_of_getElem? Hr.out); simp [grantB, *] at h')⟩,bl_trans Hb0.out (bl_dn (bl_alloc HB.out _))⟩
     cases hasc:Op.bytesLess q.h.toList r.h.toList
     ·
      go_wp2_with fail
      go_quiet (first | (go_at_call 26; refine Calls.quiet_of_same (specHold_any r.h _ hf1)) | (go_at_call 25; refine Calls.quiet_of_same (specName_any _ _ (by first | exact hf2 | exact hf3))) | (go_at_call 27; refine Calls.quiet_of_same (specIn_any _ _ _ _)))
      go_wp2
      go_ret
      exact ⟨⟨false,rfl,saysL_no2 (fun h=>by have h':=h.2.1.2.1 m q r (by omega) Hq.out Hr.out; rw [hasc] at h'; cases h')⟩,bl_trans Hb0.out (bl_dn (bl_alloc HB.out _))⟩
     go_wp2_with fail
     go_quiet (first | (go_at_call 26; refine Calls.quiet_of_same (specHold_any r.h _ hf1)) | (go_at_call 25; refine Calls.quiet_of_same (specName_any _ _ (by first | exact hf2 | exact hf3))) | (go_at_call 27; refine Calls.quiet_of_same (specIn_any _ _ _ _)))
     go_wp2
     exact ⟨⟨m+1+1,by omega,by go_num,Ha.out.step Hq.out Hr.out hasc,He.out.step Hr.out (by simp [grantB, *]),bl_dn (bl_alloc HB.out _)⟩,by simp [intOf]; omega⟩
   have HG:Hid (GrantsSay t gs):=⟨h40,(fun j q r hj hq hr=>Ha.out j q r (by omega) hq hr),fun r hr=>by
    obtain ⟨j,hj⟩:=List.getElem?_of_mem hr
    have:=(List.getElem?_eq_some_iff.1 hj).1
    exact He.out j r (by omega) hj⟩
   have hA1:=HA.out.keep HB.out
   go_wp2_with fail
   refine (specPlaces_x gs ps a1 a2 cp2 _ hA1 HF.out).mono ?_
   rintro e w2 ⟨⟨q,rfl,kq⟩,c2⟩
   have K:=hidP kq
   have B2:=hidP (bl_trans Hb0.out (bl_trans HB.out c2))
   clear kq c2 hA1 kb
   go_wp2
   go_ret
   exact ⟨⟨q,rfl,⟨fun h=>⟨HT.out,HG.out,(K.out.1 h).1,(K.out.1 h).2⟩,fun h=>K.out.2 ⟨h.2.2.1,h.2.2.2⟩⟩⟩,B2.out⟩
  have hi40:(40:Int) < (gs.length:Int):=by omega
  have H40:=hidP h40
  clear h40
  go_enter Tryz.func11,Tryz.ntmps11
  go_wp2_with (go_at_call 27; refine (specIn_any _ _ _ _).mono ?_; rintro e w' ⟨rfl,rfl⟩)
  go_ret
  first
  | exact ⟨Or.inl ⟨rfl,saysL_no2 (fun h=>absurd h.2.1.1 H40.out)⟩,Hb0.out⟩
  | exact ⟨⟨false,rfl,saysL_no2 (fun h=>absurd h.2.1.1 H40.out)⟩,Hb0.out⟩
 ·
  have HP2:=hidP p2
  have p3:(t % 2 == 0)=false:=by simpa using p2
  clear p2
  go_enter Tryz.func11,Tryz.ntmps11
  go_wp2_with (go_at_call 27; refine (specIn_any _ _ _ _).mono ?_; rintro e w' ⟨rfl,rfl⟩)
  go_ret
  first
  | exact ⟨Or.inl ⟨rfl,saysL_no2 (fun h=>HP2.out (by have:=h.1; simp [timeB] at this; exact this.2))⟩,Hb0.out⟩
  | exact ⟨⟨false,rfl,saysL_no2 (fun h=>HP2.out (by have:=h.1; simp [timeB] at this; exact this.2))⟩,Hb0.out⟩
end Go.Proofs.YtcjhlhijdacinaaGreatDoor.P
