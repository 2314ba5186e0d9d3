import Derived.Test.YtcjhlhijdacinaaGreatDoorJ17
import Derived.Test.YtcjhlhijdacinaaGreatDoorJ07
namespace Go.Proofs.YtcjhlhijdacinaaGreatDoor.P
open Go.RowKit
set_option linter.unusedVariables false
structure LandY (w:World) (ps:List PlaceD) (b2:Nat):Prop where
 p:RowsAt w b2 0 ps
 p1:b2 < w.heap.size
 k:∀ r∈ps,W.Src w r.a r.c r.ws
theorem LandY.keep {w w':World} {ps:List PlaceD} {b2:Nat} (h:LandY w ps b2) (hb:Below w.heap.size w w'):LandY w' ps b2 :=
 ⟨h.p.keep h.p1 hb,Nat.lt_of_lt_of_le h.p1 hb.size,fun r hr=>(h.k r hr).keep hb⟩
theorem placesx_zero (a:Option Addr) (cap:Nat) (w:World):Calls Tryz.prog 33 #[.slice a 0 cap] w fun e w'=>e=.returned (.bool true)∧w'=w:=by
 go_enter Tryz.func33,Tryz.ntmps33
 go_wp2
 refine wp_loop_rounds 1 ?_
 rw [rounds_succ]
 go_wp2
 go_ret
 exact ⟨rfl,rfl⟩
theorem keepXx {wr w':World} {pb:ByteArray} {s:Int} {pa:Option Addr} {pc:Nat} {pw:List W.WantD} (hb:Below (wr.alloc (.cells #[.string pb,.int .i64 s,.slice pa pw.length pc] 54)).heap.size (wr.alloc (.cells #[.string pb,.int .i64 s,.slice pa pw.length pc] 54)) w'):Below (wr.alloc (.cells #[.string pb,.int .i64 s,.slice pa pw.length pc] 54)).heap.size (wr.alloc (.cells #[.string pb,.int .i64 s,.slice pa pw.length pc] 54)) w'∧(w'.cell? ⟨wr.heap.size,0,none⟩=some (.string pb)∧w'.cell? ⟨wr.heap.size,1,none⟩=some (.int .i64 s)∧w'.cell? ⟨wr.heap.size,2,none⟩=some (.slice pa pw.length pc)):=by
 refine ⟨hb, ?_, ?_, ?_⟩ <;> (rw [hb.cell (by simp)]; simp [go_sem])
theorem keepYx {wr w':World} {pb:ByteArray} {s:Int} {pa:Option Addr} {pc b2 m:Nat} {pw:List W.WantD} {ps:List PlaceD} {q:PlaceD} (hq:ps[m]?=some q) (h1:RowsAt wr b2 0 ps) (l1:b2 < wr.heap.size) (hb:Below (wr.alloc (.cells #[.string pb,.int .i64 s,.slice pa pw.length pc] 54)).heap.size (wr.alloc (.cells #[.string pb,.int .i64 s,.slice pa pw.length pc] 54)) w'):Below (wr.alloc (.cells #[.string pb,.int .i64 s,.slice pa pw.length pc] 54)).heap.size (wr.alloc (.cells #[.string pb,.int .i64 s,.slice pa pw.length pc] 54)) w'∧(w'.cell? ⟨wr.heap.size,0,none⟩=some (.string pb)∧w'.cell? ⟨wr.heap.size,1,none⟩=some (.int .i64 s)∧w'.cell? ⟨wr.heap.size,2,none⟩=some (.slice pa pw.length pc))∧w'.cell? ⟨b2,m * 3,none⟩=some (.string q.b):=by
 have hx:Below wr.heap.size wr (wr.alloc (.cells #[.string pb,.int .i64 s,.slice pa pw.length pc] 54)):=bl_alloc bR _
 have h2:=(((h1.keep l1 hx).keep (Nat.lt_of_lt_of_le l1 hx.size) hb).at hq).1
 rw [Nat.zero_add] at h2
 exact ⟨hb,(keepXx hb).2,h2⟩
set_option maxRecDepth 4000 in
set_option maxHeartbeats 8000000 in
theorem specPlaces_y (gs:List G.GrantD) (ps:List PlaceD) (b2 cp:Nat) (w:World) (hA:LandY w ps b2) (hF:Fit gs ps) :
  Calls Tryz.prog 33 #[.slice (some ⟨b2,0,none⟩) ps.length cp] w fun e w'=>(∃ q:Bool,e=.returned (.bool q)∧SaysQ q ps)∧Below w.heap.size w w':=by
 have HA:=hidP hA
 have HF:=hidP hF
 clear hA hF
 by_cases h4:ps.length≤4
 ·
  have hi4:(ps.length:Int)≤4:=by omega
  go_enter Tryz.func33,Tryz.ntmps33
  go_wp2
  go_loopw [3] (fun i wx=>∃ (k:Nat),k≤ps.length∧i=.int .i64 k∧Hid (AscN ps k)∧Hid (FineN ps k)∧Hid (ApN ps k)∧Hid (Below w.heap.size w wx)) (fun i _=>ps.length - (intOf i).toNat)
  case atStart=>exact ⟨0,Nat.zero_le _,rfl,(fun j q r hj _ _=>by omega),(fun j p hj _=>by omega),(fun i j p q _ hj _ _=>by omega),Below.refl _ _⟩
  obtain ⟨k,hk,rfl,Ha,Hf,Hc,HB⟩:=hrel
  by_cases hlt:k < ps.length
  ·
   obtain ⟨p,hp⟩:∃ p,ps[k]?=some p:=⟨ps[k],List.getElem?_eq_getElem hlt⟩
   have hA1:=HA.out.keep HB.out
   obtain ⟨c0,c1,c2⟩:=hA1.p.at hp
   simp only [Nat.zero_add] at c0 c1 c2
   have hrw:=src_gv (hA1.k p (List.mem_of_getElem? hp))
   have hpb:p.b.size≤maxLen:=(HF.out.p p (List.mem_of_getElem? hp)).1
   have hft:=(HF.out.p p (List.mem_of_getElem? hp)).2
   have hlw:p.ws.length≤1048576:=HF.out.ln p (List.mem_of_getElem? hp)
   obtain ⟨pb,s,pa,pc,pw⟩:=p
   simp only at c0 c1 c2 hpb hft hlw hrw
   have Hp:=hidP hp
   have Hft:=hidP hft
   have Hrw:=hidP hrw
   have Hx:Hid (Below wr.heap.size wr (wr.alloc (.cells #[.string pb,.int .i64 s,.slice pa pw.length pc] 54))):=bl_alloc bR _
   have lx:wr.heap.size < wr.heap.size+1:=by omega
   have i0:(0:Int)≤(k:Int):=by omega
   have i1:(k:Int) < (ps.length:Int):=by omega
   clear hp hft hrw
   cases q1:nameB pb
   ·
    skip
    go_wp2_with fail
    refine wp_region_noPanic ?_
    refine wp_region_held_drew (S:=(fun w'=>Below (wr.alloc (.cells #[.string pb,.int .i64 s,.slice pa pw.length pc] 54)).heap.size (wr.alloc (.cells #[.string pb,.int .i64 s,.slice pa pw.length pc] 54)) w'∧(w'.cell? ⟨wr.heap.size,0,none⟩=some (.string pb)∧w'.cell? ⟨wr.heap.size,1,none⟩=some (.int .i64 s)∧w'.cell? ⟨wr.heap.size,2,none⟩=some (.slice pa pw.length pc)))) (by kernel_rfl) (keepXx bD) (fun hHeld=>?_)
    refine tkV 0 ?_
    try simp only [sp]
    refine tkV 1 ?_
    try simp only [sp]
    refine wpAnyH_ready (rs:=[2]) (by kernel_rfl) (by simp) ?_
    refine AllReadyH.cons rfl (fun K hK=>?_) AllReadyH.nil
    go_simp
    refine (specName_any pb _ hpb).mono ?_; rintro e wq ⟨rfl,rfl⟩
    go_wp2_with fail
    refine hK.out _ _ (keepXx bD) (fun hHeld1=>?_)
    clear hK K hHeld
    try simp only [sp]
    refine tkV 3 ?_
    try simp only [sp]
    refine tkV 4 ?_
    try simp only [sp]
    refine tkU 5 ?_
    refine tkU 6 ?_
    refine tkU 7 ?_
    try simp only [sp]
    refine tkU 8 ?_
    refine tkV 9 ?_
    try simp only [sp]
    refine tkV 10 ?_
    try simp only [sp]
    refine tkU 11 ?_
    refine tkU 12 ?_
    try simp only [sp]
    refine tkU 13 ?_
    refine tkU 14 ?_
    refine tkV 15 ?_
    try simp only [sp]
    refine tkV 16 ?_
    try simp only [sp]
    refine tkU 17 ?_
    try simp only [sp]
    refine tkU 18 ?_
    refine tkU 19 ?_
    refine tkU 20 ?_
    try simp only [sp]
    refine tkU 21 ?_
    refine tkU 22 ?_
    refine tkU 23 ?_
    try simp only [sp]
    refine tkU 24 ?_
    refine tkU 25 ?_
    refine tkU 26 ?_
    try simp only [sp]
    refine tkU 27 ?_
    refine tkU 28 ?_
    refine tkU 29 ?_
    try simp only [sp]
    refine tkV 30 ?_
    try simp only [sp]
    refine wpAnyH_done (by kernel_rfl) ?_ _
    refine NoPanic.normal ?_
    go_wp2
    go_ret
    exact ⟨⟨false,rfl,saysQ_no (fun h1 h2=>by have:=(h1.2.2 _ (List.mem_of_getElem? Hp.out)).1; rw [show PlaceD.b _=pb from rfl,q1] at this; cases this)⟩,bl_trans HB.out (bl_trans Hx.out bD)⟩
   cases q2:inB s 1 1000000
   ·
    skip
    go_wp2_with fail
    refine wp_region_noPanic ?_
    refine wp_region_held_drew (S:=(fun w'=>Below (wr.alloc (.cells #[.string pb,.int .i64 s,.slice pa pw.length pc] 54)).heap.size (wr.alloc (.cells #[.string pb,.int .i64 s,.slice pa pw.length pc] 54)) w'∧(w'.cell? ⟨wr.heap.size,0,none⟩=some (.string pb)∧w'.cell? ⟨wr.heap.size,1,none⟩=some (.int .i64 s)∧w'.cell? ⟨wr.heap.size,2,none⟩=some (.slice pa pw.length pc)))) (by kernel_rfl) (keepXx bD) (fun hHeld=>?_)
    refine tkV 0 ?_
    try simp only [sp]
    refine tkV 1 ?_
    try simp only [sp]
    refine wpAnyH_ready (rs:=[2]) (by kernel_rfl) (by simp) ?_
    refine AllReadyH.cons rfl (fun K hK=>?_) AllReadyH.nil
    go_simp
    refine (specName_any pb _ hpb).mono ?_; rintro e wq ⟨rfl,rfl⟩
    go_wp2_with fail
    refine hK.out _ _ (keepXx bD) (fun hHeld1=>?_)
    clear hK K hHeld
    try simp only [sp]
    refine tkV 3 ?_
    try simp only [sp]
    refine tkV 4 ?_
    try simp only [sp]
    refine tkV 5 ?_
    try simp only [sp]
    refine tkV 6 ?_
    try simp only [sp]
    refine wpAnyH_ready (rs:=[7]) (by kernel_rfl) (by simp) ?_
    refine AllReadyH.cons rfl (fun K hK=>?_) AllReadyH.nil
    go_simp
    refine (specIn_any _ _ _ _).mono ?_; rintro e wq ⟨rfl,rfl⟩
    go_wp2_with fail
    refine hK.out _ _ (keepXx bD) (fun hHeld2=>?_)
    clear hK K hHeld1
    try simp only [sp]
    refine tkV 8 ?_
    try simp only [sp]
    refine tkV 9 ?_
    try simp only [sp]
    refine tkV 10 ?_
    try simp only [sp]
    refine tkU 11 ?_
    refine tkU 12 ?_
    refine tkU 13 ?_
    try simp only [sp]
    refine tkU 14 ?_
    refine tkV 15 ?_
    try simp only [sp]
    refine tkV 16 ?_
    try simp only [sp]
    refine tkU 17 ?_
    refine tkU 18 ?_
    try simp only [sp]
    refine tkU 19 ?_
    refine tkU 20 ?_
    refine tkU 21 ?_
    try simp only [sp]
    refine tkU 22 ?_
    refine tkU 23 ?_
    refine tkU 24 ?_
    try simp only [sp]
    refine tkU 25 ?_
    refine tkU 26 ?_
    refine tkU 27 ?_
    try simp only [sp]
    refine tkU 28 ?_
    refine tkU 29 ?_
    refine tkV 30 ?_
    try simp only [sp]
    refine wpAnyH_done (by kernel_rfl) ?_ _
    refine NoPanic.normal ?_
    go_wp2
    go_ret
    exact ⟨⟨false,rfl,saysQ_no (fun h1 h2=>by have:=(h1.2.2 _ (List.mem_of_getElem? Hp.out)).2.1; rw [show PlaceD.s _=s from rfl,q2] at this; cases this)⟩,bl_trans HB.out (bl_trans Hx.out bD)⟩
   have HQ:Hid ((∀ a b,(W.Says a pw∧W.Says b pw)→a=b)):=fun a b h=>by
    have:=h.1.trans h.2.symm
    cases a <;> cases b <;> simp_all
   rcases Nat.eq_zero_or_pos k with hz | hz
   ·
    subst hz
    go_wp2_with fail
    refine wp_region_noPanic ?_
    refine wp_region_held_drew (S:=(fun w'=>Below (wr.alloc (.cells #[.string pb,.int .i64 s,.slice pa pw.length pc] 54)).heap.size (wr.alloc (.cells #[.string pb,.int .i64 s,.slice pa pw.length pc] 54)) w'∧(w'.cell? ⟨wr.heap.size,0,none⟩=some (.string pb)∧w'.cell? ⟨wr.heap.size,1,none⟩=some (.int .i64 s)∧w'.cell? ⟨wr.heap.size,2,none⟩=some (.slice pa pw.length pc)))) (by kernel_rfl) (keepXx bD) (fun hHeld=>?_)
    refine tkV 0 ?_
    try simp only [sp]
    refine tkV 1 ?_
    try simp only [sp]
    refine wpAnyH_ready (rs:=[2]) (by kernel_rfl) (by simp) ?_
    refine AllReadyH.cons rfl (fun K hK=>?_) AllReadyH.nil
    go_simp
    refine (specName_any pb _ hpb).mono ?_; rintro e wq ⟨rfl,rfl⟩
    go_wp2_with fail
    refine hK.out _ _ (keepXx bD) (fun hHeld1=>?_)
    clear hK K hHeld
    try simp only [sp]
    refine tkV 3 ?_
    try simp only [sp]
    refine tkV 4 ?_
    try simp only [sp]
    refine tkV 5 ?_
    try simp only [sp]
    refine tkV 6 ?_
    try simp only [sp]
    refine wpAnyH_ready (rs:=[7]) (by kernel_rfl) (by simp) ?_
    refine AllReadyH.cons rfl (fun K hK=>?_) AllReadyH.nil
    go_simp
    refine (specIn_any _ _ _ _).mono ?_; rintro e wq ⟨rfl,rfl⟩
    go_wp2_with fail
    refine hK.out _ _ (keepXx bD) (fun hHeld2=>?_)
    clear hK K hHeld1
    try simp only [sp]
    refine tkV 8 ?_
    try simp only [sp]
    refine tkV 9 ?_
    try simp only [sp]
    refine tkV 10 ?_
    try simp only [sp]
    refine tkV 11 ?_
    try simp only [sp]
    refine tkV 12 ?_
    try simp only [sp]
    refine wpAnyH_ready (rs:=[13]) (by kernel_rfl) (by simp) ?_
    refine AllReadyH.cons rfl (fun K hK=>?_) AllReadyH.nil
    go_simp
    refine (W.specWantsOk_gv pa pc pw _ (Hrw.out.keep (bl_drew Hx.out)) Hft.out hlw).mono ?_; rintro e w1 ⟨⟨q13,rfl,hq13⟩,c13⟩; have H13:Hid (W.Says q13 pw):=hq13; clear hq13
    go_wp2_with fail
    refine hK.out _ _ (keepXx (bl_trans bD c13)) (fun hHeld3=>?_)
    clear hK K hHeld2
    try simp only [sp]
    cases q13
    ·
     skip
     refine tkV 14 ?_
     try simp only [sp]
     refine tkV 15 ?_
     try simp only [sp]
     refine tkV 16 ?_
     try simp only [sp]
     refine tkU 17 ?_
     try simp only [sp]
     refine tkU 18 ?_
     refine tkU 19 ?_
     refine tkU 20 ?_
     try simp only [sp]
     refine tkU 21 ?_
     refine tkU 22 ?_
     refine tkU 23 ?_
     try simp only [sp]
     refine tkU 24 ?_
     refine tkU 25 ?_
     refine tkU 26 ?_
     try simp only [sp]
     refine tkU 27 ?_
     refine tkU 28 ?_
     refine tkU 29 ?_
     try simp only [sp]
     refine tkV 30 ?_
     try simp only [sp]
     refine wpAnyH_done (by kernel_rfl) ?_ _
     refine NoPanic.normal ?_
     go_wp2
     go_ret
     exact ⟨⟨false,rfl,saysQ_no (fun h1 h2=>by have:=H13.out.2 (h1.2.2 _ (List.mem_of_getElem? Hp.out)).2.2; cases this)⟩,bl_trans HB.out (bl_trans Hx.out (bl_trans bD c13))⟩
    refine tkV 14 ?_
    try simp only [sp]
    refine tkV 15 ?_
    try simp only [sp]
    refine tkV 16 ?_
    try simp only [sp]
    refine tkV 17 ?_
    try simp only [sp]
    refine tkV 18 ?_
    try simp only [sp]
    refine tkV 19 ?_
    try simp only [sp]
    refine tkU 20 ?_
    refine tkU 21 ?_
    refine tkU 22 ?_
    try simp only [sp]
    refine tkU 23 ?_
    refine tkU 24 ?_
    refine tkU 25 ?_
    try simp only [sp]
    refine tkU 26 ?_
    refine tkU 27 ?_
    refine tkU 28 ?_
    try simp only [sp]
    refine tkV 29 ?_
    try simp only [sp]
    refine tkV 30 ?_
    try simp only [sp]
    refine wpAnyH_done (by kernel_rfl) ?_ _
    refine NoPanic.normal ?_
    have HW:Hid (Below (wr.alloc (.cells #[.string pb,.int .i64 s,.slice pa pw.length pc] 54)).heap.size (wr.alloc (.cells #[.string pb,.int .i64 s,.slice pa pw.length pc] 54)) w1):=bl_trans bD c13
    have G13:=hidP (H13.out.1 rfl)
    have HP:Hid (PlaceD.fine ⟨pb,s,pa,pc,pw⟩):=⟨q1,q2,G13.out⟩
    clear c13 H13 HQ c0 c1 c2 G13
    obtain ⟨wo,hwo⟩:∃ wo:World,wo=wr:=⟨_,rfl⟩
    rw [← hwo] at HW Hx HB Hrw hA1
    go_wp2_with fail
    rw [← hwo]
    have lo:wo.heap.size < wo.heap.size+1:=by omega
    clear hwo hHeld3 lx hA1
    go_loopw [5] (fun i wx=>∃ (n:Nat),n≤0∧i=.int .i64 n∧Hid (Cr ps (⟨pb,s,pa,pc,pw⟩:PlaceD) n)∧Hid (Below (wo.alloc (.cells #[.string pb,.int .i64 s,.slice pa pw.length pc] 54)).heap.size (wo.alloc (.cells #[.string pb,.int .i64 s,.slice pa pw.length pc] 54)) wx)) (fun i _=>0 - (intOf i).toNat)
    case atStart=>exact ⟨0,Nat.zero_le _,rfl,(fun i q hi _=>by omega),HW.out⟩
    clear HW
    obtain ⟨n,hn,rfl,Hr,HBx⟩:=hrel
    have lz:wo.heap.size < wr.heap.size:=by have:=HBx.out.size; simp at this; omega
    by_cases hnl:n < 0
    · exact absurd hnl (Nat.not_lt_zero _)
    have hne:n=0:=by omega
    subst hne
    go_wp2
    exact ⟨⟨0+1,by omega,by go_num,(fun j q r hj _ _=>by omega),Hf.out.step Hp.out HP.out,Hc.out.step Hp.out Hr.out,bl_trans HB.out (bl_trans Hx.out HBx.out)⟩,by simp [intOf]; omega⟩
   obtain ⟨m,rfl⟩:∃ m,k=m+1:=⟨k - 1,by omega⟩
   obtain ⟨q,hq⟩:∃ q,ps[m]?=some q:=⟨ps[m],List.getElem?_eq_getElem (by omega)⟩
   have Hq:=hidP hq
   clear hq i0 i1 hz
   have i0:(0:Int)≤(m:Int):=by omega
   have i1:(m:Int)+1 < (ps.length:Int):=by omega
   have i2:(m:Int) < (ps.length:Int):=by omega
   have i3:(0:Int)≤(m:Int)+1:=by omega
   have iw:IntKind.i64.wrap (m:Int)=(m:Int):=by rw [IntKind.wrap_i64]; omega
   cases hasc:Op.bytesLess q.b.toList pb.toList
   ·
    skip
    go_wp2_with fail
    refine wp_region_noPanic ?_
    refine wp_region_held_drew (S:=(fun w'=>Below (wr.alloc (.cells #[.string pb,.int .i64 s,.slice pa pw.length pc] 54)).heap.size (wr.alloc (.cells #[.string pb,.int .i64 s,.slice pa pw.length pc] 54)) w'∧(w'.cell? ⟨wr.heap.size,0,none⟩=some (.string pb)∧w'.cell? ⟨wr.heap.size,1,none⟩=some (.int .i64 s)∧w'.cell? ⟨wr.heap.size,2,none⟩=some (.slice pa pw.length pc))∧w'.cell? ⟨b2,m * 3,none⟩=some (.string q.b))) (by kernel_rfl) (keepYx Hq.out hA1.p hA1.p1 bD) (fun hHeld=>?_)
    refine tkV 0 ?_
    try simp only [sp]
    refine tkV 1 ?_
    try simp only [sp]
    refine wpAnyH_ready (rs:=[2]) (by kernel_rfl) (by simp) ?_
    refine AllReadyH.cons rfl (fun K hK=>?_) AllReadyH.nil
    go_simp
    refine (specName_any pb _ hpb).mono ?_; rintro e wq ⟨rfl,rfl⟩
    go_wp2_with fail
    refine hK.out _ _ (keepYx Hq.out hA1.p hA1.p1 bD) (fun hHeld1=>?_)
    clear hK K hHeld
    try simp only [sp]
    refine tkV 3 ?_
    try simp only [sp]
    refine tkV 4 ?_
    try simp only [sp]
    refine tkV 5 ?_
    try simp only [sp]
    refine tkV 6 ?_
    try simp only [sp]
    refine wpAnyH_ready (rs:=[7]) (by kernel_rfl) (by simp) ?_
    refine AllReadyH.cons rfl (fun K hK=>?_) AllReadyH.nil
    go_simp
    refine (specIn_any _ _ _ _).mono ?_; rintro e wq ⟨rfl,rfl⟩
    go_wp2_with fail
    refine hK.out _ _ (keepYx Hq.out hA1.p hA1.p1 bD) (fun hHeld2=>?_)
    clear hK K hHeld1
    try simp only [sp]
    refine tkV 8 ?_
    try simp only [sp]
    refine tkV 9 ?_
    try simp only [sp]
    refine tkV 10 ?_
    try simp only [sp]
    refine tkV 11 ?_
    try simp only [sp]
    refine tkV 12 ?_
    try simp only [sp]
    refine wpAnyH_ready (rs:=[13]) (by kernel_rfl) (by simp) ?_
    refine AllReadyH.cons rfl (fun K hK=>?_) AllReadyH.nil
    go_simp
    refine (W.specWantsOk_gv pa pc pw _ (Hrw.out.keep (bl_drew Hx.out)) Hft.out hlw).mono ?_; rintro e w1 ⟨⟨q13,rfl,hq13⟩,c13⟩; have H13:Hid (W.Says q13 pw):=hq13; clear hq13
    go_wp2_with fail
    refine hK.out _ _ (keepYx Hq.out hA1.p hA1.p1 (bl_trans bD c13)) (fun hHeld3=>?_)
    clear hK K hHeld2
    try simp only [sp]
    cases q13
    ·
     skip
     refine tkV 14 ?_
     try simp only [sp]
     refine tkV 15 ?_
     try simp only [sp]
     refine tkV 16 ?_
     try simp only [sp]
     refine tkU 17 ?_
     refine tkU 18 ?_
     refine tkU 19 ?_
     try simp only [sp]
     refine tkU 20 ?_
     refine tkU 21 ?_
     refine tkU 22 ?_
     try simp only [sp]
     refine tkU 23 ?_
     refine tkU 24 ?_
     refine tkU 25 ?_
     try simp only [sp]
     refine tkU 26 ?_
     refine tkU 27 ?_
     refine tkU 28 ?_
     try simp only [sp]
     refine tkU 29 ?_
     refine tkV 30 ?_
     try simp only [sp]
     refine wpAnyH_done (by kernel_rfl) ?_ _
     refine NoPanic.normal ?_
     go_wp2
     go_ret
     exact ⟨⟨false,rfl,saysQ_no (fun h1 h2=>by have:=H13.out.2 (h1.2.2 _ (List.mem_of_getElem? Hp.out)).2.2; cases this)⟩,bl_trans HB.out (bl_trans Hx.out (bl_trans bD c13))⟩
    refine tkV 14 ?_
    try simp only [sp]
    refine tkV 15 ?_
    try simp only [sp]
    refine tkV 16 ?_
    try simp only [sp]
    refine tkV 17 ?_
    try simp only [sp]
    refine tkV 18 ?_
    try simp only [sp]
    refine tkV 19 ?_
    try simp only [sp]
    refine tkV 20 ?_
    try simp only [sp]
    refine tkV 21 ?_
    try simp only [sp]
    refine tkV 22 ?_
    try simp only [sp]
    refine tkV 23 ?_
    try simp only [sp]
    refine tkV 24 ?_
    try simp only [sp]
    refine tkV 25 ?_
    try simp only [sp]
    refine tkV 26 ?_
    try simp only [sp]
    refine tkV 27 ?_
    try simp only [sp]
    refine tkV 28 ?_
    try simp only [sp]
    refine tkV 29 ?_
    try simp only [sp]
    refine tkV 30 ?_
    try simp only [sp]
    refine wpAnyH_done (by kernel_rfl) ?_ _
    refine NoPanic.normal ?_
    go_wp2
    go_ret
    exact ⟨⟨false,rfl,saysQ_no (fun h1 h2=>by have h:=h1.2.1 m q _ (by omega) Hq.out Hp.out; simp only at h; rw [hasc] at h; cases h)⟩,bl_trans HB.out (bl_trans Hx.out (bl_trans bD c13))⟩
   skip
   go_wp2_with fail
   refine wp_region_noPanic ?_
   refine wp_region_held_drew (S:=(fun w'=>Below (wr.alloc (.cells #[.string pb,.int .i64 s,.slice pa pw.length pc] 54)).heap.size (wr.alloc (.cells #[.string pb,.int .i64 s,.slice pa pw.length pc] 54)) w'∧(w'.cell? ⟨wr.heap.size,0,none⟩=some (.string pb)∧w'.cell? ⟨wr.heap.size,1,none⟩=some (.int .i64 s)∧w'.cell? ⟨wr.heap.size,2,none⟩=some (.slice pa pw.length pc))∧w'.cell? ⟨b2,m * 3,none⟩=some (.string q.b))) (by kernel_rfl) (keepYx Hq.out hA1.p hA1.p1 bD) (fun hHeld=>?_)
   refine tkV 0 ?_
   try simp only [sp]
   refine tkV 1 ?_
   try simp only [sp]
   refine wpAnyH_ready (rs:=[2]) (by kernel_rfl) (by simp) ?_
   refine AllReadyH.cons rfl (fun K hK=>?_) AllReadyH.nil
   go_simp
   refine (specName_any pb _ hpb).mono ?_; rintro e wq ⟨rfl,rfl⟩
   go_wp2_with fail
   refine hK.out _ _ (keepYx Hq.out hA1.p hA1.p1 bD) (fun hHeld1=>?_)
   clear hK K hHeld
   try simp only [sp]
   refine tkV 3 ?_
   try simp only [sp]
   refine tkV 4 ?_
   try simp only [sp]
   refine tkV 5 ?_
   try simp only [sp]
   refine tkV 6 ?_
   try simp only [sp]
   refine wpAnyH_ready (rs:=[7]) (by kernel_rfl) (by simp) ?_
   refine AllReadyH.cons rfl (fun K hK=>?_) AllReadyH.nil
   go_simp
   refine (specIn_any _ _ _ _).mono ?_; rintro e wq ⟨rfl,rfl⟩
   go_wp2_with fail
   refine hK.out _ _ (keepYx Hq.out hA1.p hA1.p1 bD) (fun hHeld2=>?_)
   clear hK K hHeld1
   try simp only [sp]
   refine tkV 8 ?_
   try simp only [sp]
   refine tkV 9 ?_
   try simp only [sp]
   refine tkV 10 ?_
   try simp only [sp]
   refine tkV 11 ?_
   try simp only [sp]
   refine tkV 12 ?_
   try simp only [sp]
   refine wpAnyH_ready (rs:=[13]) (by kernel_rfl) (by simp) ?_
   refine AllReadyH.cons rfl (fun K hK=>?_) AllReadyH.nil
   go_simp
   refine (W.specWantsOk_gv pa pc pw _ (Hrw.out.keep (bl_drew Hx.out)) Hft.out hlw).mono ?_; rintro e w1 ⟨⟨q13,rfl,hq13⟩,c13⟩; have H13:Hid (W.Says q13 pw):=hq13; clear hq13
   go_wp2_with fail
   refine hK.out _ _ (keepYx Hq.out hA1.p hA1.p1 (bl_trans bD c13)) (fun hHeld3=>?_)
   clear hK K hHeld2
   try simp only [sp]
   cases q13
   ·
    skip
    refine tkV 14 ?_
    try simp only [sp]
    refine tkV 15 ?_
    try simp only [sp]
    refine tkV 16 ?_
    try simp only [sp]
    refine tkU 17 ?_
    refine tkU 18 ?_
    try simp only [sp]
    refine tkU 19 ?_
    refine tkU 20 ?_
    refine tkU 21 ?_
    try simp only [sp]
    refine tkU 22 ?_
    refine tkU 23 ?_
    refine tkU 24 ?_
    try simp only [sp]
    refine tkU 25 ?_
    refine tkU 26 ?_
    refine tkU 27 ?_
    try simp only [sp]
    refine tkU 28 ?_
    refine tkU 29 ?_
    refine tkV 30 ?_
    try simp only [sp]
    refine wpAnyH_done (by kernel_rfl) ?_ _
    refine NoPanic.normal ?_
    go_wp2
    go_ret
    exact ⟨⟨false,rfl,saysQ_no (fun h1 h2=>by have:=H13.out.2 (h1.2.2 _ (List.mem_of_getElem? Hp.out)).2.2; cases this)⟩,bl_trans HB.out (bl_trans Hx.out (bl_trans bD c13))⟩
   refine tkV 14 ?_
   try simp only [sp]
   refine tkV 15 ?_
   try simp only [sp]
   refine tkV 16 ?_
   try simp only [sp]
   refine tkV 17 ?_
   try simp only [sp]
   refine tkV 18 ?_
   try simp only [sp]
   refine tkV 19 ?_
   try simp only [sp]
   refine tkV 20 ?_
   try simp only [sp]
   refine tkV 21 ?_
   try simp only [sp]
   refine tkV 22 ?_
   try simp only [sp]
   refine tkV 23 ?_
   try simp only [sp]
   refine tkV 24 ?_
   try simp only [sp]
   refine tkV 25 ?_
   try simp only [sp]
   refine tkV 26 ?_
   try simp only [sp]
   refine tkV 27 ?_
   try simp only [sp]
   refine tkV 28 ?_
   try simp only [sp]
   refine tkV 29 ?_
   try simp only [sp]
   refine tkV 30 ?_
   try simp only [sp]
   refine wpAnyH_done (by kernel_rfl) ?_ _
   refine NoPanic.normal ?_
   have HW:Hid (Below (wr.alloc (.cells #[.string pb,.int .i64 s,.slice pa pw.length pc] 54)).heap.size (wr.alloc (.cells #[.string pb,.int .i64 s,.slice pa pw.length pc] 54)) w1):=bl_trans bD c13
   have G13:=hidP (H13.out.1 rfl)
   have HP:Hid (PlaceD.fine ⟨pb,s,pa,pc,pw⟩):=⟨q1,q2,G13.out⟩
   clear c13 H13 HQ c0 c1 c2 G13
   obtain ⟨wo,hwo⟩:∃ wo:World,wo=wr:=⟨_,rfl⟩
   rw [← hwo] at HW Hx HB Hrw hA1
   go_wp2_with fail
   rw [← hwo]
   have lo:wo.heap.size < wo.heap.size+1:=by omega
   clear hwo hHeld3 lx hA1
   go_loopw [5] (fun i wx=>∃ (n:Nat),n≤(m+1)∧i=.int .i64 n∧Hid (Cr ps (⟨pb,s,pa,pc,pw⟩:PlaceD) n)∧Hid (Below (wo.alloc (.cells #[.string pb,.int .i64 s,.slice pa pw.length pc] 54)).heap.size (wo.alloc (.cells #[.string pb,.int .i64 s,.slice pa pw.length pc] 54)) wx)) (fun i _=>(m+1) - (intOf i).toNat)
   case atStart=>exact ⟨0,Nat.zero_le _,rfl,(fun i q hi _=>by omega),HW.out⟩
   clear HW
   obtain ⟨n,hn,rfl,Hr,HBx⟩:=hrel
   have lz:wo.heap.size < wr.heap.size:=by have:=HBx.out.size; simp at this; omega
   by_cases hnl:n < (m+1)
   ·
    obtain ⟨g,hg⟩:∃ g,ps[n]?=some g:=⟨ps[n],List.getElem?_eq_getElem (by omega)⟩
    have j0:(0:Int)≤(n:Int):=by omega
    have j1:(n:Int) < (ps.length:Int):=by omega
    have hA0:=HA.out.keep (bl_trans HB.out Hx.out)
    have hrg:=src_gv (hA0.k g (List.mem_of_getElem? hg))
    have hlg:g.ws.length≤1048576:=HF.out.ln g (List.mem_of_getElem? hg)
    obtain ⟨gb,gn,ga,gc,gw⟩:=g
    simp only at hlg hrg
    have Hg:=hidP hg
    have Hrg:=hidP hrg
    have HRp:Hid (RowsAt (wo.alloc (.cells #[.string pb,.int .i64 s,.slice pa pw.length pc] 54)) b2 0 ps∧b2 < (wo.alloc (.cells #[.string pb,.int .i64 s,.slice pa pw.length pc] 54)).heap.size):=⟨hA0.p,hA0.p1⟩
    have Hr0:=hidP (Hrw.out.keep Hx.out)
    clear hg hrg hA0
    obtain ⟨x0,x1,x2⟩:=(keepXx HBx.out).2
    obtain ⟨d0,d1,d2⟩:=(HRp.out.1.keep HRp.out.2 HBx.out).at Hg.out
    simp only [Nat.zero_add] at d0 d1 d2
    go_wp2_with fail
    clear x0 x1 x2 d0 d1 d2 lz
    go_loopw [6] (fun i wx=>∃ (j:Nat),j≤pw.length∧i=.int .i64 j∧Hid (CrJ (⟨gb,gn,ga,gc,gw⟩:PlaceD) (⟨pb,s,pa,pc,pw⟩:PlaceD) j)∧Hid (Below (wo.alloc (.cells #[.string pb,.int .i64 s,.slice pa pw.length pc] 54)).heap.size (wo.alloc (.cells #[.string pb,.int .i64 s,.slice pa pw.length pc] 54)) wx)) (fun i _=>pw.length - (intOf i).toNat)
    case atStart=>exact ⟨0,Nat.zero_le _,rfl,(fun j y hj _=>by omega),HBx.out⟩
    clear HBx
    obtain ⟨j,hj,rfl,Hj,HBj⟩:=hrel
    have lz:wo.heap.size < wr.heap.size:=by have:=HBj.out.size; simp at this; omega
    obtain ⟨x0,x1,x2⟩:=(keepXx HBj.out).2
    by_cases hjl:j < pw.length
    ·
     obtain ⟨y,hy⟩:∃ y,pw[j]?=some y:=⟨pw[j],List.getElem?_eq_getElem hjl⟩
     have Hy:=hidP hy
     clear hy
     have y0:(0:Int)≤(j:Int):=by omega
     have y1:(j:Int) < (pw.length:Int):=by omega
     go_wp2_with fail
     clear x0 x1 x2 lz
     go_loopw [7] (fun i wx=>∃ (l:Nat),l≤gw.length∧i=.int .i64 l∧Hid (CrN (⟨gb,gn,ga,gc,gw⟩:PlaceD) y l)∧Hid (Below (wo.alloc (.cells #[.string pb,.int .i64 s,.slice pa pw.length pc] 54)).heap.size (wo.alloc (.cells #[.string pb,.int .i64 s,.slice pa pw.length pc] 54)) wx)) (fun i _=>gw.length - (intOf i).toNat)
     case atStart=>exact ⟨0,Nat.zero_le _,rfl,(fun j x hj _=>by omega),HBj.out⟩
     clear HBj
     obtain ⟨l,hl,rfl,Hl,HBl⟩:=hrel
     have lz:wo.heap.size < wr.heap.size:=by have:=HBl.out.size; simp at this; omega
     obtain ⟨x0,x1,x2⟩:=(keepXx HBl.out).2
     obtain ⟨d0,d1,d2⟩:=(HRp.out.1.keep HRp.out.2 HBl.out).at Hg.out
     simp only [Nat.zero_add] at d0 d1 d2
     by_cases hll:l < gw.length
     ·
      obtain ⟨x,hx⟩:∃ x,gw[l]?=some x:=⟨gw[l],List.getElem?_eq_getElem hll⟩
      have Hxx:=hidP hx
      have z0:(0:Int)≤(l:Int):=by omega
      have z1:(l:Int) < (gw.length:Int):=by omega
      have hy1:=(Hr0.out.keep HBl.out).resolve_left (fun h=>by rw [h] at hjl; simp at hjl)
      have hx1:=(Hrg.out.keep HBl.out).resolve_left (fun h=>by rw [h] at hll; simp at hll)
      obtain ⟨f,hfa,hf0,hrf⟩:=hy1
      obtain ⟨gf,hga,hg0,hrgf⟩:=hx1
      subst hfa hga
      have yh:=W.hold_at Hy.out hrf
      have xh:=W.hold_at hx hrgf
      simp only [Nat.zero_add] at yh xh
      clear hx x0 x1 d0 d1 hrf hrgf hf0 hg0
      cases he:y.h.toList.isEmpty
      ·
       cases hcl:(y.h.toList == x.h.toList)
       ·
        go_wp2_with fail
        go_quiet (fail)
        go_wp2
        exact ⟨⟨l+1,by omega,by go_num,Hl.out.step Hxx.out (by simp [W.clash,he,BEq.comm (a:=x.h.toList),hcl]),bl_dn HBl.out⟩,by simp [intOf]; omega⟩
       go_wp2_with fail
       go_quiet (fail)
       go_wp2
       go_ret
       exact ⟨⟨false,rfl,saysQ_no (fun h1 h2=>by have h:=apart_at h2 hnl Hg.out Hp.out x (List.mem_of_getElem? Hxx.out) y (List.mem_of_getElem? Hy.out); simp [W.clash,he,BEq.comm (a:=x.h.toList),hcl] at h)⟩,bl_trans HB.out (bl_trans Hx.out (bl_dn HBl.out))⟩
      go_wp2_with fail
      go_quiet (fail)
      go_wp2
      exact ⟨⟨l+1,by omega,by go_num,Hl.out.step Hxx.out (by simp [W.clash,he]),bl_dn HBl.out⟩,by simp [intOf]; omega⟩
     have hle:l=gw.length:=by omega
     subst hle
     go_wp2
     exact ⟨⟨j+1,by omega,by go_num,Hj.out.step Hy.out (Hl.out.all (Nat.le_refl _)),HBl.out⟩,by simp [intOf]; omega⟩
    have hje:j=pw.length:=by omega
    subst hje
    go_wp2
    exact ⟨⟨n+1,by omega,by go_num,Hr.out.step Hg.out (Hj.out.all (Nat.le_refl _)),HBj.out⟩,by simp [intOf]; omega⟩
   have hne:n=(m+1):=by omega
   subst hne
   go_wp2
   exact ⟨⟨(m+1)+1,by omega,by go_num,(Ha.out.step Hq.out Hp.out hasc),Hf.out.step Hp.out HP.out,Hc.out.step Hp.out Hr.out,bl_trans HB.out (bl_trans Hx.out HBx.out)⟩,by simp [intOf]; omega⟩
  go_wp2
  go_ret
  exact ⟨⟨true,rfl,⟨fun _=>⟨⟨h4,(fun j q r hj hq hr=>Ha.out j q r (by omega) hq hr),Hf.out.all (by omega)⟩,Hc.out.apart (by omega)⟩,fun _=>rfl⟩⟩,HB.out⟩
 ·
  have hi4:(4:Int) < (ps.length:Int):=by omega
  have H4:=hidP h4
  clear h4
  go_enter Tryz.func33,Tryz.ntmps33
  go_wp2
  go_ret
  first
  | exact ⟨Or.inl ⟨rfl,saysQ_no (fun h1 h2=>absurd h1.1 H4.out)⟩,Below.refl _ _⟩
  | exact ⟨⟨false,rfl,saysQ_no (fun h1 h2=>absurd h1.1 H4.out)⟩,Below.refl _ _⟩
theorem specPlaces_x (gs:List G.GrantD) (ps:List PlaceD) (a1 a2:Option Addr) (cp:Nat) (w:World) (hA:LandX w gs ps a1 a2) (hF:Fit gs ps) :
  Calls Tryz.prog 33 #[.slice a2 ps.length cp] w fun e w'=>(∃ q:Bool,e=.returned (.bool q)∧SaysQ q ps)∧Below w.heap.size w w':=by
 rcases hA.p with rfl | ⟨b2,rfl,hb,hR⟩
 ·
  refine (placesx_zero a2 cp w).mono ?_
  rintro e w' ⟨rfl,rfl⟩
  refine ⟨⟨true,rfl,⟨fun _=>⟨⟨by simp,(fun j q r hj hq hr=>by simp at hq),fun p hp=>by cases hp⟩,List.Pairwise.nil⟩,fun _=>rfl⟩⟩,Below.refl _ _⟩
 · exact specPlaces_y gs ps b2 cp w ⟨hR,hb,hA.k⟩ hF
end Go.Proofs.YtcjhlhijdacinaaGreatDoor.P
namespace Go.Proofs.YtcjhlhijdacinaaGreatDoor.P
open Go.RowKit
set_option linter.unusedVariables false
theorem saysL_no2 {t:Int} {gs:List G.GrantD} {ps:List PlaceD} (h:LandSay t gs ps→False):SaysL false t gs ps:=⟨fun h'=>(by cases h'),fun h'=>(h h').elim⟩
def EachG (t:Int) (gs:List G.GrantD) (k:Nat):Prop:=∀ j r,j < k→gs[j]?=some r→grantB t r=true
theorem EachG.step {t:Int} {gs:List G.GrantD} {k:Nat} {r:G.GrantD} (h:EachG t gs k) (hr:gs[k]?=some r) (hs:grantB t r=true):EachG t gs (k+1):=by
 intro j q hj hq
 by_cases e:j=k
 · subst e; rw [hr] at hq; cases hq; exact hs
 exact h j q (by omega) hq
end Go.Proofs.YtcjhlhijdacinaaGreatDoor.P
