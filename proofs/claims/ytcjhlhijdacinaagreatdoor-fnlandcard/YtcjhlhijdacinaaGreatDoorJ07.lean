import Derived.Test.YtcjhlhijdacinaaGreatDoorJ04
import Derived.Test.YtcjhlhijdacinaaGreatDoorJ06
import Derived.Deep.RegionHeld3
import Derived.Laws.Pointers
import Derived.StillTactics
import Derived.Laws.EntriesVeiled
import Derived.Test.YtcjhlhijdacinaaGreatDoorJ02
import Derived.Test.YtcjhlhijdacinaaGreatDoorJ03
import Derived.Deep.QuietTactic
import Derived.BigQuiet
namespace Go.Proofs.YtcjhlhijdacinaaGreatDoor.W
open Go.RowKit
set_option linter.unusedVariables false
theorem specWant_q (c h:ByteArray) (v p s d g:Int) (w:World) (hc:c.size≤maxLen) (hh:h.size≤maxLen) (q:Bool) (hq:wantB c h v p s d g=q) :
  Calls Tryz.prog 71 #[.agg #[.string c,.int .i64 v,.string h,.int .i64 p,.int .i64 s,.int .i64 d,.int .i64 g]] w fun e w'=>e=.returned (.bool q)∧Below w.heap.size w w':=by
 rw [← hq]
 refine (specWant_any c h v p s d g w hc hh).mono ?_
 rintro e w' ⟨rfl,rfl⟩
 exact ⟨rfl,bl_alloc bR _⟩
set_option maxHeartbeats 2000000 in
theorem specWantsOk (b off cap:Nat) (ws:List WantD) (w:World) (hR:RowsAt w b off ws) (l1:b < w.heap.size) (hfit:∀ r∈ws,r.fits) (hl:ws.length≤1048576) :
  Calls Tryz.prog 44 #[.slice (some ⟨b,off,none⟩) ws.length cap] w fun e w'=>(∃ q:Bool,e=.returned (.bool q)∧Says q ws)∧Below w.heap.size w w':=by
 by_cases h10:10 < ws.length
 ·
  go_enter Tryz.func44,Tryz.ntmps44
  go_wp2
  go_ret
  exact ⟨⟨false,rfl,says_no (fun h _=>by omega)⟩,Below.refl _ _⟩
 go_enter Tryz.func44,Tryz.ntmps44
 go_wp2
 go_loopw [3] (fun i wx=>∃ (k:Nat),k≤ws.length∧i=.int .i64 k∧Hid (AllW ws k)∧Below w.heap.size w wx) (fun i _=>ws.length - (intOf i).toNat)
 case atStart=>exact ⟨0,Nat.zero_le _,rfl,⟨fun j r h=>by omega,fun j q r h=>by omega,fun j r h=>by omega⟩,Below.refl _ _⟩
 case round =>
  obtain ⟨k,hk,rfl,Ha,hB⟩:=hrel
  by_cases hlt:k < ws.length
  ·
   obtain ⟨r,hr⟩:∃ r,ws[k]?=some r:=⟨ws[k],List.getElem?_eq_getElem hlt⟩
   have Hr:=hidP hr
   have hf:r.fits:=hfit r (List.mem_of_getElem? hr)
   clear hr
   have g1:=hR.keep l1 hB
   have z1:b < wr.heap.size:=Nat.lt_of_lt_of_le l1 hB.size
   have i0:(0:Int)≤(k:Int):=by omega
   have i1:(k:Int) < (ws.length:Int):=by omega
   cases hok:wantB r.c r.h r.v r.p r.s r.d r.g
   ·
    go_wp2_with fail
    refine wp_region_noPanic ?_
    refine wp_region_held_drew (S:=(fun w'=>Below wr.heap.size wr w'∧(w'.cell? ⟨b,off+k * 7,none⟩=some (.string r.c)∧w'.cell? ⟨b,off+k * 7+1,none⟩=some (.int .i64 r.v)∧w'.cell? ⟨b,off+k * 7+2,none⟩=some (.string r.h)∧w'.cell? ⟨b,off+k * 7+3,none⟩=some (.int .i64 r.p)∧w'.cell? ⟨b,off+k * 7+4,none⟩=some (.int .i64 r.s)∧w'.cell? ⟨b,off+k * 7+5,none⟩=some (.int .i64 r.d)∧w'.cell? ⟨b,off+k * 7+6,none⟩=some (.int .i64 r.g)))) (by kernel_rfl) (keep1 Hr.out g1 z1 bD) (fun hHeld=>?_)
    refine tkV 0 ?_
    try simp only [sp]
    refine tkV 1 ?_
    try simp only [sp]
    refine tkV 2 ?_
    try simp only [sp]
    refine tkV 3 ?_
    try simp only [sp]
    refine wpAnyH_ready (rs:=[4]) (by kernel_rfl) (by simp) ?_
    refine AllReadyH.cons rfl (fun K hK=>?_) AllReadyH.nil
    go_simp
    refine (specWant_q r.c r.h r.v r.p r.s r.d r.g _ hf.1 hf.2 false hok).mono ?_; rintro e w1 ⟨rfl,hb⟩
    go_wp2_with fail
    refine hK.out _ _ (keep1 Hr.out g1 z1 (bl_trans bD hb)) (fun hHeld1=>?_)
    clear hK K hHeld
    try simp only [sp]
    refine tkV 5 ?_
    try simp only [sp]
    refine tkV 6 ?_
    try simp only [sp]
    refine tkU 7 ?_
    refine tkU 8 ?_
    refine tkU 9 ?_
    try simp only [sp]
    refine tkU 10 ?_
    refine tkU 11 ?_
    refine tkU 12 ?_
    try simp only [sp]
    refine tkU 13 ?_
    refine tkU 14 ?_
    refine tkU 15 ?_
    try simp only [sp]
    refine tkU 16 ?_
    refine tkU 17 ?_
    refine tkU 18 ?_
    try simp only [sp]
    refine tkU 19 ?_
    refine tkU 20 ?_
    refine tkU 21 ?_
    try simp only [sp]
    refine tkU 22 ?_
    refine tkV 23 ?_
    try simp only [sp]
    refine wpAnyH_done (by kernel_rfl) ?_ _
    refine NoPanic.normal ?_
    go_wp2
    go_ret
    exact ⟨⟨false,rfl,says_no (fun _ h=>by have:=h.1 k r hlt Hr.out; simp [WantD.ok,hok] at this)⟩,bl_trans hB (bl_trans bD hb)⟩
   rcases Nat.eq_zero_or_pos k with hz | hz
   ·
    subst hz
    go_wp2_with fail
    refine wp_region_noPanic ?_
    refine wp_region_held_drew (S:=(fun w'=>Below wr.heap.size wr w'∧(w'.cell? ⟨b,off,none⟩=some (.string r.c)∧w'.cell? ⟨b,off+1,none⟩=some (.int .i64 r.v)∧w'.cell? ⟨b,off+2,none⟩=some (.string r.h)∧w'.cell? ⟨b,off+3,none⟩=some (.int .i64 r.p)∧w'.cell? ⟨b,off+4,none⟩=some (.int .i64 r.s)∧w'.cell? ⟨b,off+5,none⟩=some (.int .i64 r.d)∧w'.cell? ⟨b,off+6,none⟩=some (.int .i64 r.g)))) (by kernel_rfl) (keep0 Hr.out g1 z1 bD) (fun hHeld=>?_)
    refine tkV 0 ?_
    try simp only [sp]
    refine tkV 1 ?_
    try simp only [sp]
    refine tkV 2 ?_
    try simp only [sp]
    refine tkV 3 ?_
    try simp only [sp]
    refine wpAnyH_ready (rs:=[4]) (by kernel_rfl) (by simp) ?_
    refine AllReadyH.cons rfl (fun K hK=>?_) AllReadyH.nil
    go_simp
    refine (specWant_q r.c r.h r.v r.p r.s r.d r.g _ hf.1 hf.2 true hok).mono ?_; rintro e w1 ⟨rfl,hb⟩
    go_wp2_with fail
    refine hK.out _ _ (keep0 Hr.out g1 z1 (bl_trans bD hb)) (fun hHeld1=>?_)
    clear hK K hHeld
    try simp only [sp]
    refine tkV 5 ?_
    try simp only [sp]
    refine tkV 6 ?_
    try simp only [sp]
    refine tkV 7 ?_
    try simp only [sp]
    refine tkV 8 ?_
    try simp only [sp]
    refine tkV 9 ?_
    try simp only [sp]
    refine tkU 10 ?_
    refine tkU 11 ?_
    try simp only [sp]
    refine tkU 12 ?_
    refine tkU 13 ?_
    refine tkU 14 ?_
    try simp only [sp]
    refine tkU 15 ?_
    refine tkU 16 ?_
    refine tkU 17 ?_
    try simp only [sp]
    refine tkU 18 ?_
    refine tkU 19 ?_
    refine tkU 20 ?_
    try simp only [sp]
    refine tkU 21 ?_
    refine tkV 22 ?_
    try simp only [sp]
    refine tkV 23 ?_
    try simp only [sp]
    refine wpAnyH_done (by kernel_rfl) ?_ _
    refine NoPanic.normal ?_
    have bo:=bl_trans hB (bl_trans bD hb)
    go_wp2_with fail
    refine wp_loop_rounds 1 ?_
    rw [rounds_succ]
    go_wp2
    exact ⟨⟨1,by omega,by go_num,⟨Ha.out.1.step Hr.out (by simpa [WantD.ok] using hok),Asc.one,Ha.out.2.2.step Hr.out (fun i q h=>by omega)⟩,bo⟩,by simp [intOf]; omega⟩
   obtain ⟨m,rfl⟩:∃ m,k=m+1:=⟨k - 1,by omega⟩
   obtain ⟨q,hq⟩:∃ q,ws[m]?=some q:=⟨ws[m],List.getElem?_eq_getElem (by omega)⟩
   have Hq:=hidP hq
   clear hq i0 i1 hz
   have i0:(0:Int)≤(m:Int):=by omega
   have i1:(m:Int)+1 < (ws.length:Int):=by omega
   have i2:(m:Int) < (ws.length:Int):=by omega
   have i3:(0:Int)≤(m:Int)+1:=by omega
   have iw:IntKind.i64.wrap (m:Int)=(m:Int):=by rw [IntKind.wrap_i64]; omega
   cases hasc:Op.bytesLess q.c.toList r.c.toList
   ·
    go_wp2_with fail
    refine wp_region_noPanic ?_
    refine wp_region_held_drew (S:=(fun w'=>Below wr.heap.size wr w'∧(w'.cell? ⟨b,off+(m+1) * 7,none⟩=some (.string r.c)∧w'.cell? ⟨b,off+(m+1) * 7+1,none⟩=some (.int .i64 r.v)∧w'.cell? ⟨b,off+(m+1) * 7+2,none⟩=some (.string r.h)∧w'.cell? ⟨b,off+(m+1) * 7+3,none⟩=some (.int .i64 r.p)∧w'.cell? ⟨b,off+(m+1) * 7+4,none⟩=some (.int .i64 r.s)∧w'.cell? ⟨b,off+(m+1) * 7+5,none⟩=some (.int .i64 r.d)∧w'.cell? ⟨b,off+(m+1) * 7+6,none⟩=some (.int .i64 r.g))∧w'.cell? ⟨b,off+m * 7,none⟩=some (.string q.c))) (by kernel_rfl) (keep2 Hr.out Hq.out g1 z1 bD) (fun hHeld=>?_)
    refine tkV 0 ?_
    try simp only [sp]
    refine tkV 1 ?_
    try simp only [sp]
    refine tkV 2 ?_
    try simp only [sp]
    refine tkV 3 ?_
    try simp only [sp]
    refine wpAnyH_ready (rs:=[4]) (by kernel_rfl) (by simp) ?_
    refine AllReadyH.cons rfl (fun K hK=>?_) AllReadyH.nil
    go_simp
    refine (specWant_q r.c r.h r.v r.p r.s r.d r.g _ hf.1 hf.2 true hok).mono ?_; rintro e w1 ⟨rfl,hb⟩
    go_wp2_with fail
    refine hK.out _ _ (keep2 Hr.out Hq.out g1 z1 (bl_trans bD hb)) (fun hHeld1=>?_)
    clear hK K hHeld
    try simp only [sp]
    refine tkV 5 ?_
    try simp only [sp]
    refine tkV 6 ?_
    try simp only [sp]
    refine tkV 7 ?_
    try simp only [sp]
    refine tkV 8 ?_
    try simp only [sp]
    refine tkV 9 ?_
    try simp only [sp]
    refine tkV 10 ?_
    try simp only [sp]
    refine tkV 11 ?_
    try simp only [sp]
    refine tkV 12 ?_
    try simp only [sp]
    refine tkV 13 ?_
    try simp only [sp]
    refine tkV 14 ?_
    try simp only [sp]
    refine tkV 15 ?_
    try simp only [sp]
    refine tkV 16 ?_
    try simp only [sp]
    refine tkV 17 ?_
    try simp only [sp]
    refine tkV 18 ?_
    try simp only [sp]
    refine tkV 19 ?_
    try simp only [sp]
    refine tkV 20 ?_
    try simp only [sp]
    refine tkV 21 ?_
    try simp only [sp]
    refine tkV 22 ?_
    try simp only [sp]
    refine tkV 23 ?_
    try simp only [sp]
    refine wpAnyH_done (by kernel_rfl) ?_ _
    refine NoPanic.normal ?_
    go_wp2
    go_ret
    exact ⟨⟨false,rfl,says_no (fun _ h=>by have:=h.2.1 m q r hlt Hq.out Hr.out; simp [ascB,hasc] at this)⟩,bl_trans hB (bl_trans bD hb)⟩
   go_wp2_with fail
   refine wp_region_noPanic ?_
   refine wp_region_held_drew (S:=(fun w'=>Below wr.heap.size wr w'∧(w'.cell? ⟨b,off+(m+1) * 7,none⟩=some (.string r.c)∧w'.cell? ⟨b,off+(m+1) * 7+1,none⟩=some (.int .i64 r.v)∧w'.cell? ⟨b,off+(m+1) * 7+2,none⟩=some (.string r.h)∧w'.cell? ⟨b,off+(m+1) * 7+3,none⟩=some (.int .i64 r.p)∧w'.cell? ⟨b,off+(m+1) * 7+4,none⟩=some (.int .i64 r.s)∧w'.cell? ⟨b,off+(m+1) * 7+5,none⟩=some (.int .i64 r.d)∧w'.cell? ⟨b,off+(m+1) * 7+6,none⟩=some (.int .i64 r.g))∧w'.cell? ⟨b,off+m * 7,none⟩=some (.string q.c))) (by kernel_rfl) (keep2 Hr.out Hq.out g1 z1 bD) (fun hHeld=>?_)
   refine tkV 0 ?_
   try simp only [sp]
   refine tkV 1 ?_
   try simp only [sp]
   refine tkV 2 ?_
   try simp only [sp]
   refine tkV 3 ?_
   try simp only [sp]
   refine wpAnyH_ready (rs:=[4]) (by kernel_rfl) (by simp) ?_
   refine AllReadyH.cons rfl (fun K hK=>?_) AllReadyH.nil
   go_simp
   refine (specWant_q r.c r.h r.v r.p r.s r.d r.g _ hf.1 hf.2 true hok).mono ?_; rintro e w1 ⟨rfl,hb⟩
   go_wp2_with fail
   refine hK.out _ _ (keep2 Hr.out Hq.out g1 z1 (bl_trans bD hb)) (fun hHeld1=>?_)
   clear hK K hHeld
   try simp only [sp]
   refine tkV 5 ?_
   try simp only [sp]
   refine tkV 6 ?_
   try simp only [sp]
   refine tkV 7 ?_
   try simp only [sp]
   refine tkV 8 ?_
   try simp only [sp]
   refine tkV 9 ?_
   try simp only [sp]
   refine tkV 10 ?_
   try simp only [sp]
   refine tkV 11 ?_
   try simp only [sp]
   refine tkV 12 ?_
   try simp only [sp]
   refine tkV 13 ?_
   try simp only [sp]
   refine tkV 14 ?_
   try simp only [sp]
   refine tkV 15 ?_
   try simp only [sp]
   refine tkV 16 ?_
   try simp only [sp]
   refine tkV 17 ?_
   try simp only [sp]
   refine tkV 18 ?_
   try simp only [sp]
   refine tkV 19 ?_
   try simp only [sp]
   refine tkV 20 ?_
   try simp only [sp]
   refine tkV 21 ?_
   try simp only [sp]
   refine tkV 22 ?_
   try simp only [sp]
   refine tkV 23 ?_
   try simp only [sp]
   refine wpAnyH_done (by kernel_rfl) ?_ _
   refine NoPanic.normal ?_
   have bo:=bl_trans hB (bl_trans bD hb)
   have g2:=hR.keep l1 bo
   have z2:b < w1.heap.size:=Nat.lt_of_lt_of_le l1 bo.size
   clear hB hb hHeld1 g1 z1 wr
   go_wp2_with fail
   go_loopw [4] (fun j wx=>∃ (n:Nat),n≤(m+1)∧j=.int .i64 n∧Hid (NoneOf ws r n)∧Below w.heap.size w wx) (fun j _=>(m+1) - (intOf j).toNat)
   case atStart=>exact ⟨0,Nat.zero_le _,rfl,fun i q h=>by omega,bo⟩
   obtain ⟨n,hn,rfl,Hn,hBn⟩:=hrel
   by_cases hnl:n < (m+1)
   ·
    obtain ⟨t,ht⟩:∃ t,ws[n]?=some t:=⟨ws[n],List.getElem?_eq_getElem (by omega)⟩
    have Ht:=hidP ht
    clear ht
    have g3:=hR.keep l1 hBn
    have z3:b < wr.heap.size:=Nat.lt_of_lt_of_le l1 hBn.size
    have j0:(0:Int)≤(n:Int):=by omega
    have j1:(n:Int) < (ws.length:Int):=by omega
    have j2:(n:Int) < (m:Int)+1:=by omega
    have cr:=hold_at Hr.out g3
    have ct:=hold_at Ht.out g3
    cases he:r.h.toList.isEmpty
    ·
     cases hcl:(t.h.toList == r.h.toList)
     ·
      go_wp2_with fail
      refine wp_region_noPanic ?_
      refine wp_region_held_drew (S:=(fun w'=>w'.cell? ⟨b,off+(m+1) * 7+2,none⟩=some (.string r.h)∧w'.cell? ⟨b,off+n * 7+2,none⟩=some (.string t.h))) (by kernel_rfl) (⟨by go_simp,by go_simp⟩) (fun hHeld=>?_)
      refine tkV 0 ?_
      try simp only [sp]
      refine tkV 1 ?_
      try simp only [sp]
      refine tkV 2 ?_
      try simp only [sp]
      refine tkV 3 ?_
      try simp only [sp]
      refine tkV 4 ?_
      try simp only [sp]
      refine tkV 5 ?_
      try simp only [sp]
      refine tkV 6 ?_
      try simp only [sp]
      refine tkV 7 ?_
      try simp only [sp]
      refine tkV 8 ?_
      try simp only [sp]
      refine tkV 9 ?_
      try simp only [sp]
      refine tkV 10 ?_
      try simp only [sp]
      refine tkV 11 ?_
      try simp only [sp]
      refine tkV 12 ?_
      try simp only [sp]
      refine tkV 13 ?_
      try simp only [sp]
      refine tkV 14 ?_
      try simp only [sp]
      refine tkV 15 ?_
      try simp only [sp]
      refine tkV 16 ?_
      try simp only [sp]
      refine tkV 17 ?_
      try simp only [sp]
      refine tkV 18 ?_
      try simp only [sp]
      refine wpAnyH_done (by kernel_rfl) ?_ _
      refine NoPanic.normal ?_
      go_wp2
      exact ⟨⟨n+1,by omega,by go_num,NoneOf.step Hn.out Ht.out (by simp [clash,he,hcl]),bl_drew hBn⟩,by simp [intOf]; omega⟩
     go_wp2_with fail
     refine wp_region_noPanic ?_
     refine wp_region_held_drew (S:=(fun w'=>w'.cell? ⟨b,off+(m+1) * 7+2,none⟩=some (.string r.h)∧w'.cell? ⟨b,off+n * 7+2,none⟩=some (.string t.h))) (by kernel_rfl) (⟨by go_simp,by go_simp⟩) (fun hHeld=>?_)
     refine tkV 0 ?_
     try simp only [sp]
     refine tkV 1 ?_
     try simp only [sp]
     refine tkV 2 ?_
     try simp only [sp]
     refine tkV 3 ?_
     try simp only [sp]
     refine tkV 4 ?_
     try simp only [sp]
     refine tkV 5 ?_
     try simp only [sp]
     refine tkV 6 ?_
     try simp only [sp]
     refine tkV 7 ?_
     try simp only [sp]
     refine tkV 8 ?_
     try simp only [sp]
     refine tkV 9 ?_
     try simp only [sp]
     refine tkV 10 ?_
     try simp only [sp]
     refine tkV 11 ?_
     try simp only [sp]
     refine tkV 12 ?_
     try simp only [sp]
     refine tkV 13 ?_
     try simp only [sp]
     refine tkV 14 ?_
     try simp only [sp]
     refine tkV 15 ?_
     try simp only [sp]
     refine tkV 16 ?_
     try simp only [sp]
     refine tkV 17 ?_
     try simp only [sp]
     refine tkV 18 ?_
     try simp only [sp]
     refine wpAnyH_done (by kernel_rfl) ?_ _
     refine NoPanic.normal ?_
     go_wp2
     go_ret
     exact ⟨⟨false,rfl,says_no (fun _ h=>by have:=h.2.2 _ r hlt Hr.out n t hnl Ht.out; simp [clash,he,hcl] at this)⟩,bl_drew hBn⟩
    go_wp2_with fail
    refine wp_region_noPanic ?_
    refine wp_region_held_drew (S:=(fun w'=>w'.cell? ⟨b,off+(m+1) * 7+2,none⟩=some (.string r.h)∧w'.cell? ⟨b,off+n * 7+2,none⟩=some (.string t.h))) (by kernel_rfl) (⟨by go_simp,by go_simp⟩) (fun hHeld=>?_)
    refine tkV 0 ?_
    try simp only [sp]
    refine tkV 1 ?_
    try simp only [sp]
    refine tkV 2 ?_
    try simp only [sp]
    refine tkV 3 ?_
    try simp only [sp]
    refine tkV 4 ?_
    try simp only [sp]
    refine tkV 5 ?_
    try simp only [sp]
    refine tkV 6 ?_
    try simp only [sp]
    refine tkU 7 ?_
    refine tkU 8 ?_
    try simp only [sp]
    refine tkU 9 ?_
    refine tkU 10 ?_
    refine tkU 11 ?_
    try simp only [sp]
    refine tkU 12 ?_
    refine tkU 13 ?_
    refine tkU 14 ?_
    try simp only [sp]
    refine tkU 15 ?_
    refine tkU 16 ?_
    refine tkU 17 ?_
    try simp only [sp]
    refine tkV 18 ?_
    try simp only [sp]
    refine wpAnyH_done (by kernel_rfl) ?_ _
    refine NoPanic.normal ?_
    go_wp2
    exact ⟨⟨n+1,by omega,by go_num,NoneOf.step Hn.out Ht.out (by simp [clash,he]),bl_drew hBn⟩,by simp [intOf]; omega⟩
   have hne:n=(m+1):=by omega
   subst hne
   go_wp2
   exact ⟨⟨m+1+1,by omega,by go_num,⟨Ha.out.1.step Hr.out (by simpa [WantD.ok] using hok),Ha.out.2.1.step Hq.out Hr.out (by simpa [ascB] using hasc),Ha.out.2.2.step Hr.out Hn.out⟩,hBn⟩,by simp [intOf]; omega⟩
  go_wp2
  go_ret
  exact ⟨⟨true,rfl,says_yes Ha.out (by omega) (by omega)⟩,hB⟩
end Go.Proofs.YtcjhlhijdacinaaGreatDoor.W
namespace Go.Proofs.YtcjhlhijdacinaaGreatDoor
open Go.RowKit
set_option linter.unusedVariables false
theorem W.specWants_zero (a:Option Addr) (cap:Nat) (w:World) :
  Calls Tryz.prog 44 #[.slice a 0 cap] w fun e w'=>e=.returned (.bool true)∧w'=w:=by
 go_enter Tryz.func44,Tryz.ntmps44
 go_wp2
 refine wp_loop_rounds 1 ?_
 rw [rounds_succ]
 go_wp2
 go_ret
 exact ⟨rfl,rfl⟩
theorem W.specWantsOk_gv (a:Option Addr) (cap:Nat) (ws:List W.WantD) (w:World) (h:W.Gv w a ws) (hfit:∀ r∈ws,r.fits) (hl:ws.length≤1048576) :
  Calls Tryz.prog 44 #[.slice a ws.length cap] w fun e w'=>(∃ q:Bool,e=.returned (.bool q)∧W.Says q ws)∧Below w.heap.size w w':=by
 rcases h with rfl | ⟨b,rfl,hb,hR⟩
 ·
  refine (W.specWants_zero a cap w).mono ?_
  rintro e w' ⟨rfl,rfl⟩
  exact ⟨⟨true,rfl,⟨fun _=>⟨by simp,(fun j r hj hr=>by simp at hr),(fun j q r hj hq hr=>by simp at hq),(fun j r hj hr=>by simp at hr)⟩,fun _=>rfl⟩⟩,Below.refl _ _⟩
 · exact W.specWantsOk b 0 cap ws w hR hb hfit hl
end Go.Proofs.YtcjhlhijdacinaaGreatDoor
namespace Go.Proofs.YtcjhlhijdacinaaGreatDoor.W
open Go.RowKit
set_option linter.unusedVariables false
set_option maxRecDepth 4000 in
set_option maxHeartbeats 1000000 in
theorem allOk (P:WantD→Bool) (b off cap:Nat) (rs:List WantD) (w:World) (hR:RowsAt w b off rs) (l1:b < w.heap.size) (hl:rs.length≤1048576)
  (hF:∀ r∈rs,∀ x,Below w.heap.size w x→Calls Tryz.prog 98 #[.agg #[.string r.c,.int .i64 r.v,.string r.h,.int .i64 r.p,.int .i64 r.s,.int .i64 r.d,.int .i64 r.g]] x fun e x'=>e=.returned (.bool (P r))∧Below x.heap.size x x') :
  Calls Tryz.prog 97 #[.slice (some ⟨b,off,none⟩) rs.length cap,.func (.func 98) #[] #[]] w fun e w'=>(∃ q:Bool,e=.returned (.bool q)∧(q=true↔∀ r∈rs,P r=true))∧Below w.heap.size w w':=by
 have HF:=hidP hF
 clear hF
 go_enter Tryz.func97,Tryz.ntmps97
 go_wp2
 go_loopw [9] (fun i wx=>∃ (k:Nat),k≤rs.length∧i=.int .i64 k∧Hid (∀ j r,j < k→rs[j]?=some r→P r=true)∧Below w.heap.size w wx) (fun i _=>rs.length - (intOf i).toNat)
 case atStart=>exact ⟨0,Nat.zero_le _,rfl,fun j r h=>by omega,Below.refl _ _⟩
 case round =>
  obtain ⟨k,hk,rfl,Ha,hB⟩:=hrel
  by_cases hlt:k < rs.length
  ·
   obtain ⟨r,hr⟩:∃ r,rs[k]?=some r:=⟨rs[k],List.getElem?_eq_getElem hlt⟩
   have Hr:=hidP hr
   clear hr
   obtain ⟨c0,c1,c2,c3,c4,c5,c6⟩:=(hR.keep l1 hB).at Hr.out
   go_wp2_with fail
   refine (HF.out r (List.mem_of_getElem? Hr.out) _ (bl_alloc hB _)).mono ?_
   rintro e w1 ⟨rfl,hb⟩
   have hB1:=bl_trans (bl_alloc hB _) hb
   have Hb1:=hidP hB1
   clear hB hb hB1
   cases hP:P r
   ·
    go_wp2
    go_ret
    exact ⟨⟨false,rfl,⟨fun h=>(by cases h),fun h=>by have:=h r (List.mem_of_getElem? Hr.out); rw [hP] at this; cases this⟩⟩,Hb1.out⟩
   go_wp2
   exact ⟨⟨k+1,by omega,by go_num,(fun j q hj hq=>by
    by_cases e:j=k
    · subst e; have hh:=Hr.out; rw [hh] at hq; cases hq; exact hP
    exact Ha.out j q (by omega) hq),Hb1.out⟩,by simp [intOf]; omega⟩
  go_wp2
  go_ret
  exact ⟨⟨true,rfl,⟨fun _ r hr=>by
   obtain ⟨j,hj⟩:=List.getElem?_of_mem hr
   have hjl:j < rs.length:=(List.getElem?_eq_some_iff.1 hj).1
   exact Ha.out j r (by omega) hj,fun _=>rfl⟩⟩,hB⟩
theorem name_any (r:WantD) (w:World) :
  Calls Tryz.prog 100 #[.agg #[.string r.c,.int .i64 r.v,.string r.h,.int .i64 r.p,.int .i64 r.s,.int .i64 r.d,.int .i64 r.g]] w fun e w'=>e=.returned (.string r.c)∧Below w.heap.size w w':=by
 go_enter Tryz.func100,Tryz.ntmps100
 go_wp2
 go_ret
 exact ⟨rfl,by repeat (first | exact Below.refl _ _ | refine bl_alloc ?_ _)⟩
def AscN (rs:List WantD) (n:Nat):Prop:=∀ j q r,j+1 < n→rs[j]?=some q→rs[j+1]?=some r→Op.bytesLess q.c.toList r.c.toList=true
theorem AscN.step {rs:List WantD} {k:Nat} {q r:WantD} (h:AscN rs (k+1)) (hq:rs[k]?=some q) (hr:rs[k+1]?=some r) (hs:Op.bytesLess q.c.toList r.c.toList=true):AscN rs (k+1+1):=by
 intro j q' r' hj hq' hr'
 by_cases e:j=k
 · subst e; rw [hq] at hq'; rw [hr] at hr'; cases hq'; cases hr'; exact hs
 exact h j q' r' (by omega) hq' hr'
theorem keepAsc {x w':World} {b off m:Nat} {rs:List WantD} {r q:WantD} (hk:rs[m+1]?=some r) (hq:rs[m]?=some q) (h1:RowsAt x b off rs) (l1:b < x.heap.size) (hb:Below x.heap.size x w') :
  Below x.heap.size x w'∧(w'.cell? ⟨b,off+(m+1) * 7,none⟩=some (.string r.c)∧w'.cell? ⟨b,off+(m+1) * 7+1,none⟩=some (.int .i64 r.v)∧w'.cell? ⟨b,off+(m+1) * 7+2,none⟩=some (.string r.h)∧w'.cell? ⟨b,off+(m+1) * 7+3,none⟩=some (.int .i64 r.p)∧w'.cell? ⟨b,off+(m+1) * 7+4,none⟩=some (.int .i64 r.s)∧w'.cell? ⟨b,off+(m+1) * 7+5,none⟩=some (.int .i64 r.d)∧w'.cell? ⟨b,off+(m+1) * 7+6,none⟩=some (.int .i64 r.g))∧(w'.cell? ⟨b,off+m * 7,none⟩=some (.string q.c)∧w'.cell? ⟨b,off+m * 7+1,none⟩=some (.int .i64 q.v)∧w'.cell? ⟨b,off+m * 7+2,none⟩=some (.string q.h)∧w'.cell? ⟨b,off+m * 7+3,none⟩=some (.int .i64 q.p)∧w'.cell? ⟨b,off+m * 7+4,none⟩=some (.int .i64 q.s)∧w'.cell? ⟨b,off+m * 7+5,none⟩=some (.int .i64 q.d)∧w'.cell? ⟨b,off+m * 7+6,none⟩=some (.int .i64 q.g)):=⟨hb,(h1.keep l1 hb).at hk,(h1.keep l1 hb).at hq⟩
set_option maxRecDepth 4000 in
set_option maxHeartbeats 2000000 in
theorem ascends (b off cap:Nat) (rs:List WantD) (w:World) (hR:RowsAt w b off rs) (l1:b < w.heap.size) (hl:rs.length≤1048576) :
  Calls Tryz.prog 99 #[.slice (some ⟨b,off,none⟩) rs.length cap,.func (.func 100) #[] #[]] w fun e w'=>(∃ q:Bool,e=.returned (.bool q)∧(q=true↔AscN rs rs.length))∧Below w.heap.size w w':=by
 go_enter Tryz.func99,Tryz.ntmps99
 go_wp2
 go_loopw [5] (fun i wx=>∃ (m:Nat),m≤rs.length∧i=.int .i64 ((m:Int)+1)∧Hid (AscN rs (m+1))∧Below w.heap.size w wx) (fun i _=>rs.length+1 - (intOf i).toNat)
 case atStart=>exact ⟨0,Nat.zero_le _,rfl,(fun j q r hj _ _=>by omega),Below.refl _ _⟩
 case round =>
  obtain ⟨m,hk,rfl,Ha,hB⟩:=hrel
  by_cases hlt:m+1 < rs.length
  ·
   obtain ⟨r,hr⟩:∃ r,rs[m+1]?=some r:=⟨rs[m+1],List.getElem?_eq_getElem hlt⟩
   obtain ⟨q,hq⟩:∃ q,rs[m]?=some q:=⟨rs[m],List.getElem?_eq_getElem (by omega)⟩
   have Hr:=hidP hr
   have Hq:=hidP hq
   clear hr hq
   have g1:=hR.keep l1 hB
   have z1:b < wr.heap.size:=Nat.lt_of_lt_of_le l1 hB.size
   have i0:(0:Int)≤(m:Int):=by omega
   have i1:(m:Int)+1 < (rs.length:Int):=by omega
   have i2:(m:Int) < (rs.length:Int):=by omega
   have i3:(0:Int)≤(m:Int)+1:=by omega
   have iw:IntKind.i64.wrap (m:Int)=(m:Int):=by rw [IntKind.wrap_i64]; omega
   cases hasc:Op.bytesLess q.c.toList r.c.toList
   ·
    go_wp2_with fail
    go_region_held3 (fun w'=>Below wr.heap.size wr w'∧(w'.cell? ⟨b,off+(m+1) * 7,none⟩=some (.string r.c)∧w'.cell? ⟨b,off+(m+1) * 7+1,none⟩=some (.int .i64 r.v)∧w'.cell? ⟨b,off+(m+1) * 7+2,none⟩=some (.string r.h)∧w'.cell? ⟨b,off+(m+1) * 7+3,none⟩=some (.int .i64 r.p)∧w'.cell? ⟨b,off+(m+1) * 7+4,none⟩=some (.int .i64 r.s)∧w'.cell? ⟨b,off+(m+1) * 7+5,none⟩=some (.int .i64 r.d)∧w'.cell? ⟨b,off+(m+1) * 7+6,none⟩=some (.int .i64 r.g))∧(w'.cell? ⟨b,off+m * 7,none⟩=some (.string q.c)∧w'.cell? ⟨b,off+m * 7+1,none⟩=some (.int .i64 q.v)∧w'.cell? ⟨b,off+m * 7+2,none⟩=some (.string q.h)∧w'.cell? ⟨b,off+m * 7+3,none⟩=some (.int .i64 q.p)∧w'.cell? ⟨b,off+m * 7+4,none⟩=some (.int .i64 q.s)∧w'.cell? ⟨b,off+m * 7+5,none⟩=some (.int .i64 q.d)∧w'.cell? ⟨b,off+m * 7+6,none⟩=some (.int .i64 q.g)))
     (first | exact keepAsc Hr.out Hq.out g1 z1 bD | exact keepAsc Hr.out Hq.out g1 z1 (bl_trans bD hx) | exact keepAsc Hr.out Hq.out g1 z1 (bl_trans (bl_trans bD hx) hy))
     (first | (go_at_call 100; refine (name_any q _).mono ?_; rintro e w' ⟨rfl,hx⟩) | (go_at_call 100; refine (name_any r _).mono ?_; rintro e w'' ⟨rfl,hy⟩))
    have y1:=bl_trans (bl_trans (bl_drew (Below.refl _ wr)) hx) hy
    have Hb1:=hidP (bl_trans hB y1)
    clear hx hy y1 hB g1
    go_wp2
    go_ret
    exact ⟨⟨false,rfl,⟨fun h=>(by cases h),fun h=>by have:=h m q r (by omega) Hq.out Hr.out; rw [hasc] at this; cases this⟩⟩,Hb1.out⟩
   go_wp2_with fail
   go_region_held3 (fun w'=>Below wr.heap.size wr w'∧(w'.cell? ⟨b,off+(m+1) * 7,none⟩=some (.string r.c)∧w'.cell? ⟨b,off+(m+1) * 7+1,none⟩=some (.int .i64 r.v)∧w'.cell? ⟨b,off+(m+1) * 7+2,none⟩=some (.string r.h)∧w'.cell? ⟨b,off+(m+1) * 7+3,none⟩=some (.int .i64 r.p)∧w'.cell? ⟨b,off+(m+1) * 7+4,none⟩=some (.int .i64 r.s)∧w'.cell? ⟨b,off+(m+1) * 7+5,none⟩=some (.int .i64 r.d)∧w'.cell? ⟨b,off+(m+1) * 7+6,none⟩=some (.int .i64 r.g))∧(w'.cell? ⟨b,off+m * 7,none⟩=some (.string q.c)∧w'.cell? ⟨b,off+m * 7+1,none⟩=some (.int .i64 q.v)∧w'.cell? ⟨b,off+m * 7+2,none⟩=some (.string q.h)∧w'.cell? ⟨b,off+m * 7+3,none⟩=some (.int .i64 q.p)∧w'.cell? ⟨b,off+m * 7+4,none⟩=some (.int .i64 q.s)∧w'.cell? ⟨b,off+m * 7+5,none⟩=some (.int .i64 q.d)∧w'.cell? ⟨b,off+m * 7+6,none⟩=some (.int .i64 q.g)))
    (first | exact keepAsc Hr.out Hq.out g1 z1 bD | exact keepAsc Hr.out Hq.out g1 z1 (bl_trans bD hx) | exact keepAsc Hr.out Hq.out g1 z1 (bl_trans (bl_trans bD hx) hy))
    (first | (go_at_call 100; refine (name_any q _).mono ?_; rintro e w' ⟨rfl,hx⟩) | (go_at_call 100; refine (name_any r _).mono ?_; rintro e w'' ⟨rfl,hy⟩))
   have y1:=bl_trans (bl_trans (bl_drew (Below.refl _ wr)) hx) hy
   have Hb1:=hidP (bl_trans hB y1)
   clear hx hy y1 hB g1
   go_wp2
   exact ⟨⟨m+1,by omega,by go_num,Ha.out.step Hq.out Hr.out hasc,Hb1.out⟩,by simp [intOf]; omega⟩
  go_wp2
  go_ret
  exact ⟨⟨true,rfl,⟨fun _ j q r hj hq hr=>Ha.out j q r (by omega) hq hr,fun _=>rfl⟩⟩,hB⟩
end Go.Proofs.YtcjhlhijdacinaaGreatDoor.W
namespace Go.Proofs.YtcjhlhijdacinaaGreatDoor.W
open Go.RowKit
set_option linter.unusedVariables false
theorem boxlt {w w1:World} {o:Obj} (h:Below (w.alloc o).heap.size (w.alloc o) w1):w.heap.size < w1.heap.size:=by have:=h.size; simp at this; omega
theorem fewWants_any (a:Option Addr) (n cap:Nat) (w:World) :
  Calls Tryz.prog 82 #[.slice a n cap] w fun e w'=>e=.returned (.bool (decide (n≤10)))∧w'=w:=by
 by_cases h:n≤10
 ·
  go_enter Tryz.func82,Tryz.ntmps82
  go_wp2
  go_ret
  exact ⟨ret_b (by simp; omega),rfl⟩
 ·
  go_enter Tryz.func82,Tryz.ntmps82
  go_wp2
  go_ret
  exact ⟨ret_b (by simp; omega),rfl⟩
theorem each_iff (ws:List WantD):Each ws ws.length↔∀ r∈ws,r.ok=true:=by
 constructor
 ·
  intro h r hr
  obtain ⟨j,hj⟩:=List.getElem?_of_mem hr
  exact h j r (List.getElem?_eq_some_iff.1 hj).1 hj
 intro h j r _ hr
 exact h r (List.mem_of_getElem? hr)
theorem eachWant (b off cap:Nat) (ws:List WantD) (w:World) (hR:RowsAt w b off ws) (l1:b < w.heap.size) (hfit:∀ r∈ws,r.fits) (hl:ws.length≤10) :
  Calls Tryz.prog 83 #[.slice (some ⟨b,off,none⟩) ws.length cap] w fun e w'=>(∃ q:Bool,e=.returned (.bool q)∧(q=true↔Each ws ws.length))∧Below w.heap.size w w':=by
 go_enter Tryz.func83,Tryz.ntmps83
 go_wp2_with fail
 refine (allOk (fun r=>r.ok) b off cap ws w hR l1 (by omega) (fun r hr x _=>implWant_any r.c r.h r.v r.p r.s r.d r.g x (hfit r hr).1 (hfit r hr).2)).mono ?_
 rintro e w1 ⟨⟨q,rfl,h⟩,hb⟩
 have H:=hidP h
 clear h
 go_wp2
 go_ret
 exact ⟨⟨q,rfl,by rw [each_iff]; exact H.out⟩,hb⟩
theorem ascendWants (b off cap:Nat) (ws:List WantD) (w:World) (hR:RowsAt w b off ws) (l1:b < w.heap.size) (hl:ws.length≤10) :
  Calls Tryz.prog 84 #[.slice (some ⟨b,off,none⟩) ws.length cap] w fun e w'=>(∃ q:Bool,e=.returned (.bool q)∧(q=true↔Asc ws ws.length))∧Below w.heap.size w w':=by
 go_enter Tryz.func84,Tryz.ntmps84
 go_wp2_with fail
 refine (ascends b off cap ws w hR l1 (by omega)).mono ?_
 rintro e w1 ⟨⟨q,rfl,h⟩,hb⟩
 have H:=hidP h
 clear h
 go_wp2
 go_ret
 exact ⟨⟨q,rfl,H.out⟩,hb⟩
theorem build_all (w:World):Sem.run Tryz.prog (Instr.buildSlice 118 4 #[(0,.func (.func 82) #[] #[]),(1,.func (.func 83) #[] #[]),(2,.func (.func 84) #[] #[]),(3,.func (.func 65) #[] #[])]) w=.ok (.slice (some ⟨w.heap.size,0,none⟩) 4 4) (w.alloc (.cells #[.func (.func 82) #[] #[],.func (.func 83) #[] #[],.func (.func 84) #[] #[],.func (.func 65) #[] #[]] 81)):=by kernel_rfl
end Go.Proofs.YtcjhlhijdacinaaGreatDoor.W
namespace Go.Proofs.YtcjhlhijdacinaaGreatDoor
open Go.RowKit
set_option linter.unusedVariables false
def AscN (rs:List RunD) (n:Nat):Prop:=∀ j q r,j+1 < n→rs[j]?=some q→rs[j+1]?=some r→Op.bytesLess q.c.toList r.c.toList=true
theorem AscN.step {rs:List RunD} {k:Nat} {q r:RunD} (h:AscN rs (k+1)) (hq:rs[k]?=some q) (hr:rs[k+1]?=some r) (hs:Op.bytesLess q.c.toList r.c.toList=true):AscN rs (k+1+1):=by
 intro j q' r' hj hq' hr'
 by_cases e:j=k
 · subst e; rw [hq] at hq'; rw [hr] at hr'; cases hq'; cases hr'; exact hs
 exact h j q' r' (by omega) hq' hr'
theorem keepAsc {x w':World} {b off m:Nat} {rs:List RunD} {r q:RunD} (hk:rs[m+1]?=some r) (hq:rs[m]?=some q) (h1:RowsAt x b off rs) (l1:b < x.heap.size) (hb:Below x.heap.size x w') :
  Below x.heap.size x w'∧(w'.cell? ⟨b,off+(m+1) * 11,none⟩=some (.string r.c)∧w'.cell? ⟨b,off+(m+1) * 11+1,none⟩=some (.int .i64 r.v)∧w'.cell? ⟨b,off+(m+1) * 11+2,none⟩=some (.string r.h)∧w'.cell? ⟨b,off+(m+1) * 11+3,none⟩=some (.int .i64 r.p)∧w'.cell? ⟨b,off+(m+1) * 11+4,none⟩=some (.int .i64 r.s)∧w'.cell? ⟨b,off+(m+1) * 11+5,none⟩=some (.int .i64 r.d)∧w'.cell? ⟨b,off+(m+1) * 11+6,none⟩=some (.int .i64 r.g)∧w'.cell? ⟨b,off+(m+1) * 11+7,none⟩=some (.int .i64 r.a)∧w'.cell? ⟨b,off+(m+1) * 11+8,none⟩=some (.int .i64 r.b)∧w'.cell? ⟨b,off+(m+1) * 11+9,none⟩=some (.int .i64 r.i)∧w'.cell? ⟨b,off+(m+1) * 11+10,none⟩=some (.int .i64 r.u))∧(w'.cell? ⟨b,off+m * 11,none⟩=some (.string q.c)∧w'.cell? ⟨b,off+m * 11+1,none⟩=some (.int .i64 q.v)∧w'.cell? ⟨b,off+m * 11+2,none⟩=some (.string q.h)∧w'.cell? ⟨b,off+m * 11+3,none⟩=some (.int .i64 q.p)∧w'.cell? ⟨b,off+m * 11+4,none⟩=some (.int .i64 q.s)∧w'.cell? ⟨b,off+m * 11+5,none⟩=some (.int .i64 q.d)∧w'.cell? ⟨b,off+m * 11+6,none⟩=some (.int .i64 q.g)∧w'.cell? ⟨b,off+m * 11+7,none⟩=some (.int .i64 q.a)∧w'.cell? ⟨b,off+m * 11+8,none⟩=some (.int .i64 q.b)∧w'.cell? ⟨b,off+m * 11+9,none⟩=some (.int .i64 q.i)∧w'.cell? ⟨b,off+m * 11+10,none⟩=some (.int .i64 q.u)):=⟨hb,(h1.keep l1 hb).at hk,(h1.keep l1 hb).at hq⟩
def SaysP (q:Bool) (m:MateD):Prop:=q=true↔partsB m=true
end Go.Proofs.YtcjhlhijdacinaaGreatDoor
namespace Go.Proofs.YtcjhlhijdacinaaGreatDoor.P
open Go.RowKit
set_option linter.unusedVariables false
theorem timeOk_any (t:Int) (a1 a2:Option Addr) (n1 c1 n2 c2:Nat) (w:World) :
  Calls Tryz.prog 35 #[.agg #[.int .i64 t,.slice a1 n1 c1,.slice a2 n2 c2]] w fun e w'=>e=.returned (.bool (timeB t))∧Below w.heap.size w w':=by
 cases q1:inB t 0 2000000
 ·
  go_enter Tryz.func35,Tryz.ntmps35
  go_wp2_with (go_at_call 55; refine (within_any _ _ _ _).mono ?_; rintro e w' ⟨rfl,rfl⟩)
  go_ret
  exact ⟨ret_b (by simp [timeB,q1]),bl_alloc bR _⟩
 ·
  have h0:0≤t:=by simp [inB] at q1; omega
  by_cases q2:t % 2=0
  ·
   go_enter Tryz.func35,Tryz.ntmps35
   go_wp2_with (go_at_call 55; refine (within_any _ _ _ _).mono ?_; rintro e w' ⟨rfl,rfl⟩)
   go_ret
   exact ⟨ret_b (by simp [timeB,q1,q2]),bl_alloc bR _⟩
  go_enter Tryz.func35,Tryz.ntmps35
  go_wp2_with (go_at_call 55; refine (within_any _ _ _ _).mono ?_; rintro e w' ⟨rfl,rfl⟩)
  go_ret
  exact ⟨ret_b (by simp [timeB,q1,q2]),bl_alloc bR _⟩
set_option maxRecDepth 4000 in
set_option maxHeartbeats 1000000 in
theorem grantOk_any (r:G.GrantD) (t:Int) (w:World) (hf:r.fits) (h0:0≤t) (h1:t≤2000000) :
  Calls Tryz.prog 60 #[.agg #[.string r.h,.string r.b,.string r.c,.int .i64 r.t,.int .i64 r.u],.int .i64 t] w fun e w'=>e=.returned (.bool (grantB t r))∧Below w.heap.size w w':=by
 cases q1:holdB r.h
 ·
  skip
  go_enter Tryz.func60,Tryz.ntmps60
  go_wp2_with (first | (go_at_call 75; refine (implHold_any r.h _ hf.1).mono ?_; rintro e w' ⟨rfl,rfl⟩) | (go_at_call 68; refine (implName_any _ _ (by first | exact hf.2.1 | exact hf.2.2)).mono ?_; rintro e w' ⟨rfl,rfl⟩) | (go_at_call 55; refine (within_any _ _ _ _).mono ?_; rintro e w' ⟨rfl,rfl⟩))
  go_ret
  exact ⟨ret_b (by simp [grantB, *]),bl_alloc bR _⟩
 cases q2:nameB r.b
 ·
  skip
  go_enter Tryz.func60,Tryz.ntmps60
  go_wp2_with (first | (go_at_call 75; refine (implHold_any r.h _ hf.1).mono ?_; rintro e w' ⟨rfl,rfl⟩) | (go_at_call 68; refine (implName_any _ _ (by first | exact hf.2.1 | exact hf.2.2)).mono ?_; rintro e w' ⟨rfl,rfl⟩) | (go_at_call 55; refine (within_any _ _ _ _).mono ?_; rintro e w' ⟨rfl,rfl⟩))
  go_ret
  exact ⟨ret_b (by simp [grantB, *]),bl_alloc bR _⟩
 cases q3:nameB r.c
 ·
  skip
  go_enter Tryz.func60,Tryz.ntmps60
  go_wp2_with (first | (go_at_call 75; refine (implHold_any r.h _ hf.1).mono ?_; rintro e w' ⟨rfl,rfl⟩) | (go_at_call 68; refine (implName_any _ _ (by first | exact hf.2.1 | exact hf.2.2)).mono ?_; rintro e w' ⟨rfl,rfl⟩) | (go_at_call 55; refine (within_any _ _ _ _).mono ?_; rintro e w' ⟨rfl,rfl⟩))
  go_ret
  exact ⟨ret_b (by simp [grantB, *]),bl_alloc bR _⟩
 cases q4:inB r.t 0 1000000
 ·
  skip
  go_enter Tryz.func60,Tryz.ntmps60
  go_wp2_with (first | (go_at_call 75; refine (implHold_any r.h _ hf.1).mono ?_; rintro e w' ⟨rfl,rfl⟩) | (go_at_call 68; refine (implName_any _ _ (by first | exact hf.2.1 | exact hf.2.2)).mono ?_; rintro e w' ⟨rfl,rfl⟩) | (go_at_call 55; refine (within_any _ _ _ _).mono ?_; rintro e w' ⟨rfl,rfl⟩))
  go_ret
  exact ⟨ret_b (by simp [grantB, *]),bl_alloc bR _⟩
 go_enter Tryz.func60,Tryz.ntmps60
 go_wp2_with (first | (go_at_call 75; refine (implHold_any r.h _ hf.1).mono ?_; rintro e w' ⟨rfl,rfl⟩) | (go_at_call 68; refine (implName_any _ _ (by first | exact hf.2.1 | exact hf.2.2)).mono ?_; rintro e w' ⟨rfl,rfl⟩) | (go_at_call 55; refine (within_any _ _ _ _).mono ?_; rintro e w' ⟨rfl,rfl⟩))
 go_ret
 exact ⟨ret_b (by simp [grantB, *]),bl_alloc bR _⟩
theorem closGrant (r:G.GrantD) (t:Int) (bk:Nat) (w:World) (hc:w.cell? ⟨bk,0,none⟩=some (.int .i64 t)) (lk:bk < w.heap.size) (hf:r.fits) (h0:0≤t) (h1:t≤2000000) :
  Calls Tryz.prog 59 #[.agg #[.string r.h,.string r.b,.string r.c,.int .i64 r.t,.int .i64 r.u],.pointer (some ⟨bk,0,none⟩)] w fun e w'=>e=.returned (.bool (grantB t r))∧Below w.heap.size w w':=by
 go_enter Tryz.func59,Tryz.ntmps59
 go_wp2_with (go_at_call 60; refine (grantOk_any r t _ hf h0 h1).mono ?_; rintro e w' ⟨rfl,hx⟩)
 go_ret
 exact ⟨rfl,bl_trans (bl_alloc bR _) hx⟩
end Go.Proofs.YtcjhlhijdacinaaGreatDoor.P
