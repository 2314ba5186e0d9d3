import Derived.Test.YtcjhlhijdacinaaGreatDoorJ31
import Derived.Test.YtcjhlhijdacinaaGreatDoorJ26
import Derived.Test.YtcjhlhijdacinaaGreatDoorJ13
import Derived.Test.YtcjhlhijdacinaaGreatDoorJ35
namespace Go.Proofs.YtcjhlhijdacinaaGreatDoor
open Go.RowKit Go.Maps Go.WideMaps
set_option linter.unusedVariables false
theorem Ord.out_cut {α:Type} (key:α→List UInt8):∀ (l:List α) (k:Nat) (r:α),Ord.Srt key l→l[k]?=some r→l.take k++l.drop (k+1)=Ord.out key (key r) l
 | [],k,r,_,h=>by simp at h
 | x :: l,k,r,hs,h=>by
  have hs':Ord.Srt key l:=(List.pairwise_cons.1 hs).2
  have hx:=(List.pairwise_cons.1 hs).1
  cases k with
  | zero =>
   have e:x=r:=by simpa using h
   subst e
   unfold Ord.out
   rw [List.take_zero,List.nil_append,List.drop_succ_cons,List.drop_zero,List.filter_cons_of_neg (by simp)]
   refine (List.filter_eq_self.2 fun y hy=>?_).symm
   simpa using (Ord.before_ne (hx y hy)).symm
  | succ k =>
   have h':l[k]?=some r:=by simpa using h
   have ih:=Ord.out_cut key l k r hs' h'
   have hne:=Ord.before_ne (hx r (List.mem_of_getElem? h'))
   unfold Ord.out at ih ⊢
   rw [List.take_succ_cons,List.drop_succ_cons,List.cons_append,ih,List.filter_cons_of_pos (by simpa using hne)]
theorem Ord.insS_out {α:Type} (key:α→List UInt8) (r:α) {l:List α} (hs:Ord.Srt key l):Ord.insS key r (Ord.out key (key r) l)=Ord.insS key r l:=by
 have hs':Ord.Srt key (Ord.out key (key r) l):=List.Pairwise.filter _ hs
 rw [← Ord.ins_insS key r _ hs',← Ord.ins_insS key r l hs]
 unfold Ord.ins Ord.out
 rw [List.filter_filter]
 simp
def baseG (t:Int) (h:ByteArray) (gs:List G.GrantD):List G.GrantD:=if hasG h gs=true then Ord.out G.keyV h.data.toList gs else leftG t h gs
theorem base_has {t:Int} {h:ByteArray} {gs:List G.GrantD} (hh:hasG h gs=true):leftG t h gs=gs:=by
 unfold leftG roomG
 rw [hh]; rfl
theorem base_ins {t:Int} {p:TakeP} {gs:List G.GrantD} (hs:G.Srt gs):Ord.insS G.keyV (newG t p) (baseG t p.h gs)=Ord.insS G.keyV (newG t p) (leftG t p.h gs):=by
 unfold baseG
 split
 ·
  rename_i hh
  rw [base_has hh]
  exact Ord.insS_out G.keyV (newG t p) hs
 rfl
theorem out_len {h:ByteArray} {gs:List G.GrantD} (hh:hasG h gs=true):(Ord.out G.keyV h.data.toList gs).length < gs.length:=by
 obtain ⟨r,hr,he⟩:=List.any_eq_true.1 hh
 unfold Ord.out
 have h1:=List.length_filter_le (fun y=>!(G.keyV y == h.data.toList)) gs
 rcases Nat.lt_or_ge (gs.filter (fun y=>!(G.keyV y == h.data.toList))).length gs.length with h2 | h2
 · exact h2
 have h3:=List.length_filter_eq_length_iff.1 (Nat.le_antisymm h1 h2) r hr
 have e:r.h=h:=eqT_iff.1 he
 rw [G.keyV,e] at h3
 simp at h3
theorem base_room {t:Int} {h:ByteArray} {gs:List G.GrantD} (hl:gs.length≤40):roomG h (leftG t h gs)=decide ((baseG t h gs).length < 40):=by
 unfold baseG
 split
 ·
  rename_i hh
  have h1:=out_len hh
  rw [base_has hh,decide_eq_true (by omega)]
  unfold roomG
  rw [hh]; rfl
 rename_i hh
 have hf:hasG h gs=false:=by simpa using hh
 have hn:hasG h (leftG t h gs)=false:=has_none (fun g hg=>has_false hf g (left_mem g hg))
 unfold roomG
 rw [hn]; rfl
theorem base_srt {t:Int} {h:ByteArray} {gs:List G.GrantD} (hs:G.Srt gs):G.Srt (baseG t h gs):=by
 unfold baseG
 split
 · exact List.Pairwise.filter _ hs
 unfold leftG
 split
 · exact hs
 exact still_srt hs
theorem og_sl {B:Nat} {gs:List G.GrantD} {w:World} {v:Value} (h:OG B gs w v):G.Sl w v gs B:=G.Sl.of_owns h
structure Stg (xb:Nat) (t:Int) (s2:Value) (l:List G.GrantD) (a:Option Addr) (c:Nat) (y:World):Prop where
 k0:y.cell? ⟨xb,0,none⟩=some (.int .i64 t)
 k1:y.cell? ⟨xb,1,none⟩=some (.slice a l.length c)
 k2:y.cell? ⟨xb,2,none⟩=some s2
 f1:y.frozen? ⟨xb,1,none⟩=false
 z:xb < y.heap.size
 cap:l.length≤c
 r:G.Sl y (.slice a l.length c) l 0
theorem Stg.keep {xb:Nat} {t:Int} {s2:Value} {l:List G.GrantD} {a:Option Addr} {c:Nat} {y y':World} (h:Stg xb t s2 l a c y) (hb:Below y.heap.size y y'):Stg xb t s2 l a c y' :=
 ⟨(hb.cell (p:=⟨xb,0,none⟩) h.z).trans h.k0,(hb.cell (p:=⟨xb,1,none⟩) h.z).trans h.k1,(hb.cell (p:=⟨xb,2,none⟩) h.z).trans h.k2,(hb.frozen (p:=⟨xb,1,none⟩) h.z).trans h.f1,Nat.lt_of_lt_of_le h.z hb.size,h.cap,h.r.keep hb⟩
theorem Stg.lay {xb:Nat} {t:Int} {s2:Value} {l m:List G.GrantD} {a b:Option Addr} {c d B:Nat} {y:World} (h:Stg xb t s2 l a c y) (ho:OG B m y (.slice b m.length d)) (hB:xb < B):Stg xb t s2 m b d (y.setCell ⟨xb,1,none⟩ (.slice b m.length d)):=by
 have hx:Ex xb y (y.setCell ⟨xb,1,none⟩ (.slice b m.length d)):=(Ex.refl _ _).set _ _
 refine ⟨?_, ?_, ?_, ?_,Nat.lt_of_lt_of_le h.z hx.size, ?_, ?_⟩
 · rw [World.cell?_setCell_other _ _ _ _ (by intro e; cases e)]; exact h.k0
 · rw [World.cell?_setCell_same _ _ _ h.k1]
 · rw [World.cell?_setCell_other _ _ _ _ (by intro e; cases e)]; exact h.k2
 · rw [World.frozen?_setCell]; exact h.f1
 · exact cap_owns ho _ _ _ rfl
 have h1:=(og_sl ho)
 refine (h1.grown (row:=some xb) ⟨hx.os,hx.tape,hx.output,hx.size,fun k hk hne=>hx.block k hk (fun e=>hne (by rw [e]))⟩ ?_).low (Nat.zero_le _)
 cases hv:(Value.slice b m.length d).ownBlock with
 | none=>exact Or.inl rfl
 | some g =>
  right
  intro e
  have:=(h1.lt g hv).1
  have e':g=xb:=Option.some.inj e
  omega
end Go.Proofs.YtcjhlhijdacinaaGreatDoor
