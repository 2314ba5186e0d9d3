import Derived.Test.YtcjhlhijdacinaaGreatDoorJ02
import Derived.Laws.MakeOwn
import Derived.Test.YtcjhlhijdacinaaGreatDoorJ01
import Derived.Laws.AppendOwn
import Derived.Deep.RegionHeld3
import Derived.Laws.Pointers
import Derived.StillTactics
import Derived.Test.YtcjhlhijdacinaaGreatDoorJ05
import Derived.Test.YtcjhlhijdacinaaGreatDoorJ03
import Derived.Laws.EntriesVeiled
import Derived.Laws.StructEq
import Derived.Test.YtcjhlhijdacinaaGreatDoorJ04
import Derived.Deep.QuietTactic
import Derived.BigQuiet
import Derived.Laws.AppendOwnNone
namespace Go.Proofs.YtcjhlhijdacinaaGreatDoor.W
open Go.RowKit
set_option linter.unusedVariables false
def flatR (rs:List WantD):List Value:=rs.flatMap WantD.cells
theorem flatR_len:∀ rs:List WantD,(flatR rs).length=rs.length * 7
 | []=>rfl
 | r :: rs=>by
  have:=flatR_len rs
  simp only [flatR,List.flatMap_cons,List.length_append] at this ⊢
  simp only [this,List.length_cons]
  show 7+rs.length * 7=_
  omega
theorem flatR_at:∀ (rs:List WantD) (k:Nat) (r:WantD),rs[k]?=some r→∀ j,j < 7→(flatR rs)[k * 7+j]?=r.cells[j]?
 | [],k,r,h,j,hj=>by simp at h
 | q :: rs,0,r,h,j,hj=>by
  simp at h; subst h
  rw [flatR,List.flatMap_cons,List.getElem?_append_left (by show _ < 7; omega)]
  simp
 | q :: rs,k+1,r,h,j,hj=>by
  have ih:=flatR_at rs k r (by simpa using h) j hj
  rw [flatR,List.flatMap_cons,List.getElem?_append_right (by show 7≤_; omega)]
  rw [← ih]
  show (flatR rs)[(k+1) * 7+j - 7]?=_
  rw [show (k+1) * 7+j - 7=k * 7+j from by omega]
theorem flatR_one (rs:List WantD):∀ u∈flatR rs,u.oneCell'=true:=by
 intro u hu
 obtain ⟨r,-,h⟩:=List.mem_flatMap.1 hu
 simp [WantD.cells] at h
 rcases h with rfl | rfl | rfl | rfl | rfl | rfl | rfl <;> rfl
theorem rows_of_owns {w:World} {base:Nat} {v:Value} {rs:List WantD} (h:w.ownsRow base 56 7 v rs.length (flatR rs)) :
  (v=.slice none 0 0∧rs=[])∨∃ g cap,v=.slice (some ⟨g,0,none⟩) rs.length cap∧base≤g∧g < w.heap.size∧RowsAt w g 0 rs∧w.there g 0 (rs.length * 7):=by
 obtain ⟨hl,⟨rfl,hn⟩ | ⟨g,cap,cur,rfl,hb,hg,hnc,hcm,hcs,htk⟩⟩:=h
 · exact Or.inl ⟨rfl,List.length_eq_zero_iff.1 hn⟩
 ·
  refine Or.inr ⟨g,cap,rfl,hb,(Array.getElem?_eq_some_iff.1 hg).1, ?_, ?_⟩
  ·
   intro k r hk j u hj
   have hjn:j < 7:=by
    rcases Nat.lt_or_ge j 7 with h' | h'
    · exact h'
    rw [List.getElem?_eq_none (by simpa [WantD.cells] using h')] at hj; cases hj
   have hf:=flatR_at rs k r hk j hjn
   rw [hj,← htk,List.getElem?_take] at hf
   split at hf
   ·
    rw [cell_of_row w g _ cur _ (0,0) hg,Nat.zero_add]
    simpa using hf
   cases hf
  intro j hj
  have hlt:j < cur.size:=by
   have:rs.length * 7≤cap * 7:=Nat.mul_le_mul_right 7 hnc
   omega
  refine ⟨?_, ?_⟩
  ·
   rw [cell_of_row w g _ cur _ (0,0) hg,Nat.zero_add]
   simp [Array.getElem?_eq_getElem hlt]
  simp [World.frozen?,hg]
theorem owns_below {x y:World} {base:Nat} {e:TypeId} {size:Nat} {v:Value} {n:Nat} {xs:List Value} (h:x.ownsRow base e size v n xs) (hb:Below x.heap.size x y):y.ownsRow base e size v n xs :=
 h.kept (row:=none) ⟨hb.os,hb.tape,hb.output,hb.size,fun k hk _=>hb.block k hk⟩ (by cases hv:v.ownBlock <;> simp)
theorem infoR:(Tryz.prog.info? 56).map (fun i=>(i.zero,i.size,i.bytes))=some (some (.agg #[.string ⟨#[]⟩,.int .i64 0,.string ⟨#[]⟩,.int .i64 0,.int .i64 0,.int .i64 0,.int .i64 0]),7,72):=by kernel_rfl
end Go.Proofs.YtcjhlhijdacinaaGreatDoor.W
namespace Go.Proofs.YtcjhlhijdacinaaGreatDoor.W
open Go.RowKit
set_option linter.unusedVariables false
def Sl (w:World) (v:Value) (l:List WantD) (B:Nat):Prop:=(v=.slice none 0 0∧l=[])∨∃ g cap,v=.slice (some ⟨g,0,none⟩) l.length cap∧B≤g∧g < w.heap.size∧RowsAt w g 0 l∧w.there g 0 (l.length * 7)
theorem Sl.of_owns {w:World} {v:Value} {l:List WantD} {B:Nat} (h:w.ownsRow B 56 7 v l.length (flatR l)):Sl w v l B:=rows_of_owns h
theorem Sl.grown {w w':World} {v:Value} {l:List WantD} {B:Nat} {row:Option Nat} (h:Sl w v l B) (hg:w.grownBy w' row) (hne:v.ownBlock=none∨v.ownBlock≠row):Sl w' v l B:=by
 rcases h with h | ⟨g,cap,rfl,h1,h2,h3,h4⟩
 · exact Or.inl h
 have hn:some g≠row:=by simpa [Value.ownBlock] using hne
 have hc:∀ o,w'.cell? ⟨g,o,none⟩=w.cell? ⟨g,o,none⟩:=fun o=>World.cell?_of_block (w:=w) (a:=⟨g,o,none⟩) (hg.block g h2 hn)
 have hfz:∀ o,w'.frozen? ⟨g,o,none⟩=w.frozen? ⟨g,o,none⟩:=fun o=>World.frozen?_of_block (w:=w) (a:=⟨g,o,none⟩) (hg.block g h2 hn)
 exact Or.inr ⟨g,cap,rfl,h1,Nat.lt_of_lt_of_le h2 hg.size,fun k r hk j v hj=>(hc _).trans (h3 k r hk j v hj),fun j hj=>⟨by rw [hc]; exact (h4 j hj).1,by rw [hfz]; exact (h4 j hj).2⟩⟩
theorem Sl.keep {w w':World} {v:Value} {l:List WantD} {B:Nat} (h:Sl w v l B) (hb:Below w.heap.size w w'):Sl w' v l B :=
 h.grown (row:=none) ⟨hb.os,hb.tape,hb.output,hb.size,fun k hk _=>hb.block k hk⟩ (by cases hv:v.ownBlock <;> simp)
theorem Sl.lt {w:World} {v:Value} {l:List WantD} {B:Nat} (h:Sl w v l B):∀ g,v.ownBlock=some g→B≤g∧g < w.heap.size:=by
 rcases h with ⟨rfl,-⟩ | ⟨g,cap,rfl,h1,h2,-⟩
 · intro g hg; simp [Value.ownBlock] at hg
 intro g' hg; simp [Value.ownBlock] at hg; subst hg; exact ⟨h1,h2⟩
theorem ex_grown {w w':World} {kr:Nat} (h:Ex kr w w'):w.grownBy w' (some kr):=⟨h.os,h.tape,h.output,h.size,fun k hk hne=>h.block k hk (fun e=>hne (by rw [e]))⟩
end Go.Proofs.YtcjhlhijdacinaaGreatDoor.W
namespace Go.Proofs.YtcjhlhijdacinaaGreatDoor.W
open Go.RowKit
set_option linter.unusedVariables false
theorem flat_cells {w:World} {g:Nat} {l:List WantD} (h:RowsAt w g 0 l):∀ j u,(flatR l)[j]?=some u→w.cell? ((⟨g,0,none⟩:Addr).add j)=some u:=by
 intro j u hj
 have hlt:j < l.length * 7:=by rw [← flatR_len]; exact (List.getElem?_eq_some_iff.1 hj).1
 have hk:j / 7 < l.length:=by omega
 have hr:j % 7 < 7:=Nat.mod_lt _ (by decide)
 have e:j / 7 * 7+j % 7=j:=by omega
 have h1:=flatR_at l (j / 7) l[j / 7] (List.getElem?_eq_getElem hk) (j % 7) hr
 rw [e,hj] at h1
 have h2:=h (j / 7) l[j / 7] (List.getElem?_eq_getElem hk) (j % 7) u h1.symm
 rw [Addr.add_mid]
 rw [show 0+j / 7 * 7+j % 7=0+j from by omega] at h2
 exact h2
end Go.Proofs.YtcjhlhijdacinaaGreatDoor.W
namespace Go.Proofs.YtcjhlhijdacinaaGreatDoor.W
open Go.RowKit
set_option linter.unusedVariables false
set_option maxHeartbeats 1000000 in
theorem fresh (g cap:Nat) (l:List WantD) (w:World) (h:RowsAt w g 0 l) (hl:l.length≤1048576) :
  Calls Tryz.prog 54 #[.slice (some ⟨g,0,none⟩) l.length cap] w fun e w'=>(∃ v,e=.returned v∧Sl w' v l w.heap.size)∧Below w.heap.size w w':=by
 obtain ⟨i0,hi,hz0,hz1,hz2⟩:=info_parts infoR
 go_enter Tryz.func54,Tryz.ntmps54
 go_wp2_with (at_builtin; refine wpList_append_own _ rfl _ _ 27 rfl w.heap.size 56 i0 _ 7 72 Tryz.underlying27 hi hz0 hz1 hz2 rfl (by decide) (.slice none 0 0) 0 [] rfl (World.ownsRow_nil _ _ _ _) ⟨g,0,none⟩ l.length cap (flatR l) rfl (flatR_len l) (flat_cells h) (flatR_one l) (by unfold maxLen; omega) (by omega) (Nat.le_refl _) ?_; intro v' w1 ho1 hg1 hn1)
 go_ret
 have ho2:w1.ownsRow w.heap.size 56 7 v' l.length (flatR l):=by simpa using ho1
 exact ⟨⟨v',rfl,Sl.of_owns ho2⟩,Below.grown bR hg1 (Nat.le_refl _) (fun j hj=>by cases hj)⟩
end Go.Proofs.YtcjhlhijdacinaaGreatDoor.W
namespace Go.Proofs.YtcjhlhijdacinaaGreatDoor
open Go.RowKit
set_option linter.unusedVariables false
theorem boxlt {w w1:World} {o:Obj} (h:Below (w.alloc o).heap.size (w.alloc o) w1):w.heap.size < w1.heap.size:=by have:=h.size; simp at this; omega
def ascB (q r:RunD):Bool:=Op.bytesLess q.c.toList r.c.toList
theorem keep1 {x w':World} {b off k:Nat} {rs:List RunD} {r:RunD} (hk:rs[k]?=some r) (h1:RowsAt x b off rs) (l1:b < x.heap.size) (hb:Below x.heap.size x w') :
  Below x.heap.size x w'∧(w'.cell? ⟨b,off+k * 11,none⟩=some (.string r.c)∧w'.cell? ⟨b,off+k * 11+1,none⟩=some (.int .i64 r.v)∧w'.cell? ⟨b,off+k * 11+2,none⟩=some (.string r.h)∧w'.cell? ⟨b,off+k * 11+3,none⟩=some (.int .i64 r.p)∧w'.cell? ⟨b,off+k * 11+4,none⟩=some (.int .i64 r.s)∧w'.cell? ⟨b,off+k * 11+5,none⟩=some (.int .i64 r.d)∧w'.cell? ⟨b,off+k * 11+6,none⟩=some (.int .i64 r.g)∧w'.cell? ⟨b,off+k * 11+7,none⟩=some (.int .i64 r.a)∧w'.cell? ⟨b,off+k * 11+8,none⟩=some (.int .i64 r.b)∧w'.cell? ⟨b,off+k * 11+9,none⟩=some (.int .i64 r.i)∧w'.cell? ⟨b,off+k * 11+10,none⟩=some (.int .i64 r.u)):=⟨hb,(h1.keep l1 hb).at hk⟩
theorem keep2 {x w':World} {b off k:Nat} {rs:List RunD} {r q:RunD} (hk:rs[k+1]?=some r) (hq:rs[k]?=some q) (h1:RowsAt x b off rs) (l1:b < x.heap.size) (hb:Below x.heap.size x w') :
  Below x.heap.size x w'∧(w'.cell? ⟨b,off+(k+1) * 11,none⟩=some (.string r.c)∧w'.cell? ⟨b,off+(k+1) * 11+1,none⟩=some (.int .i64 r.v)∧w'.cell? ⟨b,off+(k+1) * 11+2,none⟩=some (.string r.h)∧w'.cell? ⟨b,off+(k+1) * 11+3,none⟩=some (.int .i64 r.p)∧w'.cell? ⟨b,off+(k+1) * 11+4,none⟩=some (.int .i64 r.s)∧w'.cell? ⟨b,off+(k+1) * 11+5,none⟩=some (.int .i64 r.d)∧w'.cell? ⟨b,off+(k+1) * 11+6,none⟩=some (.int .i64 r.g)∧w'.cell? ⟨b,off+(k+1) * 11+7,none⟩=some (.int .i64 r.a)∧w'.cell? ⟨b,off+(k+1) * 11+8,none⟩=some (.int .i64 r.b)∧w'.cell? ⟨b,off+(k+1) * 11+9,none⟩=some (.int .i64 r.i)∧w'.cell? ⟨b,off+(k+1) * 11+10,none⟩=some (.int .i64 r.u))∧w'.cell? ⟨b,off+k * 11,none⟩=some (.string q.c):=⟨hb,(h1.keep l1 hb).at hk,((h1.keep l1 hb).at hq).1⟩
theorem keep0 {x w':World} {b off:Nat} {rs:List RunD} {r:RunD} (hk:rs[0]?=some r) (h1:RowsAt x b off rs) (l1:b < x.heap.size) (hb:Below x.heap.size x w') :
  Below x.heap.size x w'∧(w'.cell? ⟨b,off,none⟩=some (.string r.c)∧w'.cell? ⟨b,off+1,none⟩=some (.int .i64 r.v)∧w'.cell? ⟨b,off+2,none⟩=some (.string r.h)∧w'.cell? ⟨b,off+3,none⟩=some (.int .i64 r.p)∧w'.cell? ⟨b,off+4,none⟩=some (.int .i64 r.s)∧w'.cell? ⟨b,off+5,none⟩=some (.int .i64 r.d)∧w'.cell? ⟨b,off+6,none⟩=some (.int .i64 r.g)∧w'.cell? ⟨b,off+7,none⟩=some (.int .i64 r.a)∧w'.cell? ⟨b,off+8,none⟩=some (.int .i64 r.b)∧w'.cell? ⟨b,off+9,none⟩=some (.int .i64 r.i)∧w'.cell? ⟨b,off+10,none⟩=some (.int .i64 r.u)):=by
 have:=keep1 (k:=0) hk h1 l1 hb
 simpa using this
structure MateD where
 nm:ByteArray
 up:Bool
 ck:Int
 kn:Bool
 se:Int
 ws:List W.WantD
 rs:List RunD
 qs:List A.AskD
 gs:List A.AskD
def partsB (m:MateD):Bool:=nameB m.nm && (inB m.ck 0 1000000 && inB m.se 0 1000000)
structure Off (P:Nat→Prop) (w w':World):Prop where
 os:w'.os=w.os
 tape:w'.tape=w.tape
 output:w'.output=w.output
 size:w.heap.size≤w'.heap.size
 block:∀ k,k < w.heap.size→¬ P k→w'.heap[k]?=w.heap[k]?
theorem Off.refl (P:Nat→Prop) (w:World):Off P w w:=⟨rfl,rfl,rfl,Nat.le_refl _,fun _ _ _=>rfl⟩
theorem Off.trans {P:Nat→Prop} {a b c:World} (h:Off P a b) (k:Off P b c):Off P a c :=
 ⟨k.os.trans h.os,k.tape.trans h.tape,k.output.trans h.output,Nat.le_trans h.size k.size,fun i hi hp=>(k.block i (Nat.lt_of_lt_of_le hi h.size) hp).trans (h.block i hi hp)⟩
theorem Off.of_below {P:Nat→Prop} {a b:World} (h:Below a.heap.size a b):Off P a b:=⟨h.os,h.tape,h.output,h.size,fun i hi _=>h.block i hi⟩
theorem Off.of_grown {P:Nat→Prop} {a b:World} {row:Option Nat} (h:a.grownBy b row) (hp:∀ j,row=some j→P j):Off P a b:=⟨h.os,h.tape,h.output,h.size,fun i hi hn=>h.block i hi (fun e=>hn (hp i e.symm))⟩
theorem Off.cell {P:Nat→Prop} {a b:World} (h:Off P a b) {p:Addr} (hp:p.block < a.heap.size) (hn:¬ P p.block):b.cell? p=a.cell? p:=World.cell?_of_block (w:=a) (h.block p.block hp hn)
theorem Off.below {P:Nat→Prop} {a b:World} {B:Nat} (h:Off P a b) (hP:∀ j,P j→B≤j) (hB:B≤a.heap.size):Below B a b:=⟨h.os,h.tape,h.output,h.size,fun i hi=>h.block i (by omega) (fun hp=>by have:=hP i hp; omega)⟩
theorem W.Sl.off {P:Nat→Prop} {w w':World} {v:Value} {l:List W.WantD} {B:Nat} (h:W.Sl w v l B) (ho:Off P w w') (hn:∀ g,v.ownBlock=some g→¬ P g):W.Sl w' v l B:=by
 rcases h with h | ⟨g,cap,rfl,h1,h2,h3,h4⟩
 · exact Or.inl h
 have hg:¬ P g:=hn g rfl
 have hc:∀ o,w'.cell? ⟨g,o,none⟩=w.cell? ⟨g,o,none⟩:=fun o=>World.cell?_of_block (w:=w) (a:=⟨g,o,none⟩) (ho.block g h2 hg)
 have hfz:∀ o,w'.frozen? ⟨g,o,none⟩=w.frozen? ⟨g,o,none⟩:=fun o=>World.frozen?_of_block (w:=w) (a:=⟨g,o,none⟩) (ho.block g h2 hg)
 exact Or.inr ⟨g,cap,rfl,h1,Nat.lt_of_lt_of_le h2 ho.size,fun k r hk j v hj=>(hc _).trans (h3 k r hk j v hj),fun j hj=>⟨by rw [hc]; exact (h4 j hj).1,by rw [hfz]; exact (h4 j hj).2⟩⟩
theorem W.Sl.shape {w:World} {v:Value} {l:List W.WantD} {B:Nat} (h:W.Sl w v l B):∃ a c,v=.slice a l.length c:=by
 rcases h with ⟨rfl,rfl⟩ | ⟨g,cap,rfl,-⟩
 · exact ⟨none,0,rfl⟩
 exact ⟨_,_,rfl⟩
theorem Sl.shape {w:World} {v:Value} {l:List RunD} {B:Nat} (h:Sl w v l B):∃ a c,v=.slice a l.length c:=by
 rcases h with ⟨rfl,rfl⟩ | ⟨g,cap,rfl,-⟩
 · exact ⟨none,0,rfl⟩
 exact ⟨_,_,rfl⟩
theorem build0w (w:World):Sem.run Tryz.prog (Instr.buildSlice 27 0 #[]) w=.ok (.slice (some ⟨w.heap.size,0,none⟩) 0 0) (w.alloc (.cells #[] 56)):=by kernel_rfl
def W.Src (w:World) (a:Option Addr) (c:Nat) (l:List W.WantD):Prop:=(a=none∧c=0∧l=[])∨∃ g,a=some ⟨g,0,none⟩∧g < w.heap.size∧W.RowsAt w g 0 l
theorem W.Src.keep {w w':World} {a:Option Addr} {c:Nat} {l:List W.WantD} (h:W.Src w a c l) (hb:Below w.heap.size w w'):W.Src w' a c l:=by
 rcases h with h | ⟨g,h1,h2,h3⟩
 · exact Or.inl h
 exact Or.inr ⟨g,h1,Nat.lt_of_lt_of_le h2 hb.size,h3.keep h2 hb⟩
theorem W.Sl.src {w:World} {a:Option Addr} {c B:Nat} {l:List W.WantD} (h:W.Sl w (.slice a l.length c) l B):W.Src w a c l:=by
 rcases h with ⟨h,rfl⟩ | ⟨g,cap,h0,h1,h2,h3,h4⟩
 · cases h; exact Or.inl ⟨rfl,rfl,rfl⟩
 cases h0; exact Or.inr ⟨g,rfl,h2,h3⟩
def CapOk (v:Value):Prop:=∀ a n c,v=.slice a n c→n≤c
theorem cap_owns {w:World} {B size n:Nat} {e:TypeId} {v:Value} {xs:List Value} (h:w.ownsRow B e size v n xs):CapOk v:=by
 intro a k c hv
 obtain ⟨-,⟨rfl,-⟩ | ⟨g,cap,cur,rfl,-,-,hc,-⟩⟩:=h
 · cases hv; exact Nat.le_refl _
 cases hv; exact hc
theorem W.wp_copyC {ops:Array Oper} {rest:List Oper} {o:Oper} {a:Act} {Q:Exit→Act→World→Prop} (Wo:World) (hgd:o.guard=none) (s x:Operand)
  (ho:o.op=.call { callee:=.builtin .append,args:=#[s,x],argTypes:=#[27,27] })
  (l:List W.WantD) (ad:Option Addr) (c:Nat) (hs:a.eval s=.slice (some ⟨Wo.heap.size,0,none⟩) 0 0) (hx:a.eval x=.slice ad l.length c) (hsrc:W.Src Wo ad c l) (hl:l.length≤1048576)
  (h:∀ s' w',W.Sl w' s' l Wo.heap.size→CapOk s'→Below Wo.heap.size Wo w'→wpList Tryz.prog ops Q rest (a.put o.dst s') w'):wpList Tryz.prog ops Q (o :: rest) a (Wo.alloc (.cells #[] 56)):=by
 obtain ⟨i0,hi,hz0,hz1,hz2⟩:=info_parts W.infoR
 have hown:(Wo.alloc (.cells #[] 56)).ownsRow Wo.heap.size 56 7 (.slice (some ⟨Wo.heap.size,0,none⟩) 0 0) 0 []:=World.ownsRow_made Wo #[] 0 (Nat.le_refl _) (Nat.zero_le _) rfl
 have hb:Below Wo.heap.size Wo (Wo.alloc (.cells #[] 56)):=bl_alloc bR _
 rcases hsrc with ⟨rfl,rfl,rfl⟩ | ⟨g,rfl,hg,hr⟩
 · exact wpList_append_own_none hgd s x 27 ho Wo.heap.size 56 i0 7 Tryz.underlying27 hi _ 0 [] hs hown hx (h _ _ (W.Sl.of_owns (l:=[]) hown) (cap_owns hown) hb)
 ·
  refine wpList_append_own _ hgd s x 27 ho Wo.heap.size 56 i0 _ 7 72 Tryz.underlying27 hi hz0 hz1 hz2 rfl (by decide) _ 0 [] hs hown ⟨g,0,none⟩ l.length c (W.flatR l) hx (W.flatR_len _) (W.flat_cells (hr.keep hg hb)) (W.flatR_one _) (by unfold maxLen; omega) (by omega) hb.size ?_
  intro s' w' ho' hg' hn'
  exact h s' w' (W.Sl.of_owns (by simpa using ho')) (cap_owns ho') (Below.grown hb hg' hb.size (fun j hj=>by cases hj; exact Nat.le_refl _))
end Go.Proofs.YtcjhlhijdacinaaGreatDoor
namespace Go.Proofs.YtcjhlhijdacinaaGreatDoor
open Go.RowKit Go.Maps Go.WideMaps
set_option linter.unusedVariables false
theorem heap_putP {w:World} {b i:Nat} {cur:Array Value} {e:TypeId} (h:w.heap[b]?=some (.cells cur e (0,0))) (v:Value):(w.setCell ⟨b,i,none⟩ v).heap[b]?=some (.cells (cur.setIfInBounds i v) e (0,0)):=heap_setCell_same w b i cur e v h
theorem owns_setP {x:World} {B size g n c:Nat} {e:TypeId} {xs:List Value} (h:x.ownsRow B e size (.slice (some ⟨g,0,none⟩) n c) n xs) (p:Nat) (hp:p < xs.length) (v:Value):(x.setCell ⟨g,p,none⟩ v).ownsRow B e size (.slice (some ⟨g,0,none⟩) n c) n (xs.set p v):=by
 obtain ⟨hl,⟨h1,-⟩ | ⟨g',cap,cur,h1,h2,h3,h4,h5,h6,h7⟩⟩:=h
 · cases h1
 cases h1
 refine ⟨by simpa using hl,Or.inr ⟨g,c,cur.setIfInBounds p v,rfl,h2,heap_putP h3 v,h4,h5,by simpa using h6, ?_⟩⟩
 rw [Array.toList_setIfInBounds,List.take_set,h7]
theorem flatP_set:∀ (l:List Pr.PlRaw) (k:Nat) (r:Pr.PlRaw) (a:Option Addr) (n c:Nat),l[k]?=some r→Pr.flatR (l.set k ⟨r.b,r.s,a,n,c⟩)=(Pr.flatR l).set (k * 3+2) (.slice a n c)
 | [],k,r,a,n,c,h=>by simp at h
 | q :: l,0,r,a,n,c,h=>by
  simp at h; subst h
  simp [Pr.flatR,Pr.PlRaw.cells]
 | q :: l,k+1,r,a,n,c,h=>by
  have ih:=flatP_set l k r a n c (by simpa using h)
  have e1:Pr.flatR (q :: l.set k ⟨r.b,r.s,a,n,c⟩)=q.cells++Pr.flatR (l.set k ⟨r.b,r.s,a,n,c⟩):=by simp [Pr.flatR]
  have e2:Pr.flatR (q :: l)=q.cells++Pr.flatR l:=by simp [Pr.flatR]
  have e3:(k+1) * 3+2=q.cells.length+(k * 3+2):=by show _=3+_; omega
  rw [List.set_cons_succ,e1,e2,ih,e3,List.set_append_right _ _ (by omega)]
  congr 2
  omega
structure Pt (w:World) (B Z lb:Nat) (t:Int) (gs:List G.GrantD) (qs0 qs:List P.PlaceD) (k:Nat) (s1:Value) (a2:Option Addr) (c2:Nat):Prop where
 c:w.rangeAt lb 0 [.int .i64 t,s1,.slice a2 qs0.length c2]
 f:w.there lb 0 3
 zl:B≤lb∧lb < Z
 zz:Z≤w.heap.size
 g:OG B gs w s1
 zg:∀ g,s1.ownBlock=some g→g < Z
 p:OQ B (qs.map Pr.raw) w (.slice a2 qs0.length c2)
 zp:∀ g,(Value.slice a2 qs0.length c2).ownBlock=some g→g < Z
 n1:s1.ownBlock≠some lb
 n2:(Value.slice a2 qs0.length c2).ownBlock≠some lb
 like:P.Like qs qs0
 new:∀ j q,j < k→qs[j]?=some q→W.Sl w (.slice q.a q.ws.length q.c) q.ws Z
 old:∀ j,k≤j→qs[j]?=qs0[j]?
 dif:∀ i j q r,i < j→j < k→qs[i]?=some q→qs[j]?=some r→∀ g,(Value.slice q.a q.ws.length q.c).ownBlock=some g→(Value.slice r.a r.ws.length r.c).ownBlock≠some g
 cap:∀ j q,j < k→qs[j]?=some q→q.ws.length≤q.c
theorem Pt.keep {w w':World} {B Z lb:Nat} {t:Int} {gs:List G.GrantD} {qs0 qs:List P.PlaceD} {k:Nat} {s1:Value} {a2:Option Addr} {c2:Nat} (h:Pt w B Z lb t gs qs0 qs k s1 a2 c2) (hb:Below w.heap.size w w'):Pt w' B Z lb t gs qs0 qs k s1 a2 c2 :=
 ⟨fun j u hj=>(hb.cell (p:=⟨lb,0+j,none⟩) (Nat.lt_of_lt_of_le h.zl.2 h.zz)).trans (h.c j u hj),there_keep2 h.f (Nat.lt_of_lt_of_le h.zl.2 h.zz) hb,h.zl,Nat.le_trans h.zz hb.size,h.g.keep hb,h.zg,h.p.keep hb,h.zp,h.n1,h.n2,h.like,fun j q hj hq=>(h.new j q hj hq).keep hb,h.old,h.dif,h.cap⟩
theorem pt_start {w:World} {B lb:Nat} {t:Int} {gs:List G.GrantD} {qs0:List P.PlaceD} {a1 a2:Option Addr} {c1 c2:Nat} (h:Ld w B lb t gs (qs0.map Pr.raw) (.slice a1 gs.length c1) (.slice a2 (qs0.map Pr.raw).length c2)):Pt w B w.heap.size lb t gs qs0 qs0 0 (.slice a1 gs.length c1) a2 c2:=by
 have e:(qs0.map Pr.raw).length=qs0.length:=List.length_map ..
 have hc:=h.c
 have hp:=h.p
 have hn2:=h.n2
 rw [e] at hc hp hn2
 exact ⟨hc,h.f,h.z,Nat.le_refl _,h.g,fun g hg=>((G.Sl.of_owns h.g).lt g hg).2,hp,fun g hg=>by
  have h1:Pr.Sl w (.slice a2 (qs0.map Pr.raw).length c2) (qs0.map Pr.raw) B:=Pr.Sl.of_owns h.p
  rw [e] at h1
  exact (h1.lt g hg).2,h.n1,hn2,rfl,fun j q hj=>absurd hj (by omega),fun j _=>rfl,fun i j q r _ hj=>absurd hj (by omega),fun j q hj=>absurd hj (by omega)⟩
theorem like_set {qs qs0:List P.PlaceD} {k:Nat} {q:P.PlaceD} (h:P.Like qs qs0) (hq:qs[k]?=some q) (a:Option Addr) (c:Nat):P.Like (qs.set k ⟨q.b,q.s,a,c,q.ws⟩) qs0:=by
 unfold P.Like at h ⊢
 rw [← h,List.map_set]
 have e:(⟨q.b,q.s,a,c,q.ws⟩:P.PlaceD).says=q.says:=rfl
 rw [e]
 apply List.ext_getElem?
 intro i
 by_cases hi:k=i
 ·
  subst hi
  rw [List.getElem?_set_self (by rw [List.length_map]; exact (List.getElem?_eq_some_iff.1 hq).1),List.getElem?_map,hq]
  rfl
 rw [List.getElem?_set_ne hi]
theorem raw_set {qs:List P.PlaceD} {k:Nat} {q:P.PlaceD} (a:Option Addr) (c:Nat):(qs.set k ⟨q.b,q.s,a,c,q.ws⟩).map Pr.raw=(qs.map Pr.raw).set k ⟨q.b,q.s,a,q.ws.length,c⟩:=by
 rw [List.map_set]
 rfl
theorem pt_step {w y:World} {B Z lb g2:Nat} {t:Int} {gs:List G.GrantD} {qs0 qs:List P.PlaceD} {k:Nat} {s1:Value} {c2:Nat} {q:P.PlaceD} {av:Option Addr} {cv:Nat} (h:Pt w B Z lb t gs qs0 qs k s1 (some ⟨g2,0,none⟩) c2) (hb:Below w.heap.size w y) (hq:qs[k]?=some q) (hv:W.Sl y (.slice av q.ws.length cv) q.ws w.heap.size) (hcv:q.ws.length≤cv) :
  Pt (y.setCell ⟨g2,k * 3+2,none⟩ (.slice av q.ws.length cv)) B Z lb t gs qs0 (qs.set k ⟨q.b,q.s,av,cv,q.ws⟩) (k+1) s1 (some ⟨g2,0,none⟩) c2:=by
 have H:=h.keep hb
 have hk:k < qs.length:=(List.getElem?_eq_some_iff.1 hq).1
 have hlen:=h.like.len
 have z2:g2 < Z:=h.zp g2 rfl
 have zz:=h.zz
 have hne:g2≠lb:=fun e=>h.n2 (by rw [← e]; rfl)
 have he:Ex g2 y (y.setCell ⟨g2,k * 3+2,none⟩ (.slice av q.ws.length cv)):=(Ex.refl _ _).set _ _
 have hgr:y.grownBy (y.setCell ⟨g2,k * 3+2,none⟩ (.slice av q.ws.length cv)) (some g2):=⟨he.os,he.tape,he.output,he.size,fun k hk hne=>he.block k hk (fun e=>hne (by rw [e]))⟩
 have hg2:s1.ownBlock≠some g2:=by
  intro e
  obtain ⟨-,⟨h1,h0⟩ | ⟨g',cap,cur,h1,-,h3,-⟩⟩:=H.p
  · exact absurd (congrArg Value.ownBlock h1) (by simp [Value.ownBlock])
  have e0:g2=g':=Option.some.inj (congrArg Value.ownBlock h1)
  subst e0
  obtain ⟨-,⟨rfl,-⟩ | ⟨g'',cap',cur',rfl,-,h5,-⟩⟩:=H.g
  · cases e
  have e1:g''=g2:=Option.some.inj e
  rw [e1,h3] at h5
  have e2:54=40:=by
   have:=Option.some.inj h5
   injection this
  exact absurd e2 (by decide)
 have hold:∀ v:Value,(∀ g,v.ownBlock=some g→Z≤g)→v.ownBlock=none∨v.ownBlock≠some g2:=fun v hz=>Or.inr (fun e=>by have:=hz g2 e; omega)
 refine ⟨fun j u hj=>(he.cell (p:=⟨lb,0+j,none⟩) (Nat.lt_of_lt_of_le H.zl.2 H.zz) (fun e=>hne e.symm)).trans (H.c j u hj),there_ex H.f (Nat.lt_of_lt_of_le H.zl.2 H.zz) he (fun e=>hne e.symm),H.zl,Nat.le_trans H.zz he.size,H.g.grown hgr (Or.inr hg2),H.zg, ?_,H.zp,H.n1,H.n2,like_set H.like hq _ _, ?_, ?_, ?_, ?_⟩
 ·
  have hp:World.ownsRow y B 54 3 (.slice (some ⟨g2,0,none⟩) (qs.map Pr.raw).length c2) (qs.map Pr.raw).length (Pr.flatR (qs.map Pr.raw)):=by
   have:=H.p
   unfold OQ at this
   rwa [show qs0.length=(qs.map Pr.raw).length by rw [List.length_map]; exact hlen.symm] at this
  have h1:=owns_setP hp (k * 3+2) (by rw [Pr.flatR_len,List.length_map]; omega) (.slice av q.ws.length cv)
  rw [← flatP_set (qs.map Pr.raw) k (Pr.raw q) av q.ws.length cv (by rw [List.getElem?_map,hq]; rfl)] at h1
  show World.ownsRow _ _ _ _ _ ((qs.set k ⟨q.b,q.s,av,cv,q.ws⟩).map Pr.raw).length _
  rw [raw_set,List.length_set,show qs0.length=(qs.map Pr.raw).length by rw [List.length_map]; exact hlen.symm]
  exact h1
 ·
  intro j r hj hr
  by_cases e:k=j
  ·
   subst e
   rw [List.getElem?_set_self hk] at hr
   cases hr
   have h1:W.Sl y (.slice av q.ws.length cv) q.ws Z:=by
    rcases hv with h2 | ⟨g,cap,h2,h3,h4⟩
    · exact Or.inl h2
    exact Or.inr ⟨g,cap,h2,Nat.le_trans zz h3,h4⟩
   exact h1.grown hgr (hold _ (fun g hg=>(h1.lt g hg).1))
  rw [List.getElem?_set_ne e] at hr
  have h1:=H.new j r (by omega) hr
  exact h1.grown hgr (hold _ (fun g hg=>(h1.lt g hg).1))
 ·
  intro j hj
  rw [List.getElem?_set_ne (by omega)]
  exact H.old j (by omega)
 ·
  intro i j q' r hij hj hq' hr g hg
  rw [List.getElem?_set_ne (by omega)] at hq'
  have h1:=(h.new i q' (by omega) hq').lt g hg
  by_cases e:k=j
  ·
   subst e
   rw [List.getElem?_set_self hk] at hr
   cases hr
   intro e2
   have h2:=(hv.lt g e2).1
   omega
  rw [List.getElem?_set_ne e] at hr
  exact H.dif i j q' r hij (by omega) hq' hr g hg
 ·
  intro j r hj hr
  by_cases e:k=j
  ·
   subst e
   rw [List.getElem?_set_self hk] at hr
   cases hr
   exact hcv
  rw [List.getElem?_set_ne e] at hr
  exact H.cap j r (by omega) hr
theorem pt_blk {w:World} {B Z lb:Nat} {t:Int} {gs:List G.GrantD} {qs0 qs:List P.PlaceD} {k:Nat} {s1:Value} {a2:Option Addr} {c2:Nat} (h:Pt w B Z lb t gs qs0 qs k s1 a2 c2) (hl:0 < qs0.length):∃ g2,a2=some ⟨g2,0,none⟩∧g2 < w.heap.size∧Pr.RowsAt w g2 0 (qs.map Pr.raw)∧w.there g2 0 (qs0.length * 3):=by
 have hlen:=h.like.len
 have e:qs0.length=(qs.map Pr.raw).length:=by rw [List.length_map]; exact hlen.symm
 have hp:Pr.Sl w (.slice a2 (qs.map Pr.raw).length c2) (qs.map Pr.raw) B:=Pr.Sl.of_owns (by have:=h.p; unfold OQ at this; rwa [e] at this)
 rcases hp with ⟨h1,h2⟩ | ⟨g,cap,h1,h2,h3,h4,h5⟩
 · rw [h2] at e; rw [e] at hl; exact absurd hl (by simp)
 injection h1 with e1 e2 e3
 rw [e]
 exact ⟨g,e1,h3,h4,h5⟩
theorem pt_row {w:World} {g2 k:Nat} {qs:List P.PlaceD} {q:P.PlaceD} (h:Pr.RowsAt w g2 0 (qs.map Pr.raw)) (hq:qs[k]?=some q):w.cell? ⟨g2,k * 3,none⟩=some (.string q.b)∧w.cell? ⟨g2,k * 3+1,none⟩=some (.int .i64 q.s)∧w.cell? ⟨g2,k * 3+2,none⟩=some (.slice q.a q.ws.length q.c):=by
 have h1:=h k (Pr.raw q) (by rw [List.getElem?_map,hq]; rfl)
 have a0:=h1 0 _ rfl
 have a1:=h1 1 _ rfl
 have a2:=h1 2 _ rfl
 simp only [Nat.zero_add,Nat.add_zero] at a0 a1 a2
 exact ⟨a0,a1,a2⟩
theorem pt_ge {w:World} {B Z lb g2:Nat} {t:Int} {gs:List G.GrantD} {qs0 qs:List P.PlaceD} {k:Nat} {s1:Value} {c2:Nat} (h:Pt w B Z lb t gs qs0 qs k s1 (some ⟨g2,0,none⟩) c2):B≤g2:=by
 obtain ⟨-,⟨h1,-⟩ | ⟨g',cap,cur,h1,h2,-⟩⟩:=h.p
 · exact absurd (congrArg Value.ownBlock h1) (by simp [Value.ownBlock])
 have e0:g2=g':=Option.some.inj (congrArg Value.ownBlock h1)
 rw [e0]; exact h2
theorem sl_lowW {w:World} {v:Value} {l:List W.WantD} {B B':Nat} (h:W.Sl w v l B) (hB:B'≤B):W.Sl w v l B':=by
 rcases h with h | ⟨g,cap,h0,h1,h2,h3,h4⟩
 · exact Or.inl h
 exact Or.inr ⟨g,cap,h0,Nat.le_trans hB h1,h2,h3,h4⟩
theorem pt_other {w w':World} {B Z lb b:Nat} {t:Int} {gs:List G.GrantD} {qs0 qs:List P.PlaceD} {k:Nat} {s1:Value} {a2:Option Addr} {c2:Nat} (h:Pt w B Z lb t gs qs0 qs k s1 a2 c2) (he:Ex b w w') (hb:b < B):Pt w' B Z lb t gs qs0 qs k s1 a2 c2:=by
 have hgr:w.grownBy w' (some b):=⟨he.os,he.tape,he.output,he.size,fun k hk hne=>he.block k hk (fun e=>hne (by rw [e]))⟩
 have zl:=h.zl
 have g1:s1.ownBlock=none∨s1.ownBlock≠some b:=Or.inr (fun e=>by have:=((G.Sl.of_owns h.g).lt b e).1; omega)
 have g2:(Value.slice a2 qs0.length c2).ownBlock=none∨(Value.slice a2 qs0.length c2).ownBlock≠some b:=Or.inr (fun e=>by
  have hlen:=h.like.len
  have e1:qs0.length=(qs.map Pr.raw).length:=by rw [List.length_map]; exact hlen.symm
  have hp:Pr.Sl w (.slice a2 (qs.map Pr.raw).length c2) (qs.map Pr.raw) B:=Pr.Sl.of_owns (by have:=h.p; unfold OQ at this; rwa [e1] at this)
  rw [e1] at e
  have:=(hp.lt b e).1
  omega)
 refine ⟨fun j u hj=>(he.cell (p:=⟨lb,0+j,none⟩) (Nat.lt_of_lt_of_le zl.2 h.zz) (by show lb≠b; omega)).trans (h.c j u hj),there_ex h.f (Nat.lt_of_lt_of_le zl.2 h.zz) he (by omega),zl,Nat.le_trans h.zz he.size,h.g.grown hgr g1,h.zg,h.p.grown hgr g2,h.zp,h.n1,h.n2,h.like,fun j q hj hq=>?_,h.old,h.dif,h.cap⟩
 have h1:=h.new j q hj hq
 exact h1.grown hgr (Or.inr (fun e=>by have:=(h1.lt b e).1; omega))
def Gv (w:World) (a:Option Addr) (rs:List RunD):Prop:=rs=[]∨∃ b,a=some ⟨b,0,none⟩∧b < w.heap.size∧RowsAt w b 0 rs
def W.Gv (w:World) (a:Option Addr) (ws:List W.WantD):Prop:=ws=[]∨∃ b,a=some ⟨b,0,none⟩∧b < w.heap.size∧W.RowsAt w b 0 ws
theorem W.Gv.keep {w w':World} {a:Option Addr} {ws:List W.WantD} (h:W.Gv w a ws) (hb:Below w.heap.size w w'):W.Gv w' a ws:=by
 rcases h with h | ⟨b,h1,h2,h3⟩
 · exact Or.inl h
 exact Or.inr ⟨b,h1,Nat.lt_of_lt_of_le h2 hb.size,h3.keep h2 hb⟩
theorem W.Sl.gv {w:World} {a:Option Addr} {rs:List W.WantD} {c B:Nat} (h:W.Sl w (.slice a rs.length c) rs B):W.Gv w a rs:=by
 rcases h with ⟨h,rfl⟩ | ⟨g,cap,h0,h1,h2,h3,h4⟩
 · exact Or.inl rfl
 cases h0; exact Or.inr ⟨g,rfl,h2,h3⟩
end Go.Proofs.YtcjhlhijdacinaaGreatDoor
