import Derived.Test.YtcjhlhijdacinaaGreatDoorJ20
import Derived.Test.YtcjhlhijdacinaaGreatDoorJ10
import Derived.Laws.AppendOwnNone
namespace Go.Proofs.YtcjhlhijdacinaaGreatDoor
open Go.RowKit Go.Maps Go.WideMaps
set_option linter.unusedVariables false
theorem addr_add (g o n:Nat):(⟨g,o,none⟩:Addr).add n=⟨g,o+n,none⟩:=by
 unfold Addr.add
 split
 · subst_vars; rfl
 rfl
def RstG (w:World) (v:Value) (l:List G.GrantD):Prop:=∃ a c,v=.slice a l.length c∧((a=none∧c=0∧l=[])∨∃ g o:Nat,a=some ⟨g,o,none⟩∧g < w.heap.size∧∀ j u,(G.flatR l)[j]?=some u→w.cell? ⟨g,o+j,none⟩=some u)
theorem RstG.keep {w w':World} {v:Value} {l:List G.GrantD} (h:RstG w v l) (hb:Below w.heap.size w w'):RstG w' v l:=by
 obtain ⟨a,c,h1,h⟩:=h
 refine ⟨a,c,h1, ?_⟩
 rcases h with h | ⟨g,o,h2,h3,h4⟩
 · exact Or.inl h
 exact Or.inr ⟨g,o,h2,Nat.lt_of_lt_of_le h3 hb.size,fun j u hj=>(hb.cell (p:=⟨g,o+j,none⟩) h3).trans (h4 j u hj)⟩
theorem flat_cellsH {w:World} {g:Nat} {l:List G.GrantD} (h:G.RowsAt w g 0 l):∀ j u,(G.flatR l)[j]?=some u→w.cell? ⟨g,j,none⟩=some u:=by
 intro j u hj
 have hlt:j < l.length * 5:=by
  rw [← G.flatR_len]
  exact (List.getElem?_eq_some_iff.1 hj).1
 have hk:j / 5 < l.length:=by omega
 have h1:=G.flatR_at l (j / 5) l[j / 5] (List.getElem?_eq_getElem hk) (j % 5) (by omega)
 rw [show j / 5 * 5+j % 5=j from by omega,hj] at h1
 have h2:=h (j / 5) l[j / 5] (List.getElem?_eq_getElem hk) (j % 5) u h1.symm
 rw [show 0+j / 5 * 5+j % 5=j from by omega] at h2
 exact h2
theorem flat_dropG (l:List G.GrantD) (k j:Nat):(G.flatR (l.drop k))[j]?=(G.flatR l)[k * 5+j]?:=by
 induction l generalizing k with
 | nil=>simp [G.flatR]
 | cons r l ih =>
  cases k with
  | zero=>simp
  | succ k =>
   rw [List.drop_succ_cons,ih k]
   show _=(r.cells++G.flatR l)[_]?
   rw [List.getElem?_append_right (by show 5≤_; omega)]
   show _=(G.flatR l)[(k+1) * 5+j - 5]?
   rw [show (k+1) * 5+j - 5=k * 5+j from by omega]
theorem flat_appG (l m:List G.GrantD):G.flatR (l++m)=G.flatR l++G.flatR m:=by simp [G.flatR]
theorem flat_takeG (l:List G.GrantD) (k j:Nat) (u:Value) (h:(G.flatR (l.take k))[j]?=some u):(G.flatR l)[j]?=some u:=by
 have e:G.flatR l=G.flatR (l.take k)++G.flatR (l.drop k):=by
  rw [← flat_appG,List.take_append_drop]
 rw [e,List.getElem?_append_left (List.getElem?_eq_some_iff.1 h).1]
 exact h
theorem rstg_from {w:World} {a:Option Addr} {n p B k:Nat} {l:List G.GrantD} (h:G.Sl w (.slice a n p) l B) (hn:l.length=n) (hp:n≤p) (hk:k≤n):RstG w (sliced a k n p 5) (l.drop k):=by
 rcases h with ⟨h1,rfl⟩ | ⟨g,cap,h1,h2,h3,h4,h5⟩
 ·
  injection h1 with e1 e2 e3
  subst e1 e2 e3
  refine ⟨none,0, ?_,Or.inl ⟨rfl,rfl,by simp⟩⟩
  unfold sliced
  simp
 injection h1 with e1 e2 e3
 subst e1 e3
 unfold sliced
 by_cases e:p=k
 ·
  have e0:l.drop k=[]:=List.drop_of_length_le (by omega)
  rw [if_pos e,e0]
  exact ⟨_,p - k,by rw [show n - k=0 from by omega]; rfl,Or.inr ⟨g,0,rfl,h3,fun j u hj=>by simp [G.flatR] at hj⟩⟩
 rw [if_neg e,Option.map_some,addr_add]
 refine ⟨_,p - k,by rw [List.length_drop,hn],Or.inr ⟨g,0+k * 5,rfl,h3,fun j u hj=>?_⟩⟩
 rw [flat_dropG] at hj
 have:=flat_cellsH h4 _ u hj
 rw [Nat.zero_add]
 exact this
theorem rstg_to {w:World} {a:Option Addr} {n p B k:Nat} {l:List G.GrantD} (h:G.Sl w (.slice a n p) l B) (hn:l.length=n) (hp:n≤p) (hk:k≤n):RstG w (sliced a 0 k p 5) (l.take k):=by
 rcases h with ⟨h1,rfl⟩ | ⟨g,cap,h1,h2,h3,h4,h5⟩
 ·
  injection h1 with e1 e2 e3
  subst e1 e2 e3
  have:k=0:=by simpa using hk
  subst this
  exact ⟨none,0,rfl,Or.inl ⟨rfl,rfl,rfl⟩⟩
 injection h1 with e1 e2 e3
 subst e1 e3
 have ea:(if p=0 then some (⟨g,0,none⟩:Addr) else Option.map (·.add (0 * 5)) (some (⟨g,0,none⟩:Addr)))=some (⟨g,0,none⟩:Addr):=by
  split <;> rfl
 unfold sliced
 rw [ea]
 exact ⟨_,p - 0,by rw [List.length_take,hn,Nat.min_eq_left hk]; rfl,Or.inr ⟨g,0,rfl,h3,fun j u hj=>by rw [Nat.zero_add]; exact flat_cellsH h4 j u (flat_takeG l k j u hj)⟩⟩
theorem run_fromG (a:Option Addr) (n p k:Nat) (hk:k≤n) (wx:World):Sem.run Tryz.prog (Instr.slice 23 (.slice a n p) (some (.int .i64 (k:Int))) none none) wx=.ok (sliced a k n p 5) wx:=by
 have hu:Tryz.prog.underlying 23=some (.slice (Tryz.prog.elem 23)):=by kernel_rfl
 have hz:(sizeOf (Tryz.prog.elem 23)).run Tryz.prog wx=.ok 5 wx:=by kernel_rfl
 rw [run_slice_l wx 23 a n p hu .i64 (k:Int) (by omega) (by omega),hz]
 rfl
theorem run_toG (a:Option Addr) (n p k:Nat) (hk:k≤p) (wx:World):Sem.run Tryz.prog (Instr.slice 23 (.slice a n p) none (some (.int .i64 (k:Int))) none) wx=.ok (sliced a 0 k p 5) wx:=by
 have hu:Tryz.prog.underlying 23=some (.slice (Tryz.prog.elem 23)):=by kernel_rfl
 have hz:(sizeOf (Tryz.prog.elem 23)).run Tryz.prog wx=.ok 5 wx:=by kernel_rfl
 rw [run_slice_h wx 23 a n p hu .i64 (k:Int) (by omega) (by omega),hz]
 rfl
theorem appRstG {o:Oper} {a:Act} {Y:World} {K:Act→World→Prop} {Q:Exit→Act→World→Prop} (B:Nat) (s x:Operand)
  (ho:o.op=.call { callee:=.builtin .append,args:=#[s,x],argTypes:=#[23,23] }) (l m:List G.GrantD) (v vx:Value)
  (hs:a.eval s=v) (hown:OG B l Y v) (hB:B≤Y.heap.size) (hx:a.eval x=vx) (hr:RstG Y vx m) (hl:l.length+m.length≤1048576)
  (h:∀ (s':Value) (w':World),OG B (l++m) w' s'→Y.grownBy w' v.ownBlock→(s'.ownBlock=v.ownBlock∨s'.ownBlock=some Y.heap.size)→K (a.put o.dst s') w'):o.wp Tryz.prog a Y K Q:=by
 obtain ⟨i0,hi,hz0,hz1,hz2⟩:=info_parts G.infoR
 obtain ⟨ax,c,rfl,hr⟩:=hr
 rcases hr with ⟨rfl,rfl,rfl⟩ | ⟨g,off,rfl,hg,hc⟩
 ·
  have hrun:=run_append_owned_none (P:=Tryz.prog) (w:=Y) B 23 o.type 40 i0 5 Tryz.underlying23 hi v l.length _ hown
  have hx':a.eval x=.slice none 0 0:=hx
  unfold Oper.wp
  simp [execOp,ho,resolve,invoke,builtin,hs,hx',hrun,Result.andThen]
  exact h v Y (by simpa using hown) ⟨rfl,rfl,rfl,Nat.le_refl _,fun _ _ _=>rfl⟩ (Or.inl rfl)
 ·
  refine wp_append_own_atP s x 23 ho B 40 i0 _ 5 64 Tryz.underlying23 hi hz0 hz1 hz2 rfl (by decide) v l.length _ hs hown ⟨g,off,none⟩ m.length c (G.flatR m) hx (G.flatR_len _) (fun j u hj=>by rw [addr_add]; exact hc j u hj) (G.flatR_one _) (by unfold maxLen; omega) (by omega) hB ?_
  intro s' w' ho' hg' hat
  refine h s' w' ?_ hg' hat
  unfold OG
  rw [List.length_append,flat_appG]
  exact ho'
theorem copyRstG {o:Oper} {a:Act} {Y:World} {K:Act→World→Prop} {Q:Exit→Act→World→Prop} (B:Nat) (s x:Operand)
  (ho:o.op=.call { callee:=.builtin .append,args:=#[s,x],argTypes:=#[23,23] }) (m:List G.GrantD) (g0:Nat) (vx:Value)
  (hs:a.eval s=.slice (some ⟨g0,0,none⟩) 0 0) (hown:OG B [] Y (.slice (some ⟨g0,0,none⟩) 0 0)) (hB:B≤Y.heap.size) (hx:a.eval x=vx) (hr:RstG Y vx m) (hl:m.length≤1048576)
  (h:∀ (s':Value) (w':World),OG B m w' s'→Below Y.heap.size Y w'→K (a.put o.dst s') w'):o.wp Tryz.prog a Y K Q:=by
 obtain ⟨i0,hi,hz0,hz1,hz2⟩:=info_parts G.infoR
 obtain ⟨ax,c,rfl,hr⟩:=hr
 rcases hr with ⟨rfl,rfl,rfl⟩ | ⟨g,off,rfl,hg,hc⟩
 ·
  have hrun:=run_append_owned_none (P:=Tryz.prog) (w:=Y) B 23 o.type 40 i0 5 Tryz.underlying23 hi _ 0 _ hown
  have hx':a.eval x=.slice none 0 0:=hx
  unfold Oper.wp
  simp [execOp,ho,resolve,invoke,builtin,hs,hx',hrun,Result.andThen]
  exact h _ Y hown bR
 ·
  by_cases hm:m.length=0
  ·
   have hn:m=[]:=List.eq_nil_of_length_eq_zero hm
   subst hn
   have hrr:=run_append_room_cells (P:=Tryz.prog) Y 23 o.type 40 i0 Tryz.underlying23 hi g0 0 0 0 ⟨g,off,none⟩ 0 c [] (by simp) (fun j u hj=>by simp at hj) (fun u hu=>by cases hu) (Nat.le_refl _) (fun j hj=>by simp at hj) (fun j hj=>by simp at hj)
   have hx':a.eval x=.slice (some ⟨g,off,none⟩) 0 c:=hx
   unfold Oper.wp execOp
   simp only [ho,resolve,invoke,builtin,Sem.run_bind,Sem.run_pure,Result.andThen_ok,List.map_toArray,List.map_cons,List.map_nil,hs,hx',hrr]
   exact h _ _ hown bR
  obtain ⟨v',w',hrr,h2,h3⟩:=run_append_arg_grows (P:=Tryz.prog) Y 23 o.type 40 i0 _ 5 64 Tryz.underlying23 hi hz0 hz1 hz2 rfl (by decide) ⟨g0,0,none⟩ 0 0 [] (by simp) (fun j u hj=>by simp at hj) ⟨g,off,none⟩ m.length c (G.flatR m) (G.flatR_len _) (fun j u hj=>by rw [addr_add]; exact hc j u hj) (by omega) (by unfold maxLen; omega) (by omega)
  unfold Oper.wp execOp
  simp only [ho,resolve,invoke,builtin,Sem.run_bind,Sem.run_pure,Result.andThen_ok,List.map_toArray,List.map_cons,List.map_nil,hs,hx,hrr]
  exact h v' w' (owns_low (by simpa [OG] using h2) hB) (Below.grown bR h3 (Nat.le_refl _) (fun j hj=>by cases hj))
def arrG (g:G.GrantD):Array Value:=#[.string g.h,.string g.b,.string g.c,.int .i64 g.t,.int .i64 g.u]
theorem bld1G (g:G.GrantD) (w:World):Sem.run Tryz.prog (Instr.buildSlice 23 1 #[(0,.agg #[.string g.h,.string g.b,.string g.c,.int .i64 g.t,.int .i64 g.u])]) w=.ok (.slice (some ⟨w.heap.size,0,none⟩) 1 1) (w.alloc (.cells (arrG g) 40)):=by kernel_rfl
theorem rstg_one {w:World} {g:Nat} {r:G.GrantD} (h:w.heap[g]?=some (.cells (arrG r) 40 (0,0))):RstG w (.slice (some ⟨g,0,none⟩) 1 1) [r]:=by
 refine ⟨_,1,rfl,Or.inr ⟨g,0,rfl,(Array.getElem?_eq_some_iff.1 h).1,fun j u hj=>?_⟩⟩
 have:=blk_cells h j u (by simpa [G.flatR,arrG,G.GrantD.cells] using hj)
 rw [addr_add] at this
 exact this
end Go.Proofs.YtcjhlhijdacinaaGreatDoor
