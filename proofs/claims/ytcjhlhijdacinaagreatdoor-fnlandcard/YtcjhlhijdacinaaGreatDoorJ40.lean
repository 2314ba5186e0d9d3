import Derived.Test.YtcjhlhijdacinaaGreatDoorJ20
import Derived.Test.YtcjhlhijdacinaaGreatDoorJ11
import Derived.Test.YtcjhlhijdacinaaGreatDoorJ18
import Derived.Test.YtcjhlhijdacinaaGreatDoorJ22
namespace Go.Proofs.YtcjhlhijdacinaaGreatDoor
open Go.RowKit
set_option linter.unusedVariables false
theorem wp_copyW {o:Oper} {a:Act} {Y:World} {K:Act→World→Prop} {Q:Exit→Act→World→Prop} (B:Nat) (s x:Operand)
  (ho:o.op=.call { callee:=.builtin .append,args:=#[s,x],argTypes:=#[27,27] }) (l:List W.WantD) (g0:Nat)
  (hs:a.eval s=.slice (some ⟨g0,0,none⟩) 0 0) (hown:Y.ownsRow B 56 7 (.slice (some ⟨g0,0,none⟩) 0 0) 0 []) (ad:Option Addr) (c:Nat) (hx:a.eval x=.slice ad l.length c) (hsrc:W.Src Y ad c l) (hl:l.length≤1048576) (hB:B≤Y.heap.size)
  (h:∀ (s':Value) (w':World),W.Sl w' s' l B→Below Y.heap.size Y w'→K (a.put o.dst s') w'):o.wp Tryz.prog a Y K Q:=by
 obtain ⟨i0,hi,hz0,hz1,hz2⟩:=info_parts W.infoR
 rcases hsrc with ⟨rfl,rfl,rfl⟩ | ⟨g,rfl,hg,hr⟩
 ·
  have hrun:=run_append_owned_none (P:=Tryz.prog) (w:=Y) B 27 o.type 56 i0 7 Tryz.underlying27 hi _ 0 [] hown
  have hx':a.eval x=.slice none 0 0:=hx
  unfold Oper.wp execOp
  simp only [ho,resolve,invoke,builtin,Sem.run_bind,Sem.run_pure,Result.andThen_ok,List.map_toArray,List.map_cons,List.map_nil,hs,hx',hrun]
  exact h _ _ (W.Sl.of_owns (l:=[]) hown) bR
 ·
  refine wp_copyE s x 27 ho B 56 i0 _ 7 72 Tryz.underlying27 hi hz0 hz1 hz2 rfl (by decide) g0 hs hown g l.length c (W.flatR l) hx (W.flatR_len _) (W.flat_cells hr) (W.flatR_one _) (by unfold maxLen; omega) (by omega) hB ?_
  intro v' w' o9 b9
  exact h v' w' (W.Sl.of_owns o9) b9
def SnZ (ob Z:Nat) (cs:List Pc.PcRaw) (v:Value):Prop:=(∀ g,v.ownBlock=some g→g=ob∨Z≤g)∧∀ (j:Nat) c g,cs[j]?=some c→(Value.slice c.a c.n c.c).ownBlock=some g→Z≤g
theorem SnZ.app {ob Z:Nat} {cs:List Pc.PcRaw} {v v':Value} {y:World} {q:P.PlaceD} {av:Option Addr} {cv:Nat} (h:SnZ ob Z cs v) (hz:Z≤y.heap.size) (hw:∀ g,(Value.slice av q.ws.length cv).ownBlock=some g→Z≤g) (hat:v'.ownBlock=v.ownBlock∨v'.ownBlock=some y.heap.size):SnZ ob Z (cs++[toldP q av cv]) v':=by
 refine ⟨fun g hg=>?_,fun j c g hc hg=>?_⟩
 ·
  rcases hat with e | e
  · rw [e] at hg; exact h.1 g hg
  rw [e] at hg; have:=Option.some.inj hg; exact Or.inr (by omega)
 rcases Nat.lt_trichotomy j cs.length with hj | hj | hj
 · rw [List.getElem?_append_left hj] at hc; exact h.2 j c g hc hg
 ·
  subst hj
  rw [List.getElem?_append_right (Nat.le_refl _),Nat.sub_self] at hc
  simp at hc
  subst hc
  exact hw g hg
 rw [List.getElem?_append_right (by omega)] at hc
 rw [List.getElem?_eq_none (by simp; omega)] at hc
 cases hc
theorem Off.then_grown {ob:Nat} {w y y':World} {row:Option Nat} (h:Off (fun j=>j=ob) w y) (hg:y.grownBy y' row) (hr:∀ g,row=some g→g=ob∨w.heap.size≤g):Off (fun j=>j=ob) w y' :=
 ⟨hg.os.trans h.os,hg.tape.trans h.tape,hg.output.trans h.output,Nat.le_trans h.size hg.size,fun k hk hn=>(hg.block k (Nat.lt_of_lt_of_le hk h.size) (fun e=>by
  rcases hr k e.symm with e2 | e2
  · exact hn e2
  omega)).trans (h.block k hk hn)⟩
def sl9:Nat→Nat
 | 0=>37
 | 1=>38
 | 2=>39
 | 3=>40
 | 4=>41
 | 5=>42
 | 6=>43
 | 7=>44
 | 8=>45
 | 9=>46
 | 10=>47
 | _=>0
theorem sl9_inj (i:Nat) (hi:i < 11):∀ j,j < 11→sl9 j=sl9 i→j=i:=by
 have h:∀ a:_root_.Fin 11,∀ b:_root_.Fin 11,sl9 b.1=sl9 a.1→b.1=a.1:=by decide
 intro j hj e
 exact h ⟨i,hi⟩ ⟨j,hj⟩ e
theorem sl9_far:∀ j,(j < 37∨37+11≤j)→∀ i,i < 11→sl9 i≠j:=by
 intro j h2 i hi
 match i,hi with
 | 0,_=>show 37≠j; omega
 | 1,_=>show 38≠j; omega
 | 2,_=>show 39≠j; omega
 | 3,_=>show 40≠j; omega
 | 4,_=>show 41≠j; omega
 | 5,_=>show 42≠j; omega
 | 6,_=>show 43≠j; omega
 | 7,_=>show 44≠j; omega
 | 8,_=>show 45≠j; omega
 | 9,_=>show 46≠j; omega
 | 10,_=>show 47≠j; omega
def G9 (sv:Value) (pb Z:Nat) (q:P.PlaceD) (w:World):Nat→Value→Prop
 | 0,v=>v=sv
 | 1,v=>v=.pointer (some ⟨pb,0,none⟩)
 | 2,v=>v=.string q.b
 | 3,v=>v=.pointer (some ⟨pb,1,none⟩)
 | 4,v=>v=.int .i64 q.s
 | 5,v=>∃ g0,v=.slice (some ⟨g0,0,none⟩) 0 0∧w.ownsRow Z 56 7 v 0 []
 | 6,v=>v=.pointer (some ⟨pb,2,none⟩)
 | 7,v=>v=.slice q.a q.ws.length q.c
 | 8,v=>FrV Z q.ws w v
 | 9,v=>∃ av cv,v=.agg #[.int .i64 1,.string q.b,.int .i64 q.s,.slice av q.ws.length cv,.string ⟨#[]⟩,.string ⟨#[]⟩,.int .i64 0]∧W.Sl w (.slice av q.ws.length cv) q.ws Z
 | 10,v=>∃ av cv g,v=.slice (some ⟨g,0,none⟩) 1 1∧Z≤g∧g < w.heap.size∧w.heap[g]?=some (.cells (arrP q av cv) 29 (0,0))∧W.Sl w (.slice av q.ws.length cv) q.ws Z
 | _,_=>True
theorem G9.keep {sv:Value} {pb Z:Nat} {q:P.PlaceD} {w w':World} (hb:Below w.heap.size w w'):∀ j v,G9 sv pb Z q w j v→G9 sv pb Z q w' j v
 | 0,_,h=>h
 | 1,_,h=>h
 | 2,_,h=>h
 | 3,_,h=>h
 | 4,_,h=>h
 | 5,_,⟨g0,h1,h2⟩=>⟨g0,h1,G.owns_below h2 hb⟩
 | 6,_,h=>h
 | 7,_,h=>h
 | 8,_,h=>W.Sl.keep h hb
 | 9,_,⟨av,cv,h1,h2⟩=>⟨av,cv,h1,h2.keep hb⟩
 | 10,_,⟨av,cv,g,h1,h2,h3,h4,h5⟩=>⟨av,cv,g,h1,h2,Nat.lt_of_lt_of_le h3 hb.size,(hb.block g h3).trans h4,h5.keep hb⟩
 | _+11,_,h=>h
theorem toldSay_like {qs ps:List P.PlaceD} (h:P.Like qs ps):qs.map toldSay=ps.map toldSay:=by
 have e:∀ l:List P.PlaceD,l.map toldSay=(l.map P.PlaceD.says).map (fun x=>((1,x.1,x.2.1,x.2.2,{ data:=#[] },{ data:=#[] },0):Int × ByteArray × Int × List W.WantD × ByteArray × ByteArray × Int)):=fun l=>by rw [List.map_map]; rfl
 rw [e,e,h]
theorem bld0C (w:World):Sem.run Tryz.prog (Instr.buildSlice 32 0 #[]) w=.ok (.slice (some ⟨w.heap.size,0,none⟩) 0 0) (w.alloc (.cells #[] 29)):=by kernel_rfl
theorem pco_empty {w:World} {B b:Nat} (hB:B≤b) (hb:b < w.heap.size):PcO w B [] (.slice (some ⟨b,0,none⟩) 0 0) :=
 ⟨Or.inr ⟨b,0,rfl,hB,hb,(fun k r h=>by simp at h),fun j hj=>by simp at hj⟩,fun j q hq=>by simp at hq,fun j q g hq=>by simp at hq,fun i j q r g _ hq=>by simp at hq⟩
end Go.Proofs.YtcjhlhijdacinaaGreatDoor
