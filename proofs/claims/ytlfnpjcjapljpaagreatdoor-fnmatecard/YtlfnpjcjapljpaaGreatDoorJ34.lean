import Derived.Test.YtlfnpjcjapljpaaGreatDoorJ30
namespace Go.Proofs.YtlfnpjcjapljpaaGreatDoor
open Go.Maps Go.RowKit Go.WideMaps
set_option linter.unusedVariables false
theorem A.ask_cases(rs:List A.aC)(x:ByteArray):(A.fj rs x=-1/\∀a∈rs,a.h≠x)\/∃(k:Nat)(a:A.aC),A.fj rs x=(k:Int)/\rs[k]?=some a/\a.h=x:=by
 unfold A.fj;cases h:rs.findIdx? (fun r=>r.h.toList==x.toList)with
 |none=>rw[List.findIdx?_eq_none_iff]at h;exact Or.inl ⟨rfl,fun a ha e=>by have:=h a ha;rw[e]at this;simp at this⟩
 |some i=>rw[List.findIdx?_eq_some_iff_getElem]at h;obtain⟨hi,hp,-⟩:=h;refine Or.inr ⟨i,rs[i],rfl,List.getElem?_eq_getElem hi,Ord.nj ?_⟩;rw[<-ByteArray.toList_eq,<-ByteArray.toList_eq];exact eq_of_beq hp
theorem oA{v:Value}{k:Nat}(h:∀g,v.ownBlock=some g->g<k):v.ownBlock=none\/v.ownBlock≠some k:=by
 cases hv:v.ownBlock with
 |none=>exact Or.inl rfl
 |some g=>exact Or.inr (fun e=>by have:=h g hv;injection e with e;omega)
theorem A8{w w':World}{m:aj}{s1 s2 s3 s4 v:Value}{B C k:Nat}{l:List A.aC}{u:Bool}(h:dI w m s1 s2 s3 s4 B)(hv:A.Sl w v l C)(hlt:∀j,(s1.ownBlock=some j\/s2.ownBlock=some j\/s3.ownBlock=some j\/s4.ownBlock=some j)->j<k)(hk:k<C)(hB:B<=C)(he:Ex k w w'):
  dI w' ⟨m.nm,u,m.ck,m.kn,m.se,m.ws,m.rs,m.qs,l⟩ s1 s2 s3 v B:=
 ⟨h.a1.grown (W.av he) (oA (fun g hg=>hlt g (Or.inl hg))),h.a2.grown (av he) (oA (fun g hg=>hlt g (Or.inr (Or.inl hg)))),h.a3.grown (A.av he) (oA (fun g hg=>hlt g (Or.inr (Or.inr (Or.inl hg))))),(hv.grown (A.av he) (bC (N:=k) (fun g hg=>Nat.lt_of_lt_of_le hk (hv.lt g hg).1) (Nat.le_refl _))).low hB,h.gR,h.im,cj (fun g hg=>hlt g (Or.inl hg)) (fun g hg=>(hv.lt g hg).1) (Nat.le_of_lt hk),h.iu,cj (fun g hg=>hlt g (Or.inr (Or.inl hg))) (fun g hg=>(hv.lt g hg).1) (Nat.le_of_lt hk),cj (fun g hg=>hlt g (Or.inr (Or.inr (Or.inl hg)))) (fun g hg=>(hv.lt g hg).1) (Nat.le_of_lt hk)⟩
theorem dI.Ib{w w':World}{m:aj}{s1 s2 s3 s4:Value}{B k:Nat}(h:dI w m s1 s2 s3 s4 B)(hlt:∀j,(s1.ownBlock=some j\/s2.ownBlock=some j\/s3.ownBlock=some j\/s4.ownBlock=some j)->j<k)(he:Ex k w w'):dI w' m s1 s2 s3 s4 B:=
 ⟨h.a1.grown (W.av he) (oA (fun g hg=>hlt g (Or.inl hg))),h.a2.grown (av he) (oA (fun g hg=>hlt g (Or.inr (Or.inl hg)))),h.a3.grown (A.av he) (oA (fun g hg=>hlt g (Or.inr (Or.inr (Or.inl hg))))),h.a4.grown (A.av he) (oA (fun g hg=>hlt g (Or.inr (Or.inr (Or.inr hg))))),h.gR,h.im,h.iq,h.iu,h.iV,h.jo⟩
theorem tS{w w':World}{m:aj}{s1 s2 s3 s4 v:Value}{B C k:Nat}{l:List W.ay}{u n:Bool}{c:Int}(h:dI w m s1 s2 s3 s4 B)(hv:W.Sl w v l C)(hlt:∀j,(s1.ownBlock=some j\/s2.ownBlock=some j\/s3.ownBlock=some j\/s4.ownBlock=some j)->j<k)(hk:k<C)(hB:B<=C)(he:Ex k w w'):
  dI w' ⟨m.nm,u,m.ck,n,c,l,m.rs,m.qs,m.gs⟩ v s2 s3 s4 B:=
 have h':=h.Ib hlt he
 ⟨(hv.grown (W.av he) (bC (N:=k) (fun g hg=>Nat.lt_of_lt_of_le hk (hv.lt g hg).1) (Nat.le_refl _))).low hB,h'.a2,h'.a3,h'.a4,(cj (fun g hg=>hlt g (Or.inr (Or.inl hg))) (fun g hg=>(hv.lt g hg).1) (Nat.le_of_lt hk)).symm,(cj (fun g hg=>hlt g (Or.inr (Or.inr (Or.inl hg)))) (fun g hg=>(hv.lt g hg).1) (Nat.le_of_lt hk)).symm,(cj (fun g hg=>hlt g (Or.inr (Or.inr (Or.inr hg)))) (fun g hg=>(hv.lt g hg).1) (Nat.le_of_lt hk)).symm,h'.iu,h'.iV,h'.jo⟩
structure Stop(P:Prop):Prop where
 out:P
structure Bx(x:World)(B:Nat)(X:Array Value):Prop where
 b:∀k,x.cell? ⟨B,k,none⟩=X[k]?
 c:∀k,x.frozen? ⟨B,k,none⟩=false
 l:B<x.heap.size
theorem jg(x:World)(X:Array Value)(t:TypeId):Bx (x.alloc (.cells X t)) x.heap.size X:=⟨fun k=>by simp[go_sem],fun k=>by simp[go_sem],by simp⟩
theorem Bx.below{x y:World}{B:Nat}{X:Array Value}(h:Bx x B X)(hb:Below x.heap.size x y):Bx y B X:=
 ⟨fun j=>(hb.cell (p:=⟨B,j,none⟩) h.l).trans (h.b j),fun j=>(hb.frozen (p:=⟨B,j,none⟩) h.l).trans (h.c j),Nat.lt_of_lt_of_le h.l hb.size⟩
theorem Bx.ex{x y:World}{B k:Nat}{X:Array Value}(h:Bx x B X)(he:Ex k x y)(hk:B≠k):Bx y B X:=
 ⟨fun j=>(he.cell (p:=⟨B,j,none⟩) h.l hk).trans (h.b j),fun j=>(he.frozen (p:=⟨B,j,none⟩) h.l hk).trans (h.c j),Nat.lt_of_lt_of_le h.l he.size⟩
theorem Bx.set{x:World}{B:Nat}{X:Array Value}(h:Bx x B X)(j:Nat)(hj:j<X.size)(u:Value):Bx (x.setCell ⟨B,j,none⟩ u) B (X.setIfInBounds j u):=by
 have he:Ex B x (x.setCell ⟨B,j,none⟩ u):=(Ex.refl _ _).set j u;refine⟨fun k=>?_,fun k=>by rw[World.frozen?_setCell];exact h.c k,Nat.lt_of_lt_of_le h.l he.size⟩;by_cases e:k=j
 ·
  subst e;rw[World.cell?_setCell_same _ _ _ ((h.b k).trans (Array.getElem?_eq_getElem hj))];simp[hj]
 rw[World.cell?_setCell_other _ _ _ _ (fun h'=>e (by have:=congrArg Addr.off h';exact this.symm)),h.b k];rw[Array.getElem?_setIfInBounds_ne (fun h'=>e h'.symm)]
end Go.Proofs.YtlfnpjcjapljpaaGreatDoor
