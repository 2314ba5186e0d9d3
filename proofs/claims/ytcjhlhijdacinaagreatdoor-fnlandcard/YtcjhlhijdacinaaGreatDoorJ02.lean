import Derived.Test.YtcjhlhijdacinaaGreatDoorJ01
import Derived.Deep.MidRow
import Derived.Laws.MakeOwn
import Derived.Laws.AppendOwn
import Derived.Sort.KeysCollected
import Derived.Deep.RegionHeld3
import Derived.Laws.Pointers
import Derived.StillTactics
namespace Go.Proofs.YtcjhlhijdacinaaGreatDoor.G
open Go.RowKit
set_option linter.unusedVariables false
def Sl (w:World) (v:Value) (l:List GrantD) (B:Nat):Prop:=(v=.slice none 0 0∧l=[])∨∃ g cap,v=.slice (some ⟨g,0,none⟩) l.length cap∧B≤g∧g < w.heap.size∧RowsAt w g 0 l∧w.there g 0 (l.length * 5)
theorem Sl.of_owns {w:World} {v:Value} {l:List GrantD} {B:Nat} (h:w.ownsRow B 40 5 v l.length (flatR l)):Sl w v l B:=rows_of_owns h
theorem Sl.grown {w w':World} {v:Value} {l:List GrantD} {B:Nat} {row:Option Nat} (h:Sl w v l B) (hg:w.grownBy w' row) (hne:v.ownBlock=none∨v.ownBlock≠row):Sl w' v l B:=by
 rcases h with h | ⟨g,cap,rfl,h1,h2,h3,h4⟩
 · exact Or.inl h
 have hn:some g≠row:=by simpa [Value.ownBlock] using hne
 have hc:∀ o,w'.cell? ⟨g,o,none⟩=w.cell? ⟨g,o,none⟩:=fun o=>World.cell?_of_block (w:=w) (a:=⟨g,o,none⟩) (hg.block g h2 hn)
 have hfz:∀ o,w'.frozen? ⟨g,o,none⟩=w.frozen? ⟨g,o,none⟩:=fun o=>World.frozen?_of_block (w:=w) (a:=⟨g,o,none⟩) (hg.block g h2 hn)
 exact Or.inr ⟨g,cap,rfl,h1,Nat.lt_of_lt_of_le h2 hg.size,fun k r hk j v hj=>(hc _).trans (h3 k r hk j v hj),fun j hj=>⟨by rw [hc]; exact (h4 j hj).1,by rw [hfz]; exact (h4 j hj).2⟩⟩
theorem Sl.keep {w w':World} {v:Value} {l:List GrantD} {B:Nat} (h:Sl w v l B) (hb:Below w.heap.size w w'):Sl w' v l B :=
 h.grown (row:=none) ⟨hb.os,hb.tape,hb.output,hb.size,fun k hk _=>hb.block k hk⟩ (by cases hv:v.ownBlock <;> simp)
theorem Sl.lt {w:World} {v:Value} {l:List GrantD} {B:Nat} (h:Sl w v l B):∀ g,v.ownBlock=some g→B≤g∧g < w.heap.size:=by
 rcases h with ⟨rfl,-⟩ | ⟨g,cap,rfl,h1,h2,-⟩
 · intro g hg; simp [Value.ownBlock] at hg
 intro g' hg; simp [Value.ownBlock] at hg; subst hg; exact ⟨h1,h2⟩
theorem Sl.shape {w:World} {v:Value} {l:List GrantD} {B:Nat} (h:Sl w v l B):∃ a c,v=.slice a l.length c:=by
 rcases h with ⟨rfl,rfl⟩ | ⟨g,cap,rfl,-⟩
 · exact ⟨none,0,rfl⟩
 exact ⟨_,_,rfl⟩
end Go.Proofs.YtcjhlhijdacinaaGreatDoor.G
namespace Go.Proofs.YtcjhlhijdacinaaGreatDoor
open Go.RowKit
set_option linter.unusedVariables false
structure RunD where
 c:ByteArray
 h:ByteArray
 v:Int
 p:Int
 s:Int
 d:Int
 g:Int
 a:Int
 b:Int
 i:Int
 u:Int
def RunD.cells (r:RunD):List Value:=[.string r.c,.int .i64 r.v,.string r.h,.int .i64 r.p,.int .i64 r.s,.int .i64 r.d,.int .i64 r.g,.int .i64 r.a,.int .i64 r.b,.int .i64 r.i,.int .i64 r.u]
def RowsAt (w:World) (b off:Nat) (rs:List RunD):Prop:=∀ k r,rs[k]?=some r→w.rangeAt b (off+k * 11) r.cells
theorem RowsAt.keep {w w':World} {b off:Nat} {rs:List RunD} (h:RowsAt w b off rs) (hb:b < w.heap.size) (hB:Below w.heap.size w w'):RowsAt w' b off rs :=
 fun k r hk j v hj=>(hB.cell (p:=⟨b,off+k * 11+j,none⟩) hb).trans (h k r hk j v hj)
theorem RowsAt.at {w:World} {b off:Nat} {rs:List RunD} (h:RowsAt w b off rs) {k:Nat} {r:RunD} (hk:rs[k]?=some r) :
  w.cell? ⟨b,off+k * 11,none⟩=some (.string r.c)∧w.cell? ⟨b,off+k * 11+1,none⟩=some (.int .i64 r.v)∧w.cell? ⟨b,off+k * 11+2,none⟩=some (.string r.h)∧w.cell? ⟨b,off+k * 11+3,none⟩=some (.int .i64 r.p)∧w.cell? ⟨b,off+k * 11+4,none⟩=some (.int .i64 r.s)∧w.cell? ⟨b,off+k * 11+5,none⟩=some (.int .i64 r.d)∧w.cell? ⟨b,off+k * 11+6,none⟩=some (.int .i64 r.g)∧w.cell? ⟨b,off+k * 11+7,none⟩=some (.int .i64 r.a)∧w.cell? ⟨b,off+k * 11+8,none⟩=some (.int .i64 r.b)∧w.cell? ⟨b,off+k * 11+9,none⟩=some (.int .i64 r.i)∧w.cell? ⟨b,off+k * 11+10,none⟩=some (.int .i64 r.u) :=
 ⟨h k r hk 0 _ rfl,h k r hk 1 _ rfl,h k r hk 2 _ rfl,h k r hk 3 _ rfl,h k r hk 4 _ rfl,h k r hk 5 _ rfl,h k r hk 6 _ rfl,h k r hk 7 _ rfl,h k r hk 8 _ rfl,h k r hk 9 _ rfl,h k r hk 10 _ rfl⟩
def flatR (rs:List RunD):List Value:=rs.flatMap RunD.cells
theorem flatR_len:∀ rs:List RunD,(flatR rs).length=rs.length * 11
 | []=>rfl
 | r :: rs=>by
  have:=flatR_len rs
  simp only [flatR,List.flatMap_cons,List.length_append] at this ⊢
  simp only [this,List.length_cons]
  show 11+rs.length * 11=_
  omega
theorem flatR_snoc (rs:List RunD) (r:RunD):flatR (rs++[r])=flatR rs++r.cells:=by simp [flatR]
theorem flatR_at:∀ (rs:List RunD) (k:Nat) (r:RunD),rs[k]?=some r→∀ j,j < 11→(flatR rs)[k * 11+j]?=r.cells[j]?
 | [],k,r,h,j,hj=>by simp at h
 | q :: rs,0,r,h,j,hj=>by
  simp at h; subst h
  rw [flatR,List.flatMap_cons,List.getElem?_append_left (by show _ < 11; omega)]
  simp
 | q :: rs,k+1,r,h,j,hj=>by
  have ih:=flatR_at rs k r (by simpa using h) j hj
  rw [flatR,List.flatMap_cons,List.getElem?_append_right (by show 11≤_; omega)]
  rw [← ih]
  show (flatR rs)[(k+1) * 11+j - 11]?=_
  rw [show (k+1) * 11+j - 11=k * 11+j from by omega]
theorem flatR_one (rs:List RunD):∀ u∈flatR rs,u.oneCell'=true:=by
 intro u hu
 obtain ⟨r,-,h⟩:=List.mem_flatMap.1 hu
 simp [RunD.cells] at h
 rcases h with rfl | rfl | rfl | rfl | rfl | rfl | rfl | rfl | rfl | rfl | rfl <;> rfl
theorem owns_below {x y:World} {base:Nat} {e:TypeId} {size:Nat} {v:Value} {n:Nat} {xs:List Value} (h:x.ownsRow base e size v n xs) (hb:Below x.heap.size x y):y.ownsRow base e size v n xs :=
 h.kept (row:=none) ⟨hb.os,hb.tape,hb.output,hb.size,fun k hk _=>hb.block k hk⟩ (by cases hv:v.ownBlock <;> simp)
theorem owns_ge {x:World} {base:Nat} {e:TypeId} {size:Nat} {v:Value} {n:Nat} {xs:List Value} (h:x.ownsRow base e size v n xs):∀ k,v.ownBlock=some k→base≤k:=fun k hk=>(h.lt k hk).1
theorem new_cells (x:World) (N:Nat) (hN:N=x.heap.size) (arr:Array Value) (t:TypeId) (vs:List Value) (hv:arr.toList=vs):∀ j u,vs[j]?=some u→(x.alloc (.cells arr t)).cell? ((⟨N,0,none⟩:Addr).add j)=some u:=by
 intro j u hj
 subst hN hv
 rw [Addr.add_mid,Nat.zero_add,World.cell?_alloc_new]
 simpa using hj
theorem cellsR_one (r:RunD):∀ u∈r.cells,u.oneCell'=true:=fun u hu=>flatR_one [r] u (by simpa [flatR] using hu)
def StrAt (w:World) (a:Option Addr) (xs:List ByteArray):Prop:=xs=[]∨∃ g,a=some ⟨g,0,none⟩∧g < w.heap.size∧∀ k x,xs[k]?=some x→w.cell? ⟨g,k,none⟩=some (.string x)
theorem StrAt.keep {w w':World} {a:Option Addr} {xs:List ByteArray} (h:StrAt w a xs) (hb:Below w.heap.size w w'):StrAt w' a xs:=by
 rcases h with h | ⟨g,h1,h2,h3⟩
 · exact Or.inl h
 exact Or.inr ⟨g,h1,Nat.lt_of_lt_of_le h2 hb.size,fun k x hk=>(hb.cell (p:=⟨g,k,none⟩) h2).trans (h3 k x hk)⟩
theorem str_shape {w:World} {base:Nat} {e:TypeId} {v:Value} {n:Nat} {xs:List Value} (h:w.ownsRow base e 1 v n xs):∃ a c,v=.slice a n c:=by
 rcases h.2 with ⟨h1,h2⟩ | ⟨g,cap,cur,h1,-⟩
 · subst h2; exact ⟨none,0,h1⟩
 exact ⟨_,_,h1⟩
theorem str_at {w:World} {base:Nat} {e:TypeId} {a:Option Addr} {c:Nat} {xs:List ByteArray} (h:w.ownsRow base e 1 (.slice a xs.length c) xs.length (xs.map (fun x=>.string x))):StrAt w a xs:=by
 obtain ⟨hl,⟨h0,hn⟩ | ⟨g,cap,cur,h0,hb,hg,hnc,hcm,hcs,htk⟩⟩:=h
 · exact Or.inl (List.length_eq_zero_iff.1 hn)
 cases h0
 refine Or.inr ⟨g,rfl,(Array.getElem?_eq_some_iff.1 hg).1,fun k x hk=>?_⟩
 have hf:(xs.map (fun x=>Value.string x))[k]?=some (.string x):=by rw [List.getElem?_map,hk]; rfl
 rw [← htk,List.getElem?_take] at hf
 split at hf
 ·
  rw [cell_of_row w g _ cur _ (0,0) hg]
  simpa using hf
 cases hf
end Go.Proofs.YtcjhlhijdacinaaGreatDoor
namespace Go.Proofs.YtcjhlhijdacinaaGreatDoor.G
open Go.RowKit Go.Maps Go.WideMaps
set_option linter.unusedVariables false
def KeysSay:Prop:=∀ (mb:Option Nat) (Wo:World),Calls Tryz.prog 87 #[.map mb] Wo fun e w'=>e=.returned (.func (.func 101) #[] #[.pointer (some ⟨Wo.heap.size,0,none⟩)])∧w'=Wo.alloc (.cells #[.map mb] 90)
def SortedSay:Prop:=∀ (b nn:Nat) (rs:List GrantD) (w:World),w.ownsMap Tryz.prog 9 RV b nn (dec rs)→rs.length≤1048576 →
 Calls Tryz.prog 79 #[.func (.func 101) #[] #[.pointer (some ⟨w.heap.size,0,none⟩)]] (w.alloc (.cells #[.map (some b)] 90)) fun e w'=>∃ (v:Value) (ss:List (List UInt8)),e=.returned v∧ss.Perm (strKeys (dec rs)) ∧
  w'.ownsRow (w.alloc (.cells #[.map (some b)] 90)).heap.size 9 1 v ss.length ((ss.mergeSort (fun x y=>decide (x≤y))).map encStr)∧Below (w.alloc (.cells #[.map (some b)] 90)).heap.size (w.alloc (.cells #[.map (some b)] 90)) w'
theorem atV {w:World} (b n:Nat) (rs:List GrantD) (hown:w.ownsMap Tryz.prog 9 RV b n (dec rs)) (hs:Srt rs) (r:GrantD) (hr:r∈rs) (hz:r.h.size≤maxLen) :
  Sem.run Tryz.prog (Instr.lookup 90 (.map (some b)) (.string r.h) false) w=.ok (.agg #[.string r.h,.string r.b,.string r.c,.int .i64 r.t,.int .i64 r.u]) w:=by
 obtain ⟨v,ps,hrun,hv⟩:=hown.lookup lawV (t:=90) (e:=40) Tryz.underlying90 (zeroV w) (zd:=.held ⟨⟨#[]⟩,⟨#[]⟩,⟨#[]⟩,0,0⟩) (zp:=[]) rfl (keyOf_string_mk Tryz.underlying9 hz)
 rw [show Lit.string r.h.data.toList=Lit.string (keyV r) from rfl,show (dec rs).atKey (Lit.string (keyV r)) (.held ⟨⟨#[]⟩,⟨#[]⟩,⟨#[]⟩,0,0⟩)=.held r from Ord.dec_at keyV hs hr _] at hv
 rw [RV_inv hv] at hrun
 exact hrun
theorem enc_key (r:GrantD):encStr (keyV r)=Value.string r.h:=by
 show Value.string ⟨r.h.data.toList.toArray⟩=_
 rw [Array.toArray_toList]
theorem flat_snoc' {rs:List GrantD} {k:Nat} {r:GrantD} (hr:rs[k]?=some r):flatR (rs.take (k+1))=flatR (rs.take k)++r.cells:=by
 have hlt:k < rs.length:=(List.getElem?_eq_some_iff.1 hr).1
 have he:rs[k]=r:=by rw [List.getElem?_eq_getElem hlt] at hr; exact Option.some.inj hr
 rw [List.take_succ_eq_append_getElem hlt,he]
 simp [flatR]
set_option maxRecDepth 4000 in
set_option maxHeartbeats 2000000 in
theorem own_low {w:World} {v:Value} {m:Nat} {xs:List Value} {B B':Nat} (h:w.ownsRow B 40 5 v m xs) (hB:B'≤B):w.ownsRow B' 40 5 v m xs:=by
 obtain ⟨h1,h2 | ⟨g,cap,cur,h3,h4,h5⟩⟩:=h
 · exact ⟨h1,Or.inl h2⟩
 exact ⟨h1,Or.inr ⟨g,cap,cur,h3,Nat.le_trans hB h4,h5⟩⟩
set_option maxRecDepth 4000 in
set_option maxHeartbeats 2000000 in
theorem inOrderO (hK:KeysSay) (hS:SortedSay) (b nn:Nat) (rs:List GrantD) (w:World) (hown:w.ownsMap Tryz.prog 9 RV b nn (dec rs)) (hs:Srt rs) (hfit:∀ r∈rs,r.h.size≤maxLen) (hl:rs.length≤1048576) :
  Calls Tryz.prog 74 #[.map (some b)] w fun e w'=>(∃ v,e=.returned v∧w'.ownsRow w.heap.size 40 5 v rs.length (flatR rs))∧Below w.heap.size w w':=by
 have HO:=hidP hown
 have HS:=hidP hs
 have cK:=hidP hK
 have cS:=hidP hS
 have HF:=hidP hfit
 clear hown hs hK hS hfit
 obtain ⟨i0,hi,hz0,hz1,hz2⟩:=info_parts infoR
 go_enter Tryz.func74,Tryz.ntmps74
 go_wp2_with fail
 refine (cK.out _ _).mono ?_
 rintro e w' ⟨rfl,rfl⟩
 go_wp2_with fail
 refine (cS.out b nn rs _ HO.out hl).mono ?_
 rintro e w1 ⟨v,ss,rfl,hp,hrow,hb⟩
 have hlen:ss.length=rs.length:=by rw [hp.length_eq,show strKeys (dec rs)=rs.map keyV from Ord.keys_dec keyV rs,List.length_map]
 rw [Ord.sorted_keys keyV HS.out hp,hlen] at hrow
 have B1:Hid (Below w.heap.size w w1):=bl_trans (bl_alloc bR _) hb
 have O1:=hidP (mapv_below HO.out B1.out)
 obtain ⟨a,c,rfl⟩:=str_shape hrow
 have Hrow:Hid (StrAt w1 a (rs.map (fun r=>r.h))):=str_at (by rw [List.length_map,List.map_map]; rw [List.map_map,show (encStr ∘ keyV)=((fun x=>Value.string x) ∘ fun r:GrantD=>r.h) from funext enc_key] at hrow; exact hrow)
 clear hrow hp hb hlen
 go_wp2_with fail
 go_loopw [3,10] (fun v i wx=>∃ (k:Nat),k≤rs.length∧i=.int .i64 k∧wx.ownsRow w1.heap.size 40 5 v k (flatR (rs.take k))∧Hid (Below w1.heap.size w1 wx)) (fun _ i _=>rs.length - (intOf i).toNat)
 case atStart=>exact ⟨0,Nat.zero_le _,rfl,World.ownsRow_nil _ _ _ _,Below.refl _ _⟩
 case round =>
  obtain ⟨k,hk,rfl,hown,HB⟩:=hrel
  by_cases hlt:k < rs.length
  ·
   obtain ⟨r,hr⟩:∃ r,rs[k]?=some r:=⟨rs[k],List.getElem?_eq_getElem hlt⟩
   have Hr:=hidP hr
   obtain ⟨g,rfl,hg,hc⟩:=(Hrow.out.keep HB.out).resolve_left (fun h=>by rw [List.map_eq_nil_iff] at h; rw [h] at hlt; simp at hlt)
   have c0:=hc k r.h (by rw [List.getElem?_map,hr]; rfl)
   have hlk:=atV b nn rs (mapv_below O1.out HB.out) HS.out r (List.mem_of_getElem? hr) (HF.out r (List.mem_of_getElem? hr))
   obtain ⟨xs,hxs⟩:∃ xs,xs=flatR (rs.take k):=⟨_,rfl⟩
   rw [← hxs] at hown
   have Ho:=hidP hown
   have Hx:=hidP hxs
   have hzw:=HB.out.size
   have i1:(k:Int) < (rs.length:Int):=by omega
   clear hr hown hxs hc
   go_wp2_with (at_builtin; refine wpList_append_own _ rfl _ _ 23 rfl w1.heap.size 40 i0 _ 5 64 Tryz.underlying23 hi hz0 hz1 hz2 rfl (by decide) _ k _ rfl (by exact owns_below Ho.out (by repeat (first | exact Below.refl _ _ | refine bl_alloc ?_ _))) ⟨_,0,none⟩ 1 1 r.cells rfl rfl (new_cells _ _ (by simp) _ _ _ rfl) (cellsR_one _) (by unfold maxLen; omega) (by omega) (by simp; omega) ?_; intro v' w2 ho2 hg2 hn2)
   refine ⟨⟨k+1,by omega,by go_num, ?_,Below.grown (by repeat (first | exact HB.out | refine bl_alloc ?_ _)) hg2 (by simp; omega) (owns_ge Ho.out)⟩,by simp [intOf]; omega⟩
   rw [flat_snoc' Hr.out,← Hx.out]
   exact ho2
  go_wp2
  go_ret
  have hk':k=rs.length:=by omega
  subst hk'
  rw [List.take_of_length_le (Nat.le_refl _)] at hown
  exact ⟨⟨_,rfl,own_low hown B1.out.size⟩,bl_trans B1.out HB.out⟩
end Go.Proofs.YtcjhlhijdacinaaGreatDoor.G
namespace Go.Proofs.YtcjhlhijdacinaaGreatDoor.W
open Go.RowKit
set_option linter.unusedVariables false
structure WantD where
 c:ByteArray
 h:ByteArray
 v:Int
 p:Int
 s:Int
 d:Int
 g:Int
def WantD.cells (r:WantD):List Value:=[.string r.c,.int .i64 r.v,.string r.h,.int .i64 r.p,.int .i64 r.s,.int .i64 r.d,.int .i64 r.g]
def WantD.fits (r:WantD):Prop:=r.c.size≤maxLen∧r.h.size≤maxLen
def RowsAt (w:World) (b off:Nat) (rs:List WantD):Prop:=∀ k r,rs[k]?=some r→w.rangeAt b (off+k * 7) r.cells
theorem RowsAt.keep {w w':World} {b off:Nat} {rs:List WantD} (h:RowsAt w b off rs) (hb:b < w.heap.size) (hB:Below w.heap.size w w'):RowsAt w' b off rs :=
 fun k r hk j v hj=>(hB.cell (p:=⟨b,off+k * 7+j,none⟩) hb).trans (h k r hk j v hj)
theorem RowsAt.at {w:World} {b off:Nat} {rs:List WantD} (h:RowsAt w b off rs) {k:Nat} {r:WantD} (hk:rs[k]?=some r) :
  w.cell? ⟨b,off+k * 7,none⟩=some (.string r.c)∧w.cell? ⟨b,off+k * 7+1,none⟩=some (.int .i64 r.v)∧w.cell? ⟨b,off+k * 7+2,none⟩=some (.string r.h)∧w.cell? ⟨b,off+k * 7+3,none⟩=some (.int .i64 r.p)∧w.cell? ⟨b,off+k * 7+4,none⟩=some (.int .i64 r.s)∧w.cell? ⟨b,off+k * 7+5,none⟩=some (.int .i64 r.d)∧w.cell? ⟨b,off+k * 7+6,none⟩=some (.int .i64 r.g) :=
 ⟨h k r hk 0 _ rfl,h k r hk 1 _ rfl,h k r hk 2 _ rfl,h k r hk 3 _ rfl,h k r hk 4 _ rfl,h k r hk 5 _ rfl,h k r hk 6 _ rfl⟩
end Go.Proofs.YtcjhlhijdacinaaGreatDoor.W
namespace Go.Proofs.YtcjhlhijdacinaaGreatDoor.A
open Go.RowKit
set_option linter.unusedVariables false
structure AskD where
 h:ByteArray
 c:ByteArray
 f:Int
 t:Int
end Go.Proofs.YtcjhlhijdacinaaGreatDoor.A
namespace Go.Proofs.YtcjhlhijdacinaaGreatDoor.P
open Go.RowKit
set_option linter.unusedVariables false
structure PlaceD where
 b:ByteArray
 s:Int
 a:Option Addr
 c:Nat
 ws:List W.WantD
def PlaceD.cells (r:PlaceD):List Value:=[.string r.b,.int .i64 r.s,.slice r.a r.ws.length r.c]
def PlaceD.says (r:PlaceD):ByteArray × Int × List W.WantD:=(r.b,r.s,r.ws)
def Like (ps qs:List PlaceD):Prop:=ps.map PlaceD.says=qs.map PlaceD.says
theorem Like.len {ps qs:List PlaceD} (h:Like ps qs):ps.length=qs.length:=by simpa using congrArg List.length h
theorem Like.at {ps qs:List PlaceD} (h:Like ps qs) {k:Nat} {p q:PlaceD} (hp:ps[k]?=some p) (hq:qs[k]?=some q):p.b=q.b∧p.s=q.s∧p.ws=q.ws:=by
 have h1:(ps.map PlaceD.says)[k]?=(qs.map PlaceD.says)[k]?:=by rw [h]
 rw [List.getElem?_map,List.getElem?_map,hp,hq] at h1
 simpa [PlaceD.says] using h1
theorem Like.get {ps qs:List PlaceD} (h:Like ps qs) {k:Nat} {p:PlaceD} (hp:ps[k]?=some p):∃ q,qs[k]?=some q∧p.b=q.b∧p.s=q.s∧p.ws=q.ws:=by
 have hk:k < qs.length:=by rw [← h.len]; exact (List.getElem?_eq_some_iff.1 hp).1
 exact ⟨qs[k],List.getElem?_eq_getElem hk,h.at hp (List.getElem?_eq_getElem hk)⟩
theorem Like.symm {ps qs:List PlaceD} (h:Like ps qs):Like qs ps:=Eq.symm h
theorem Like.trans {ps qs rs:List PlaceD} (h:Like ps qs) (h':Like qs rs):Like ps rs:=Eq.trans h h'
def RowsAt (w:World) (b off:Nat) (rs:List PlaceD):Prop:=∀ k r,rs[k]?=some r→w.rangeAt b (off+k * 3) r.cells
theorem RowsAt.keep {w w':World} {b off:Nat} {rs:List PlaceD} (h:RowsAt w b off rs) (hb:b < w.heap.size) (hB:Below w.heap.size w w'):RowsAt w' b off rs :=
 fun k r hk j v hj=>(hB.cell (p:=⟨b,off+k * 3+j,none⟩) hb).trans (h k r hk j v hj)
theorem RowsAt.at {w:World} {b off:Nat} {rs:List PlaceD} (h:RowsAt w b off rs) {k:Nat} {r:PlaceD} (hk:rs[k]?=some r) :
  w.cell? ⟨b,off+k * 3,none⟩=some (.string r.b)∧w.cell? ⟨b,off+k * 3+1,none⟩=some (.int .i64 r.s)∧w.cell? ⟨b,off+k * 3+2,none⟩=some (.slice r.a r.ws.length r.c) :=
 ⟨h k r hk 0 _ rfl,h k r hk 1 _ rfl,h k r hk 2 _ rfl⟩
def Lns (rs:List PlaceD):Prop:=∀ r∈rs,r.ws.length≤1048576
end Go.Proofs.YtcjhlhijdacinaaGreatDoor.P
namespace Go.Proofs.YtcjhlhijdacinaaGreatDoor.Pr
open Go.RowKit
set_option linter.unusedVariables false
structure PlRaw where
 b:ByteArray
 s:Int
 a:Option Addr
 n:Nat
 c:Nat
def PlRaw.cells (r:PlRaw):List Value:=[.string r.b,.int .i64 r.s,.slice r.a r.n r.c]
def RowsAt (w:World) (b off:Nat) (rs:List PlRaw):Prop:=∀ k r,rs[k]?=some r→w.rangeAt b (off+k * 3) r.cells
theorem RowsAt.keep {w w':World} {b off:Nat} {rs:List PlRaw} (h:RowsAt w b off rs) (hb:b < w.heap.size) (hB:Below w.heap.size w w'):RowsAt w' b off rs :=
 fun k r hk j v hj=>(hB.cell (p:=⟨b,off+k * 3+j,none⟩) hb).trans (h k r hk j v hj)
theorem RowsAt.at {w:World} {b off:Nat} {rs:List PlRaw} (h:RowsAt w b off rs) {k:Nat} {r:PlRaw} (hk:rs[k]?=some r) :
  w.cell? ⟨b,off+k * 3,none⟩=some (.string r.b)∧w.cell? ⟨b,off+k * 3+1,none⟩=some (.int .i64 r.s)∧w.cell? ⟨b,off+k * 3+2,none⟩=some (.slice r.a r.n r.c) :=
 ⟨h k r hk 0 _ rfl,h k r hk 1 _ rfl,h k r hk 2 _ rfl⟩
def raw (r:P.PlaceD):PlRaw:=⟨r.b,r.s,r.a,r.ws.length,r.c⟩
theorem raw_rows {w:World} {b off:Nat} {ps:List P.PlaceD} (h:P.RowsAt w b off ps):RowsAt w b off (ps.map raw):=by
 intro k r hk
 rw [List.getElem?_map] at hk
 obtain ⟨p,hp,rfl⟩:=Option.map_eq_some_iff.1 hk
 exact h k p hp
end Go.Proofs.YtcjhlhijdacinaaGreatDoor.Pr
namespace Go.Proofs.YtcjhlhijdacinaaGreatDoor.Pr
open Go.RowKit
set_option linter.unusedVariables false
theorem name_any (r:PlRaw) (w:World) :
  Calls Tryz.prog 62 #[.agg #[.string r.b,.int .i64 r.s,.slice r.a r.n r.c]] w fun e w'=>e=.returned (.string r.b)∧Below w.heap.size w w':=by
 go_enter Tryz.func62,Tryz.ntmps62
 go_wp2
 go_ret
 exact ⟨rfl,by repeat (first | exact Below.refl _ _ | refine bl_alloc ?_ _)⟩
def AscN (rs:List PlRaw) (n:Nat):Prop:=∀ j q r,j+1 < n→rs[j]?=some q→rs[j+1]?=some r→Op.bytesLess q.b.toList r.b.toList=true
end Go.Proofs.YtcjhlhijdacinaaGreatDoor.Pr
namespace Go.Proofs.YtcjhlhijdacinaaGreatDoor.Pr
open Go.RowKit Go.Maps Go.WideMaps
set_option linter.unusedVariables false
theorem lawV:Keyed Tryz.prog 9:=string_keyed Tryz.underlying9
def RVL (xs:List Value):Option (DataW PlRaw × List MemPlace) :=
 match xs with
 | [.string b',.int .i64 s',.slice a' n' c']=>some (.held ⟨b',s',a',n',c'⟩,[])
 | _=>none
def RV (v:Value):Option (DataW PlRaw × List MemPlace) :=
 match v with
 | .agg xs=>RVL xs.toList
 | _=>none
theorem RV_inv {v:Value} {r:PlRaw} {ps:List MemPlace} (h:RV v=some (.held r,ps)):v=.agg #[.string r.b,.int .i64 r.s,.slice r.a r.n r.c]:=by
 unfold RV at h
 split at h
 ·
  rename_i xs
  obtain ⟨l⟩:=xs
  simp only at h
  unfold RVL at h
  split at h
  ·
   simp only [Option.some.injEq,Prod.mk.injEq,DataW.held.injEq] at h
   obtain ⟨rfl,-⟩:=h
   rfl
  cases h
 cases h
def keyV (r:PlRaw):List UInt8:=r.b.data.toList
def dec (rs:List PlRaw):DataW PlRaw:=Ord.dec keyV rs
def Srt (rs:List PlRaw):Prop:=Ord.Srt keyV rs
theorem srt_asc {rs:List PlRaw} (h:AscN rs rs.length):Srt rs :=
 Ord.srt_of keyV rs (fun j q r hq hr=>by
  have h1:=h j q r (by have:=(List.getElem?_eq_some_iff.1 hr).1; omega) hq hr
  rw [Ord.less_before,ByteArray.toList_eq,ByteArray.toList_eq] at h1
  exact h1)
theorem mapv_below {x y:World} {b n:Nat} {D:DataW PlRaw} (h:x.ownsMap Tryz.prog 9 RV b n D) (hb:Below x.heap.size x y):y.ownsMap Tryz.prog 9 RV b n D :=
 h.kept (row:=none) ⟨hb.os,hb.tape,hb.output,hb.size,fun k hk _=>hb.block k hk⟩ (by simp)
theorem mapv_step {w:World} (b n:Nat) (rs:List PlRaw) (r:PlRaw) (hown:w.ownsMap Tryz.prog 9 RV b n (dec rs)) (hn:n < maxLen) (hs:r.b.size≤maxLen) :
  ∃ w',Sem.run Tryz.prog (Instr.mapUpdate 91 (.map (some b)) (.string r.b) (.agg #[.string r.b,.int .i64 r.s,.slice r.a r.n r.c])) w=.ok () w'∧w'.ownsMap Tryz.prog 9 RV b (n+1) (dec (Ord.ins keyV r rs))∧w.grownBy w' (some b):=by
 have h:=hown.update lawV (t:=91) (e:=54) Tryz.underlying91 hn (keyOf_string_mk Tryz.underlying9 hs) (val:=.agg #[.string r.b,.int .i64 r.s,.slice r.a r.n r.c]) (d:=.held r) (ps:=[]) rfl
 have e:(dec rs).put (Lit.string r.b.data.toList) (.held r)=dec (Ord.ins keyV r rs):=Ord.dec_put keyV r rs
 rw [e] at h
 exact h
theorem boxV {wr w':World} {r:PlRaw} (hb:Below (wr.alloc (.cells #[.string r.b,.int .i64 r.s,.slice r.a r.n r.c] 54)).heap.size (wr.alloc (.cells #[.string r.b,.int .i64 r.s,.slice r.a r.n r.c] 54)) w'):w'.cell? ⟨wr.heap.size,0,none⟩=some (.string r.b)∧w'.cell? ⟨wr.heap.size,1,none⟩=some (.int .i64 r.s)∧w'.cell? ⟨wr.heap.size,2,none⟩=some (.slice r.a r.n r.c):=by
 have hk:=box_keep hb
 exact ⟨by rw [hk 0]; simp [go_sem],by rw [hk 1]; simp [go_sem],by rw [hk 2]; simp [go_sem]⟩
theorem boxV_grown {wr w' w2:World} {r:PlRaw} {B:Nat} (h:w'.cell? ⟨wr.heap.size,0,none⟩=some (.string r.b)∧w'.cell? ⟨wr.heap.size,1,none⟩=some (.int .i64 r.s)∧w'.cell? ⟨wr.heap.size,2,none⟩=some (.slice r.a r.n r.c)) (hg:w'.grownBy w2 (some B)) (hne:wr.heap.size≠B):w2.cell? ⟨wr.heap.size,0,none⟩=some (.string r.b)∧w2.cell? ⟨wr.heap.size,1,none⟩=some (.int .i64 r.s)∧w2.cell? ⟨wr.heap.size,2,none⟩=some (.slice r.a r.n r.c) :=
 ⟨hg.cell h.1 (by simpa using hne),hg.cell h.2.1 (by simpa using hne),hg.cell h.2.2 (by simpa using hne)⟩
theorem make_mapV (n:Nat) (w:World):Sem.run Tryz.prog (Instr.makeMap 91 (some (.int .i64 (n:Int)))) w=.ok (.map (some w.heap.size)) (w.alloc (.map #[] 0)):=by
 kernel_rfl
set_option maxRecDepth 4000 in
set_option maxHeartbeats 2000000 in
theorem byNameV (b off cap:Nat) (rs:List PlRaw) (w:World) (hR:RowsAt w b off rs) (l1:b < w.heap.size) (hfit:∀ r∈rs,r.b.size≤maxLen) (hl:rs.length≤1048576) (hs:Srt rs) :
  Calls Tryz.prog 73 #[.slice (some ⟨b,off,none⟩) rs.length cap,.func (.func 62) #[] #[]] w fun e w'=>e=.returned (.map (some w.heap.size))∧w'.ownsMap Tryz.prog 9 RV w.heap.size rs.length (dec rs)∧Below w.heap.size w w':=by
 have hmm:=make_mapV rs.length
 have HS:=hidP hs
 clear hs
 go_enter Tryz.func73,Tryz.ntmps73
 go_wp2
 clear hmm
 go_loopw [13] (fun i wx=>∃ (k:Nat),k≤rs.length∧i=.int .i64 k∧Hid (wx.ownsMap Tryz.prog 9 RV w.heap.size k (dec (rs.take k)))∧Below w.heap.size w wx) (fun i _=>rs.length - (intOf i).toNat)
 case atStart=>exact ⟨0,Nat.zero_le _,rfl,World.ownsMap_made _ _ _ _,bl_alloc bR _⟩
 case round =>
  obtain ⟨k,hk,rfl,Ho,hB⟩:=hrel
  by_cases hlt:k < rs.length
  ·
   obtain ⟨r,hr⟩:∃ r,rs[k]?=some r:=⟨rs[k],List.getElem?_eq_getElem hlt⟩
   have Hr:=hidP hr
   have hf1:=hfit r (List.mem_of_getElem? hr)
   obtain ⟨c0,c1,c2⟩:=(hR.keep l1 hB).at hr
   clear hr
   have hne:wr.heap.size≠w.heap.size:=by have:=Ho.out.lt; omega
   go_wp2_with fail
   go_region_held3 (fun w'=>w'.cell? ⟨wr.heap.size,0,none⟩=some (.string r.b)∧w'.cell? ⟨wr.heap.size,1,none⟩=some (.int .i64 r.s)∧w'.cell? ⟨wr.heap.size,2,none⟩=some (.slice r.a r.n r.c))
    (first | exact boxV bD | exact boxV (bl_trans bD hx) | exact boxV_grown (boxV (bl_trans bD hx)) hg2 hne)
    (first | (go_at_call 62; refine (name_any r _).mono ?_; rintro e w' ⟨rfl,hx⟩) | (have hms:=mapv_step w.heap.size k (rs.take k) r (mapv_below (mapv_below Ho.out (bl_drew (bl_alloc bR _))) hx) (by unfold maxLen; omega) hf1; obtain ⟨w2,hrun,ho2,hg2⟩:=hms; go_simp))
   have y1:=bl_trans (bl_trans hB (bl_alloc (Below.refl _ wr) _)) (bl_trans bD hx)
   have Y2:Hid (Below w.heap.size w w2):=Below.grown y1 hg2 y1.size (fun j hj=>by cases hj; exact Nat.le_refl _)
   have O2:Hid (w2.ownsMap Tryz.prog 9 RV w.heap.size (k+1) (dec (rs.take (k+1)))):=by
    show World.ownsMap _ _ _ _ _ _ _
    rw [← Ord.take_last keyV HS.out Hr.out]; exact ho2
   clear y1 hx hg2 ho2 hrun
   go_wp2
   exact ⟨⟨k+1,by omega,by go_num,O2.out,Y2.out⟩,by simp [intOf]; omega⟩
  go_wp2
  go_ret
  have e:k=rs.length:=by omega
  subst e
  rw [List.take_of_length_le (Nat.le_refl _)] at Ho
  exact ⟨rfl,Ho.out,hB⟩
theorem zeroV (w:World):(zeroValue 54).run Tryz.prog w=.ok (.agg #[.string ⟨#[]⟩,.int .i64 0,.slice none 0 0]) w:=by kernel_rfl
theorem look1V {w:World} (b n:Nat) (rs:List PlRaw) (hown:w.ownsMap Tryz.prog 9 RV b n (dec rs)) (hs:Srt rs) (s:ByteArray) (hz:s.size≤maxLen) :
  (∃ r∈rs,r.b=s∧Sem.run Tryz.prog (Instr.lookup 91 (.map (some b)) (.string s) false) w=.ok (.agg #[.string r.b,.int .i64 r.s,.slice r.a r.n r.c]) w)∨((∀ r∈rs,r.b≠s)∧Sem.run Tryz.prog (Instr.lookup 91 (.map (some b)) (.string s) false) w=.ok (.agg #[.string ⟨#[]⟩,.int .i64 0,.slice none 0 0]) w):=by
 obtain ⟨v,ps,hrun,hv⟩:=hown.lookup lawV (t:=91) (e:=54) Tryz.underlying91 (zeroV w) (zd:=.held ⟨⟨#[]⟩,0,none,0,0⟩) (zp:=[]) rfl (keyOf_string_mk Tryz.underlying9 hz)
 cases ha:rs.any (fun y=>keyV y == s.data.toList)
 ·
  right
  refine ⟨fun r hr e=>?_, ?_⟩
  ·
   have:=List.any_eq_false.1 ha r hr
   rw [← e] at this
   simp [keyV] at this
  rw [show (dec rs).atKey (Lit.string s.data.toList) (.held ⟨⟨#[]⟩,0,none,0,0⟩)=.held ⟨⟨#[]⟩,0,none,0,0⟩ from Ord.dec_none keyV ha _] at hv
  rw [RV_inv hv] at hrun
  exact hrun
 ·
  left
  obtain ⟨r,hr,he⟩:=List.any_eq_true.1 ha
  have e1:r.b.data.toList=s.data.toList:=by simpa [keyV] using he
  have e2:r.b=s:=Ord.ba_ext e1
  refine ⟨r,hr,e2, ?_⟩
  rw [show Lit.string s.data.toList=Lit.string (keyV r) from by rw [← e1]; rfl,show (dec rs).atKey (Lit.string (keyV r)) (.held ⟨⟨#[]⟩,0,none,0,0⟩)=.held r from Ord.dec_at keyV hs hr _] at hv
  rw [RV_inv hv] at hrun
  exact hrun
end Go.Proofs.YtcjhlhijdacinaaGreatDoor.Pr
namespace Go.Proofs.YtcjhlhijdacinaaGreatDoor.Pr
open Go.RowKit
set_option linter.unusedVariables false
def flatR (rs:List PlRaw):List Value:=rs.flatMap PlRaw.cells
theorem flatR_len:∀ rs:List PlRaw,(flatR rs).length=rs.length * 3
 | []=>rfl
 | r :: rs=>by
  have:=flatR_len rs
  simp only [flatR,List.flatMap_cons,List.length_append] at this ⊢
  simp only [this,List.length_cons]
  show 3+rs.length * 3=_
  omega
theorem flatR_snoc (rs:List PlRaw) (r:PlRaw):flatR (rs++[r])=flatR rs++r.cells:=by simp [flatR]
theorem flatR_at:∀ (rs:List PlRaw) (k:Nat) (r:PlRaw),rs[k]?=some r→∀ j,j < 3→(flatR rs)[k * 3+j]?=r.cells[j]?
 | [],k,r,h,j,hj=>by simp at h
 | q :: rs,0,r,h,j,hj=>by
  simp at h; subst h
  rw [flatR,List.flatMap_cons,List.getElem?_append_left (by show _ < 3; omega)]
  simp
 | q :: rs,k+1,r,h,j,hj=>by
  have ih:=flatR_at rs k r (by simpa using h) j hj
  rw [flatR,List.flatMap_cons,List.getElem?_append_right (by show 3≤_; omega)]
  rw [← ih]
  show (flatR rs)[(k+1) * 3+j - 3]?=_
  rw [show (k+1) * 3+j - 3=k * 3+j from by omega]
theorem flatR_one (rs:List PlRaw):∀ u∈flatR rs,u.oneCell'=true:=by
 intro u hu
 obtain ⟨r,-,h⟩:=List.mem_flatMap.1 hu
 simp [PlRaw.cells] at h
 rcases h with rfl | rfl | rfl <;> rfl
theorem rows_of_owns {w:World} {base:Nat} {v:Value} {rs:List PlRaw} (h:w.ownsRow base 54 3 v rs.length (flatR rs)) :
  (v=.slice none 0 0∧rs=[])∨∃ g cap,v=.slice (some ⟨g,0,none⟩) rs.length cap∧base≤g∧g < w.heap.size∧RowsAt w g 0 rs∧w.there g 0 (rs.length * 3):=by
 obtain ⟨hl,⟨rfl,hn⟩ | ⟨g,cap,cur,rfl,hb,hg,hnc,hcm,hcs,htk⟩⟩:=h
 · exact Or.inl ⟨rfl,List.length_eq_zero_iff.1 hn⟩
 ·
  refine Or.inr ⟨g,cap,rfl,hb,(Array.getElem?_eq_some_iff.1 hg).1, ?_, ?_⟩
  ·
   intro k r hk j u hj
   have hjn:j < 3:=by
    rcases Nat.lt_or_ge j 3 with h' | h'
    · exact h'
    rw [List.getElem?_eq_none (by simpa [PlRaw.cells] using h')] at hj; cases hj
   have hf:=flatR_at rs k r hk j hjn
   rw [hj,← htk,List.getElem?_take] at hf
   split at hf
   ·
    rw [cell_of_row w g _ cur _ (0,0) hg,Nat.zero_add]
    simpa using hf
   cases hf
  intro j hj
  have hlt:j < cur.size:=by
   have:rs.length * 3≤cap * 3:=Nat.mul_le_mul_right 3 hnc
   omega
  refine ⟨?_, ?_⟩
  ·
   rw [cell_of_row w g _ cur _ (0,0) hg,Nat.zero_add]
   simp [Array.getElem?_eq_getElem hlt]
  simp [World.frozen?,hg]
theorem owns_below {x y:World} {base:Nat} {e:TypeId} {size:Nat} {v:Value} {n:Nat} {xs:List Value} (h:x.ownsRow base e size v n xs) (hb:Below x.heap.size x y):y.ownsRow base e size v n xs :=
 h.kept (row:=none) ⟨hb.os,hb.tape,hb.output,hb.size,fun k hk _=>hb.block k hk⟩ (by cases hv:v.ownBlock <;> simp)
theorem owns_ge {x:World} {base:Nat} {e:TypeId} {size:Nat} {v:Value} {n:Nat} {xs:List Value} (h:x.ownsRow base e size v n xs):∀ k,v.ownBlock=some k→base≤k:=fun k hk=>(h.lt k hk).1
theorem new_cells (x:World) (N:Nat) (hN:N=x.heap.size) (arr:Array Value) (t:TypeId) (vs:List Value) (hv:arr.toList=vs):∀ j u,vs[j]?=some u→(x.alloc (.cells arr t)).cell? ((⟨N,0,none⟩:Addr).add j)=some u:=by
 intro j u hj
 subst hN hv
 rw [Addr.add_mid,Nat.zero_add,World.cell?_alloc_new]
 simpa using hj
theorem cellsR_one (r:PlRaw):∀ u∈r.cells,u.oneCell'=true:=fun u hu=>flatR_one [r] u (by simpa [flatR] using hu)
theorem infoR:(Tryz.prog.info? 54).map (fun i=>(i.zero,i.size,i.bytes))=some (some (.agg #[.string ⟨#[]⟩,.int .i64 0,.slice none 0 0]),3,48):=by kernel_rfl
end Go.Proofs.YtcjhlhijdacinaaGreatDoor.Pr
namespace Go.Proofs.YtcjhlhijdacinaaGreatDoor.Pr
open Go.RowKit
set_option linter.unusedVariables false
def Sl (w:World) (v:Value) (l:List PlRaw) (B:Nat):Prop:=(v=.slice none 0 0∧l=[])∨∃ g cap,v=.slice (some ⟨g,0,none⟩) l.length cap∧B≤g∧g < w.heap.size∧RowsAt w g 0 l∧w.there g 0 (l.length * 3)
theorem Sl.of_owns {w:World} {v:Value} {l:List PlRaw} {B:Nat} (h:w.ownsRow B 54 3 v l.length (flatR l)):Sl w v l B:=rows_of_owns h
theorem Sl.grown {w w':World} {v:Value} {l:List PlRaw} {B:Nat} {row:Option Nat} (h:Sl w v l B) (hg:w.grownBy w' row) (hne:v.ownBlock=none∨v.ownBlock≠row):Sl w' v l B:=by
 rcases h with h | ⟨g,cap,rfl,h1,h2,h3,h4⟩
 · exact Or.inl h
 have hn:some g≠row:=by simpa [Value.ownBlock] using hne
 have hc:∀ o,w'.cell? ⟨g,o,none⟩=w.cell? ⟨g,o,none⟩:=fun o=>World.cell?_of_block (w:=w) (a:=⟨g,o,none⟩) (hg.block g h2 hn)
 have hfz:∀ o,w'.frozen? ⟨g,o,none⟩=w.frozen? ⟨g,o,none⟩:=fun o=>World.frozen?_of_block (w:=w) (a:=⟨g,o,none⟩) (hg.block g h2 hn)
 exact Or.inr ⟨g,cap,rfl,h1,Nat.lt_of_lt_of_le h2 hg.size,fun k r hk j v hj=>(hc _).trans (h3 k r hk j v hj),fun j hj=>⟨by rw [hc]; exact (h4 j hj).1,by rw [hfz]; exact (h4 j hj).2⟩⟩
theorem Sl.keep {w w':World} {v:Value} {l:List PlRaw} {B:Nat} (h:Sl w v l B) (hb:Below w.heap.size w w'):Sl w' v l B :=
 h.grown (row:=none) ⟨hb.os,hb.tape,hb.output,hb.size,fun k hk _=>hb.block k hk⟩ (by cases hv:v.ownBlock <;> simp)
theorem Sl.lt {w:World} {v:Value} {l:List PlRaw} {B:Nat} (h:Sl w v l B):∀ g,v.ownBlock=some g→B≤g∧g < w.heap.size:=by
 rcases h with ⟨rfl,-⟩ | ⟨g,cap,rfl,h1,h2,-⟩
 · intro g hg; simp [Value.ownBlock] at hg
 intro g' hg; simp [Value.ownBlock] at hg; subst hg; exact ⟨h1,h2⟩
theorem Sl.shape {w:World} {v:Value} {l:List PlRaw} {B:Nat} (h:Sl w v l B):∃ a c,v=.slice a l.length c:=by
 rcases h with ⟨rfl,rfl⟩ | ⟨g,cap,rfl,-⟩
 · exact ⟨none,0,rfl⟩
 exact ⟨_,_,rfl⟩
end Go.Proofs.YtcjhlhijdacinaaGreatDoor.Pr
