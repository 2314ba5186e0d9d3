import Derived.Test.YtlfnpjcjapljpaaGreatDoorJ01
import Derived.Sort.KeysCollected
import Derived.Test.YtlfnpjcjapljpaaGreatDoorShelf
import Derived.Lib.SmallJoins
import Derived.Lib.AppendIntMem
namespace Go.Proofs.YtlfnpjcjapljpaaGreatDoor
open Go.Proofs.Tryz Go.RowKit
set_option linter.unusedVariables false
theorem i7(c:UInt8)(t:ByteArray):(({data:=#[c]}:ByteArray)++t).size=1+t.size:=by rw[ByteArray.size_append'];rfl
theorem nt(n:Int)(w:World):Sem.run prog (Instr.buildSlice 22 1 #[(0,.int .u8 n)]) w=.ok (.slice (some ⟨w.heap.size,0,none⟩) 1 1) (w.alloc (.cells #[.int .u8 n] 5)):=by kernel_rfl
theorem pC(n:Int)(w:World):Sem.run prog (convert 22 9 (.slice (some ⟨w.heap.size,0,none⟩) 1 1)) (w.alloc (.cells #[.int .u8 n] 5))=.ok (.string ⟨#[UInt8.ofNat n.toNat]⟩) (w.alloc (.cells #[.int .u8 n] 5)):=by rw[run_convert_bytes_string _ _ _ 5 _ _ _ underlying22 underlying5 underlying9];rw[run_bytesToString _ _ _ _ [n] (by simp[loadCells,go_sem])];rfl
theorem jX(c h:ByteArray)(v p s d g a b i u:Int)(w:World):
  Calls prog 11 #[.agg (aL c v h p s d g a b i u)] w fun e w'=>e=.returned (.bool (bq a))/\Below w.heap.size w w':=by
 go_enter func11,ntmps11
 go_wp2_with (go_at_call 50;refine mr (aV a _) ?_)
 go_ret
 exact⟨rfl,ae bR _⟩
def gU(v:Value):Prop:=∀a n c,v=.slice a n c->n<=c
theorem iy{w:World}{B size n:Nat}{e:TypeId}{v:Value}{xs:List Value}(h:w.ownsRow B e size v n xs):gU v:=by
 intro a k c hv;obtain⟨-,⟨rfl,-⟩|⟨g,cap,cur,rfl,-,-,hc,-⟩⟩:=h;·cases hv;exact Nat.le_refl _
 cases hv;exact hc
end Go.Proofs.YtlfnpjcjapljpaaGreatDoor
namespace Go.Proofs.YtlfnpjcjapljpaaGreatDoor.Ord
open Go.Maps Go.WideMaps
set_option linter.unusedVariables false
set_option linter.unusedSectionVars false
theorem nj{x y:ByteArray}(h:x.data.toList=y.data.toList):x=y:=by obtain⟨⟨a⟩⟩:=x;obtain⟨⟨b⟩⟩:=y;simp at h;rw[h]
theorem dD:∀(x y:List UInt8),Op.bytesLess x y=bytesBefore x y
 |[],[]=>rfl
 |[],_::_=>rfl
 |_::_,[]=>rfl
 |a::x,b::y=>by rw[Op.bytesLess,bytesBefore,dD x y]
theorem nW:∀(x y:List UInt8),Op.bytesLess x y=decide (x<y)
 |[],[]=>by simp[Op.bytesLess]
 |_::_,[]=>by simp[Op.bytesLess]
 |[],_::_=>by simp[Op.bytesLess]
 |a::x,b::y=>by rw[Op.bytesLess,nW x y];simp only[List.cons_lt_cons_iff];by_cases h1:a<b<;>by_cases h2:a=b<;>by_cases h3:x<y<;>simp[h1,h2,h3]
theorem jh{x y:List UInt8}(h:bytesBefore x y=true):bytesBefore y x=false:=by
 cases h':bytesBefore y x;·rfl
 have:=WideShapes.bytes_trans x y x h h';rw[WideAt.bytes_irrefl]at this;cases this
theorem dM{x y:List UInt8}(h:bytesBefore x y=true):x≠y:=fun e=>by subst e;rw[WideAt.bytes_irrefl]at h;cases h
section
variable {α:Type} (key:α->List UInt8)
def dx(l:List α):Prop:=l.Pairwise (fun q r=>bytesBefore (key q) (key r)=true)
def dec(l:List α):DataW α:=.map (l.map fun r=>(Lit.string (key r),.held r))
def nO(r:α):List α->List α
 |[]=>[r]
 |y::l=>if bytesBefore (key r) (key y)then r::y::l else y::nO r l
def ins(r:α)(l:List α):List α:=nO key r (l.filter (fun y=>!(key y==key r)))
def out(k:List UInt8)(l:List α):List α:=l.filter (fun y=>!(key y==k))
theorem nX(r:α):∀l:List α,DataW.insert (Lit.string (key r),.held r) (l.map fun r=>(Lit.string (key r),DataW.held r))=(nO key r l).map fun r=>(Lit.string (key r),.held r)
 |[]=>rfl
 |y::l=>by
  show(if bytesBefore (key r) (key y)then _ else _)=_;rw[nO];split
  ·rfl
  rw[List.map_cons];congr 1;exact nX r l
theorem nY(k:List UInt8)(l:List α):(l.map fun r=>(Lit.string (key r),(DataW.held r:DataW α))).filter (fun p=>!p.1.sameKey (Lit.string k))=(out key k l).map fun r=>(Lit.string (key r),.held r):=by unfold out;rw[List.filter_map];rfl
theorem sa(r:α)(l:List α):(dec key l).put (Lit.string (key r)) (.held r)=dec key (ins key r l):=by show DataW.map (DataW.insert _ _)=_;rw[nY,nX];rfl
theorem qz(k:List UInt8)(l:List α):(dec key l).del (Lit.string k)=dec key (out key k l):=by show DataW.map _=_;rw[nY];rfl
theorem mW(k:List UInt8)(l:List α):has (dec key l) (Lit.string k)=l.any (fun y=>key y==k):=by show(l.map _).any _=_;rw[List.any_map];rfl
theorem fe(l:List α):size (dec key l)=l.length:=by show(l.map _).length=_;simp
theorem mg{l:List α}{r:α}(hs:dx key l)(hr:r∈l)(z:DataW α):(dec key l).atKey (Lit.string (key r)) z=.held r:=by refine WideAt.atKey_mem z trivial ?_ (List.mem_map.2 ⟨r,hr,rfl⟩);rw[List.pairwise_map];exact hs.imp (fun h e=>dM h (Lit.string.inj e))
theorem nU{l:List α}{k:List UInt8}(h:l.any (fun y=>key y==k)=false)(z:DataW α):(dec key l).atKey (Lit.string k) z=z:=
 atKey_of_not_has (by rw[mW];exact h) z
theorem Au{l:List α}{r:α}(h:∀y∈l,bytesBefore (key y) (key r)=true):ins key r l=l++[r]:=by
 have e:l.filter (fun y=>!(key y==key r))=l:=List.filter_eq_self.2 (fun y hy=>by simp[dM (h y hy)]);unfold ins;rw[e];clear e;induction l with
 |nil=>rfl
 |cons y l ih=>rw[nO,if_neg (by rw[jh (h y (List.mem_cons_self ..))];simp),ih (fun z hz=>h z (List.mem_cons_of_mem _ hz)),List.cons_append]
theorem lx(l:List α):strKeys (dec key l)=l.map key:=by show(l.map _).map _=_;rw[List.map_map];rfl
theorem xQ{x y:List UInt8}(h:bytesBefore x y=true):x<=y:=by
 have h1:Op.bytesLess x y=true:=by rw[dD];exact h
 rw[nW]at h1;exact List.le_of_lt (of_decide_eq_true h1)
theorem jC{l:List α}(hs:dx key l){ss:List (List UInt8)}(hp:ss.Perm (strKeys (dec key l))):ss.mergeSort (fun x y=>decide (x<=y))=l.map key:=by
 have h1:ss.mergeSort leB=(l.map key).mergeSort leB:=by rw[<-lx key l];exact mergeSort_of_perm hp
 rw[show ss.mergeSort (fun x y=>decide (x<=y))=ss.mergeSort leB from rfl,h1];refine List.mergeSort_of_pairwise ?_;rw[List.pairwise_map];exact hs.imp (fun h=>by simpa[leB]using xQ h)
theorem mj{l:List α}{k:Nat}{r:α}(hs:dx key l)(hr:l[k]?=some r):ins key r (l.take k)=l.take (k+1):=by
 have hlt:k<l.length:=(List.getElem?_eq_some_iff.1 hr).1;have he:l[k]=r:=by rw[List.getElem?_eq_getElem hlt]at hr;exact Option.some.inj hr
 rw[List.take_succ_eq_append_getElem hlt,he];refine Au key (fun y hy=>?_);obtain⟨i,hi⟩:=List.getElem?_of_mem hy;rw[List.getElem?_take]at hi;split at hi
 ·
  rename_i hik;obtain⟨hil,rfl⟩:=List.getElem?_eq_some_iff.1 hi;have:=List.pairwise_iff_getElem.1 hs i k hil hlt hik;rw[he]at this;exact this
 cases hi
theorem vq(l:List α)(h:∀j q r,l[j]?=some q->l[j+1]?=some r->bytesBefore (key q) (key r)=true):dx key l:=by
 induction l with
 |nil=>exact List.Pairwise.nil
 |cons x l ih=>
  have ih':=ih (fun j q r hq hr=>h (j+1) q r (by simpa using hq) (by simpa using hr));refine List.Pairwise.cons ?_ ih';cases l with
  |nil=>intro y hy;cases hy
  |cons y l=>
   have hxy:=h 0 x y rfl rfl;intro z hz;rcases List.mem_cons.1 hz with rfl|hz;·exact hxy
   exact WideShapes.bytes_trans _ _ _ hxy (List.rel_of_pairwise_cons ih' hz)
end
end Go.Proofs.YtlfnpjcjapljpaaGreatDoor.Ord
namespace Go.Proofs.YtlfnpjcjapljpaaGreatDoor.A
open Go.Maps Go.Proofs.Tryz Go.RowKit Go.WideMaps
set_option maxRecDepth 4000
set_option maxHeartbeats 2000000
set_option linter.unusedVariables false
theorem kV:Keyed prog 9:=string_keyed underlying9
def EN(xs:List Value):Option (DataW aC×List MemPlace):=
 match xs with
 |[.string h',.string c',.int .i64 f',.int .i64 t']=>some (.held ⟨h',c',f',t'⟩,[])
 |_=>none
def RV(v:Value):Option (DataW aC×List MemPlace):=
 match v with
 |.agg xs=>EN xs.toList
 |_=>none
theorem gI{v:Value}{r:aC}{ps:List MemPlace}(h:RV v=some (.held r,ps)):v=.agg #[.string r.h,.string r.c,.int .i64 r.f,.int .i64 r.t]:=by
 unfold RV at h;split at h
 ·
  rename_i xs;obtain⟨l⟩:=xs;simp only at h;unfold EN at h;split at h
  ·
   simp only[Option.some.injEq,Prod.mk.injEq,DataW.held.injEq]at h;obtain⟨rfl,-⟩:=h;rfl
  cases h
 cases h
def aM(r:aC):List UInt8:=r.h.data.toList
def dec(rs:List aC):DataW aC:=Ord.dec aM rs
def dx(rs:List aC):Prop:=Ord.dx aM rs
theorem fT{rs:List aC}(h:fh rs rs.length):dx rs:=
 Ord.vq aM rs (fun j q r hq hr=>by have h1:=h j q r (by have:=(List.getElem?_eq_some_iff.1 hr).1;omega) hq hr;rw[Ord.dD,ByteArray.toList_eq,ByteArray.toList_eq]at h1;exact h1)
theorem aS{x y:World}{b n:Nat}{D:DataW aC}(h:x.ownsMap prog 9 RV b n D)(hb:Below x.heap.size x y):y.ownsMap prog 9 RV b n D:=
 h.kept (row:=none) ⟨hb.os,hb.tape,hb.output,hb.size,fun k hk _=>hb.block k hk⟩ (by simp)
theorem eD{w:World}(b n:Nat)(rs:List aC)(r:aC)(hown:w.ownsMap prog 9 RV b n (dec rs))(hn:n<maxLen)(hs:r.h.size<=maxLen):
  ∃w',Sem.run prog (Instr.mapUpdate 108 (.map (some b)) (.string r.h) (.agg #[.string r.h,.string r.c,.int .i64 r.f,.int .i64 r.t])) w=.ok () w'/\w'.ownsMap prog 9 RV b (n+1) (dec (Ord.ins aM r rs))/\w.grownBy w' (some b):=by
 have h:=hown.update kV (t:=108) (e:=64) underlying108 hn (keyOf_string_mk underlying9 hs) (val:=.agg #[.string r.h,.string r.c,.int .i64 r.f,.int .i64 r.t]) (d:=.held r) (ps:=[]) rfl;have e:(dec rs).put (Lit.string r.h.data.toList) (.held r)=dec (Ord.ins aM r rs):=Ord.sa aM r rs;rw[e]at h;exact h
theorem nS{wr w':World}{r:aC}(hb:Below (wr.alloc (.cells #[.string r.h,.string r.c,.int .i64 r.f,.int .i64 r.t] 64)).heap.size (wr.alloc (.cells #[.string r.h,.string r.c,.int .i64 r.f,.int .i64 r.t] 64)) w'):w'.cell? ⟨wr.heap.size,0,none⟩=some (.string r.h)/\w'.cell? ⟨wr.heap.size,1,none⟩=some (.string r.c)/\w'.cell? ⟨wr.heap.size,2,none⟩=some (.int .i64 r.f)/\w'.cell? ⟨wr.heap.size,3,none⟩=some (.int .i64 r.t):=by have hk:=aJ hb;exact⟨by rw[hk 0];simp[go_sem],by rw[hk 1];simp[go_sem],by rw[hk 2];simp[go_sem],by rw[hk 3];simp[go_sem]⟩
theorem gK{wr w' w2:World}{r:aC}{B:Nat}(h:w'.cell? ⟨wr.heap.size,0,none⟩=some (.string r.h)/\w'.cell? ⟨wr.heap.size,1,none⟩=some (.string r.c)/\w'.cell? ⟨wr.heap.size,2,none⟩=some (.int .i64 r.f)/\w'.cell? ⟨wr.heap.size,3,none⟩=some (.int .i64 r.t))(hg:w'.grownBy w2 (some B))(hne:wr.heap.size≠B):w2.cell? ⟨wr.heap.size,0,none⟩=some (.string r.h)/\w2.cell? ⟨wr.heap.size,1,none⟩=some (.string r.c)/\w2.cell? ⟨wr.heap.size,2,none⟩=some (.int .i64 r.f)/\w2.cell? ⟨wr.heap.size,3,none⟩=some (.int .i64 r.t):=
 ⟨hg.cell h.1 (by simpa using hne),hg.cell h.2.1 (by simpa using hne),hg.cell h.2.2.1 (by simpa using hne),hg.cell h.2.2.2 (by simpa using hne)⟩
theorem eQ(n:Nat)(w:World):Sem.run prog (Instr.makeMap 108 (some (.int .i64 (n:Int)))) w=.ok (.map (some w.heap.size)) (w.alloc (.map #[] 0)):=by kernel_rfl
theorem kW(b off cap:Nat)(rs:List aC)(w:World)(hR:aG w b off rs)(l1:b<w.heap.size)(hfit:∀r∈rs,r.h.size<=maxLen)(hl:rs.length<=1048576)(hs:dx rs):
  Calls prog 73 #[.slice (some ⟨b,off,none⟩) rs.length cap,.func (.func 74) #[] #[]] w fun e w'=>e=.returned (.map (some w.heap.size))/\w'.ownsMap prog 9 RV w.heap.size rs.length (dec rs)/\Below w.heap.size w w':=by
 have hmm:=eQ rs.length;have HS:=ah hs;clear hs;go_enter func73,ntmps73
 go_wp2
 clear hmm
 go_loopw [13] (fun i wx=>∃(k:Nat),k<=rs.length/\i=.int .i64 k/\Hid (wx.ownsMap prog 9 RV w.heap.size k (dec (rs.take k)))/\Below w.heap.size w wx) (fun i _=>rs.length-(intOf i).toNat)
 case atStart=>exact⟨0,Nat.zero_le _,rfl,World.ownsMap_made _ _ _ _,ae bR _⟩
 case round=>
  obtain⟨k,hk,rfl,Ho,hB⟩:=hrel;by_cases hlt:k<rs.length
  ·
   obtain⟨r,hr⟩:∃r,rs[k]?=some r:=⟨rs[k],List.getElem?_eq_getElem hlt⟩
   have Hr:=ah hr;have hf1:=hfit r (List.mem_of_getElem? hr);obtain⟨c0,c1,c2,c3⟩:=(hR.keep l1 hB).at hr;clear hr;have hne:wr.heap.size≠w.heap.size:=(by have:=Ho.out.lt;omega);go_wp2_with fail
   go_region_held3 (fun w'=>w'.cell? ⟨wr.heap.size,0,none⟩=some (.string r.h)/\w'.cell? ⟨wr.heap.size,1,none⟩=some (.string r.c)/\w'.cell? ⟨wr.heap.size,2,none⟩=some (.int .i64 r.f)/\w'.cell? ⟨wr.heap.size,3,none⟩=some (.int .i64 r.t))
    (first|exact nS bD|exact nS (af bD hx)|exact gK (nS (af bD hx)) hg2 hne)
    (first|(go_at_call 74;refine(cM r _).mono ?_;rintro e w' ⟨rfl,hx⟩)|(have hms:=eD w.heap.size k (rs.take k) r (aS (aS Ho.out (au (ae bR _))) hx) (by unfold maxLen;omega) hf1;obtain⟨w2,hrun,ho2,hg2⟩:=hms;go_simp))
   have y1:=af (af hB (ae (Below.refl _ wr) _)) (af bD hx);have Y2:Hid (Below w.heap.size w w2):=Below.grown y1 hg2 y1.size (fun j hj=>by cases hj;exact Nat.le_refl _);have O2:Hid (w2.ownsMap prog 9 RV w.heap.size (k+1) (dec (rs.take (k+1)))):=(by show World.ownsMap _ _ _ _ _ _ _;rw[<-Ord.mj aM HS.out Hr.out];exact ho2);clear y1 hx hg2 ho2 hrun;go_wp2
   exact⟨⟨k+1,by omega,by go_num,O2.out,Y2.out⟩,by simp[intOf];omega⟩
  go_wp2
  go_ret
  have e:k=rs.length:=by omega
  subst e;rw[List.take_of_length_le (Nat.le_refl _)]at Ho;exact⟨rfl,Ho.out,hB⟩
theorem zeroV(w:World):(zeroValue 64).run prog w=.ok (.agg #[.string ⟨#[]⟩,.string ⟨#[]⟩,.int .i64 0,.int .i64 0]) w:=by kernel_rfl
theorem mM{w:World}(b n:Nat)(rs:List aC)(hown:w.ownsMap prog 9 RV b n (dec rs))(hs:dx rs)(s:ByteArray)(hz:s.size<=maxLen):
  (∃r∈rs,r.h=s/\Sem.run prog (Instr.lookup 108 (.map (some b)) (.string s) true) w=.ok (.tuple #[.agg #[.string r.h,.string r.c,.int .i64 r.f,.int .i64 r.t],.bool true]) w)\/((∀r∈rs,r.h≠s)/\Sem.run prog (Instr.lookup 108 (.map (some b)) (.string s) true) w=.ok (.tuple #[.agg #[.string ⟨#[]⟩,.string ⟨#[]⟩,.int .i64 0,.int .i64 0],.bool false]) w):=by
 obtain⟨v,ps,hrun,hv⟩:=hown.look_ok kV (t:=108) (e:=64) underlying108 (zeroV w) (zd:=.held ⟨⟨#[]⟩,⟨#[]⟩,0,0⟩) (zp:=[]) rfl (keyOf_string_mk underlying9 hz);have hh:has (dec rs) (Lit.string s.data.toList)=rs.any (fun y=>aM y==s.data.toList):=Ord.mW aM _ rs;rw[hh]at hrun;cases ha:rs.any (fun y=>aM y==s.data.toList)
 ·
  right;refine⟨fun r hr e=>?_,?_⟩
  ·
   have:=List.any_eq_false.1 ha r hr;rw[<-e]at this;simp[aM]at this
  rw[show(dec rs).atKey (Lit.string s.data.toList) (.held ⟨⟨#[]⟩,⟨#[]⟩,0,0⟩)=.held ⟨⟨#[]⟩,⟨#[]⟩,0,0⟩ from Ord.nU aM ha _]at hv;rw[gI hv,ha]at hrun;exact hrun
 ·
  left;obtain⟨r,hr,he⟩:=List.any_eq_true.1 ha;have e1:r.h.data.toList=s.data.toList:=by simpa[aM]using he
  have e2:r.h=s:=Ord.nj e1;refine⟨r,hr,e2,?_⟩;rw[show Lit.string s.data.toList=Lit.string (aM r) from by rw[<-e1];rfl,show(dec rs).atKey (Lit.string (aM r)) (.held ⟨⟨#[]⟩,⟨#[]⟩,0,0⟩)=.held r from Ord.mg aM hs hr _]at hv;rw[gI hv,ha]at hrun;exact hrun
end Go.Proofs.YtlfnpjcjapljpaaGreatDoor.A
namespace Go.Proofs.YtlfnpjcjapljpaaGreatDoor
open Go.RowKit
set_option linter.unusedVariables false
structure bI where
 k:Int
 b:ByteArray
 s:Int
 ws:List W.ay
 h:ByteArray
 c:ByteArray
 t:Int
structure bI.fits(p:bI):Prop where
 b:p.b.size<=maxLen
 h:p.h.size<=maxLen
 c:p.c.size<=maxLen
 w:∀r∈p.ws,r.fits
 l:p.ws.length<=1048576
end Go.Proofs.YtlfnpjcjapljpaaGreatDoor
namespace Go.Proofs.YtlfnpjcjapljpaaGreatDoor.Pc
open Go.RowKit
set_option linter.unusedVariables false
structure bP where
 k:Int
 b:ByteArray
 s:Int
 a:Option Addr
 n:Nat
 c:Nat
 h:ByteArray
 p:ByteArray
 t:Int
def bP.cells(r:bP):List Value:=[.int .i64 r.k,.string r.b,.int .i64 r.s,.slice r.a r.n r.c,.string r.h,.string r.p,.int .i64 r.t]
def aG(w:World)(b off:Nat)(rs:List bP):Prop:=∀k r,rs[k]?=some r->w.rangeAt b (off+k*7) r.cells
theorem aG.keep{w w':World}{b off:Nat}{rs:List bP}(h:aG w b off rs)(hb:b<w.heap.size)(hB:Below w.heap.size w w'):aG w' b off rs:=
 fun k r hk j v hj=>(hB.cell (p:=⟨b,off+k*7+j,none⟩) hb).trans (h k r hk j v hj)
theorem aG.at{w:World}{b off:Nat}{rs:List bP}(h:aG w b off rs){k:Nat}{r:bP}(hk:rs[k]?=some r):
  ND w b (off+k*7) r.k r.b r.s (.slice r.a r.n r.c) r.h r.p r.t:=
 ⟨h k r hk 0 _ rfl,h k r hk 1 _ rfl,h k r hk 2 _ rfl,h k r hk 3 _ rfl,h k r hk 4 _ rfl,h k r hk 5 _ rfl,h k r hk 6 _ rfl⟩
end Go.Proofs.YtlfnpjcjapljpaaGreatDoor.Pc
namespace Go.Proofs.YtlfnpjcjapljpaaGreatDoor.Ord
open Go.Maps Go.WideMaps
set_option linter.unusedVariables false
section
variable {α:Type} (key:α->List UInt8)
def cJ(r:α):List α->List α
 |[]=>[r]
 |y::l=>if bytesBefore (key y) (key r)then y::cJ r l else if key y=key r then r::l else r::y::l
theorem nZ(r:α):∀l:List α,(∀y∈l,bytesBefore (key r) (key y)=true)->nO key r l=r::l
 |[],_=>rfl
 |y::l,h=>by rw[nO,if_pos (h y (List.mem_cons_self ..))]
theorem ly(r:α):∀l:List α,dx key l->ins key r l=cJ key r l
 |[],_=>rfl
 |y::l,hs=>by
  have hl:dx key l:=(List.pairwise_cons.1 hs).2;have hy:∀z∈l,bytesBefore (key y) (key z)=true:=(List.pairwise_cons.1 hs).1;have keep:∀{m:List α},(∀z∈m,bytesBefore (key r) (key z)=true)->m.filter (fun z=>!(key z==key r))=m:=fun {m} h=>List.filter_eq_self.2 (fun z hz=>by have:=dM (h z hz);simp only[Bool.not_eq_true',beq_eq_false_iff_ne];exact fun e=>this e.symm);rw[cJ];by_cases h1:bytesBefore (key y) (key r)=true
  ·
   rw[if_pos h1];unfold ins;rw[List.filter_cons,if_pos (by simp[dM h1]),nO,if_neg (by rw[jh h1];simp)];congr 1;exact ly r l hl
  rw[if_neg h1];by_cases h2:key y=key r
  ·
   rw[if_pos h2];have h3:∀z∈l,bytesBefore (key r) (key z)=true:=fun z hz=>by rw[<-h2];exact hy z hz
   unfold ins;rw[List.filter_cons,if_neg (by simp[h2]),keep h3,nZ key r l h3]
  rw[if_neg h2];have h4:bytesBefore (key r) (key y)=true:=by
   rcases WideAt.bytes_total _ _ h2 with h|h;·exact absurd h h1
   exact h
  have h3:∀z∈y::l,bytesBefore (key r) (key z)=true:=fun z hz=>by
   rcases List.mem_cons.1 hz with rfl|hz;·exact h4
   exact WideShapes.bytes_trans _ _ _ h4 (hy z hz)
  unfold ins;rw[keep h3,nZ key r _ h3]
theorem gL(r:α):∀(l:List α)(q:α),q∈cJ key r l->q=r\/q∈l
 |[],q,h=>by simp[cJ]at h;exact Or.inl h
 |y::l,q,h=>by
  rw[cJ]at h;split at h
  ·
   rcases List.mem_cons.1 h with rfl|h;·exact Or.inr (List.mem_cons_self ..)
   rcases gL r l q h with h|h;·exact Or.inl h
   exact Or.inr (List.mem_cons_of_mem _ h)
  split at h
  ·
   rcases List.mem_cons.1 h with rfl|h;·exact Or.inl rfl
   exact Or.inr (List.mem_cons_of_mem _ h)
  rcases List.mem_cons.1 h with rfl|h;·exact Or.inl rfl
  exact Or.inr h
theorem lA(r:α):∀l:List α,dx key l->dx key (cJ key r l)
 |[],_=>List.pairwise_singleton ..
 |y::l,hs=>by
  have hl:dx key l:=(List.pairwise_cons.1 hs).2;have hy:∀z∈l,bytesBefore (key y) (key z)=true:=(List.pairwise_cons.1 hs).1;rw[cJ];by_cases h1:bytesBefore (key y) (key r)=true
  ·
   rw[if_pos h1];refine List.pairwise_cons.2 ⟨fun z hz=>?_,lA r l hl⟩;rcases gL key r l z hz with rfl|h;·exact h1
   exact hy z h
  rw[if_neg h1];by_cases h2:key y=key r
  ·
   rw[if_pos h2];exact List.pairwise_cons.2 ⟨fun z hz=>by rw[<-h2];exact hy z hz,hl⟩
  rw[if_neg h2];have h4:bytesBefore (key r) (key y)=true:=by
   rcases WideAt.bytes_total _ _ h2 with h|h;·exact absurd h h1
   exact h
  refine List.pairwise_cons.2 ⟨fun z hz=>?_,hs⟩;rcases List.mem_cons.1 hz with rfl|hz;·exact h4
  exact WideShapes.bytes_trans _ _ _ h4 (hy z hz)
theorem lB(r:α):∀l:List α,(cJ key r l).length<=l.length+1
 |[]=>by simp[cJ]
 |y::l=>by
  have:=lB r l;rw[cJ];split
  ·simp;omega
  split<;>simp
theorem n0(r:α):∀(l:List α)(k:Nat),k<=l.length->(∀(j:Nat) y,j<k->l[j]?=some y->bytesBefore (key y) (key r)=true)->(∀y,l[k]?=some y->bytesBefore (key y) (key r)=false) ->
  cJ key r l=l.take k++r::(match l[k]? with|some y=>if key y=key r then l.drop (k+1)else l.drop k|none=>[])
 |[],k,hk,_,_=>by simp at hk;subst hk;rfl
 |y::l,0,_,_,h=>by have h1:=h y rfl;rw[cJ,if_neg (by rw[h1];simp)];simp only[List.take_zero,List.nil_append,List.getElem?_cons_zero,List.drop_zero,List.drop_succ_cons];split<;>rfl
 |y::l,k+1,hk,hlt,hge=>by have h1:=hlt 0 y (by omega) rfl;rw[cJ,if_pos h1];have ih:=n0 r l k (by simpa using hk) (fun j z hj hz=>hlt (j+1) z (by omega) (by simpa using hz)) (fun z hz=>hge z (by simpa using hz));rw[ih];simp
end
end Go.Proofs.YtlfnpjcjapljpaaGreatDoor.Ord
namespace Go.Proofs.YtlfnpjcjapljpaaGreatDoor
open Go.RowKit
section
variable {P:Program} {ops:Array Oper} {Q:Exit->Act->World->Prop} {md:Region.Mode}
def dG(listed:Array Bool):Nat:=listed.toList.countP (fun b=>!b)
theorem et{listed:Array Bool}{i:Nat}(h:listed.getD i true=false):dG (listed.setIfInBounds i true)+1=dG listed:=by
 obtain⟨l⟩:=listed;simp only[dG,List.setIfInBounds_toArray];have:l[i]?=some false:=by
  simp only[Array.getD]at h;split at h
  ·rename_i hlt;simp at h hlt;rw[List.getElem?_eq_getElem hlt,h]
  cases h
 clear h;induction l generalizing i with
 |nil=>simp at this
 |cons x l ih=>
  cases i with
  |zero=>simp at this;subst this;simp
  |succ i=>simp at this;have:=ih this;simp only[List.set_cons_succ,List.countP_cons];omega
theorem bQ{listed:Array Bool}{i:Nat}(h:i∈Region.ready md ops listed):listed.getD i true=false:=by simp only[Region.ready,List.mem_filter,Bool.and_eq_true,Bool.not_eq_true']at h;exact h.2.1
theorem vl{listed:Array Bool}{i:Nat}(h:listed.getD i true=false):0<dG listed:=by have:=et h;omega
theorem iB(I:Array Bool->Act->World->Prop)
  (step:∀listed a w i,I listed a w->i∈Region.ready md ops listed->wpOp P ops Q i (I (listed.setIfInBounds i true)) a w)
  (done:∀listed a w,I listed a w->Region.ready md ops listed=[]->Q .normal a w):
  ∀fuel listed a w,dG listed<=fuel->I listed a w->wpAny P md ops Q fuel listed a w:=by
 intro fuel;induction fuel with
 |zero=>
  intro listed a w hf hI;have hr:Region.ready md ops listed=[]:=by
   cases h:Region.ready md ops listed with
   |nil=>rfl
   |cons i rs=>have hi:i∈Region.ready md ops listed:=(by rw[h];exact List.mem_cons_self ..);have:=vl (bQ hi);omega
  exact⟨hr,done _ _ _ hI hr⟩
 |succ fuel ih=>intro listed a w hf hI;refine⟨done _ _ _ hI,fun i hi=>wpOp_mono (fun a' w' h=>ih _ a' w' ?_ h) (step _ _ _ i hI hi)⟩;have:=et (bQ hi);omega
def qQ(ops:Array Oper):Bool:=(List.range ops.size).all fun i=>match ops[i]? with|some o=>o.after.toList.all (fun e=>decide (e.on<i))|none=>true
theorem i6{listed:Array Bool}(hd:qQ ops=true)(hr:Region.ready md ops listed=[])(hz:listed.size=ops.size):∀i,i<ops.size->listed.getD i false=true:=by
 intro i;induction i using Nat.strongRecOn with
 |ind i ih=>
  intro hi;have hl:listed.getD i false=listed[i]'(by omega):=by simp[Array.getD,show i<listed.size from by omega]
  have hl':listed.getD i true=listed[i]'(by omega):=by simp[Array.getD,show i<listed.size from by omega]
  cases hb:listed[i]'(by omega)with
  |true=>rw[hl,hb]
  |false=>exfalso;have hmem:i∈Region.ready md ops listed:=(by simp only[Region.ready,List.mem_filter,List.mem_range,hi,true_and,hl',hb,Bool.not_false,Bool.true_and];have ho:ops[i]?=some ops[i]:=Array.getElem?_eq_getElem hi;rw[ho];simp only[Option.map_some,Option.getD_some];have h1:=List.all_eq_true.1 hd i (List.mem_range.2 hi);rw[ho]at h1;simp only at h1;rw[<-Array.all_toList];refine List.all_eq_true.2 fun e he=>?_;have h2:=of_decide_eq_true (List.all_eq_true.1 h1 e he);rw[ih e.on h2 (by omega)];simp);rw[hr]at hmem;cases hmem
theorem bL{listed:Array Bool}{i j:Nat}{o:Oper}(hi:i∈Region.ready md ops listed)(ho:ops[i]?=some o)(he:o.after.toList.any (fun e=>Region.binds md e&&e.on==j)=true):listed.getD j false=true:=by have h:=(List.mem_filter.1 hi).2;rw[ho]at h;simp only[Option.map_some,Option.getD_some,Bool.and_eq_true]at h;obtain⟨e,hm,hb⟩:=List.any_eq_true.1 he;simp only[Bool.and_eq_true,beq_iff_eq]at hb;have h2:=h.2;rw[<-Array.all_toList]at h2;have h3:=List.all_eq_true.1 h2 e hm;rw[hb.1,hb.2]at h3;simpa using h3
end
theorem aO{P:Program}{ops:Array Oper}{Q:Exit->Act->World->Prop}{i:Nat}{o:Oper}{K:Act->World->Prop}{a:Act}{w:World}(ho:ops[i]?=some o)(hg:o.guard=none)(h:o.wp P a w K Q):wpOp P ops Q i K a w:=by
 unfold wpOp;simp only[ho];have hw:Region.wanted o (yielded ops a.tmps)=true:=by simp[Region.wanted,hg]
 rw[if_pos hw];exact Or.inl h
theorem ak{a:Act}{k:Nat}{v:Value}(h:a.tmps.getD k undef=v):a.tmps[k]?.getD undef=v:=by rwa [Array.getD_eq_getD_getElem?]at h
set_option linter.unusedVariables false
def waits(md:Region.Mode)(ops:Array Oper)(i j:Nat):Bool:=match ops[i]? with
 |some o=>o.after.toList.any (fun e=>Region.binds md e&&e.on==j)
 |none=>false
theorem aY{md:Region.Mode}{ops:Array Oper}{listed:Array Bool}{i j:Nat}(hi:i∈Region.ready md ops listed)(hd:waits md ops i j=true):listed.getD j false=true:=by
 unfold waits at hd;split at hd
 ·rename_i o ho;exact bL hi ho hd
 cases hd
structure Ip(sl:Nat->Nat)(n:Nat)(a0:Act)(G:World->Nat->Value->Prop)(D:World->Prop)(listed:Array Bool)(a:Act)(w:World):Prop where
 df:a.defers=a0.defers
 sz:a.tmps.size=a0.tmps.size
 out:∀k,(∀i,i<n->sl i≠k)->a.tmps.getD k undef=a0.tmps.getD k undef
 lz:listed.size=n
 good:∀i,i<n->listed.getD i false=true->G w i (a.tmps.getD (sl i) undef)
 d:D w
section
variable {sl:Nat->Nat} {n:Nat} {md:Region.Mode} {ops:Array Oper} {a0:Act} {G:World->Nat->Value->Prop} {D:World->Prop} {listed:Array Bool} {a:Act} {w w':World} {i:Nat} {v:Value}
theorem Ip.put(h:Ip sl n a0 G D listed a w)(hi:i<n)(hlt:sl i<a0.tmps.size)(hinj:∀j,j<n->sl j=sl i->j=i)(hg:G w' i v)
  (hk:∀j u,j<n->G w j u->G w' j u) (hd:D w'):Ip sl n a0 G D (listed.setIfInBounds i true) (a.put (some (sl i)) v) w':=by
 have hsz:=h.sz;have hlz:=h.lz;refine⟨h.df,by simpa[Act.put]using hsz,?_,by simpa using hlz,?_,hd⟩
 ·
  intro k hko;rw[<-h.out k hko];simp only[Act.put,Array.getD_eq_getD_getElem?];rw[Array.getElem?_setIfInBounds_ne (hko i hi)]
 ·
  intro j hj hl;by_cases e:j=i
  ·
   subst e;simp only[Act.put,Array.getD_eq_getD_getElem?];rw[Array.getElem?_setIfInBounds_self_of_lt (by omega)];exact hg
  have hl':listed.getD j false=true:=by
   simp only[Array.getD_eq_getD_getElem?]at hl ⊢
   rwa [Array.getElem?_setIfInBounds_ne (fun x=>e x.symm)]at hl
  have h1:=hk j _ hj (h.good j hj hl');simp only[Act.put,Array.getD_eq_getD_getElem?]at h1 ⊢;rw[Array.getElem?_setIfInBounds_ne (fun e'=>e (hinj j hj e'.symm))];exact h1
end
theorem Ip.sm{sl:Nat->Nat}{n:Nat}{a0:Act}{G:World->Nat->Value->Prop}{D:World->Prop}{listed:Array Bool}{a:Act}{w:World}{i:Nat}{v:Value}{K:Act->World->Prop}(h:Ip sl n a0 G D listed a w)(hK:Hid (∀a w,Ip sl n a0 G D (listed.setIfInBounds i true) a w->K a w))(hi:i<n)(hlt:sl i<a0.tmps.size)(hinj:∀j,j<n->sl j=sl i->j=i)(hg:G w i v):K (a.put (some (sl i)) v) w:=hK.out _ _ (h.put hi hlt hinj hg (fun _ _ _ h=>h) h.d)
theorem jy{P:Program}{ops:Array Oper}{Q:Exit->Act->World->Prop}{a0:Act}{w0:World}(sl:Nat->Nat)(n:Nat)(G:World->Nat->Value->Prop)(D:World->Prop)
  (hd:qQ ops=true) (hops:ops.size=n) (hD:D w0)
  (done:∀a y,Ip sl n a0 G D (Array.replicate n true) a y->Q .normal a y)
  (step:∀listed x y i,Ip sl n a0 G D listed x y->i∈Region.ready .any ops listed->i<n->wpOp P ops Q i (Ip sl n a0 G D (listed.setIfInBounds i true)) x y):
  wpAny P .any ops Q ops.size (Array.replicate ops.size false) a0 w0:=by
 refine iB (Ip sl n a0 G D) (fun listed x y i hI hi=>step listed x y i hI hi (by have:=List.mem_range.1 (List.mem_filter.1 hi).1;omega)) ?_ _ _ _ _ ?_ ?_
 ·
  intro listed x y hI hr;have hall:=i6 hd hr (by rw[hI.lz,hops]);exact done x y ⟨hI.df,hI.sz,hI.out,by simp,fun i hi _=>hI.good i hi (hall i (by omega)),hI.d⟩
 ·
  unfold dG;exact Nat.le_trans List.countP_le_length (by simp)
 ·
  refine⟨rfl,rfl,fun _ _=>rfl,by simp[hops],?_,hD⟩;intro i _ h;simp only[Array.getD_eq_getD_getElem?,Array.getElem?_replicate]at h;split at h<;>cases h
theorem Ip.all{sl:Nat->Nat}{n:Nat}{a0:Act}{G:World->Nat->Value->Prop}{D:World->Prop}{a:Act}{w:World}(h:Ip sl n a0 G D (Array.replicate n true) a w)(i:Nat)(hi:i<n):G w i (a.tmps.getD (sl i) undef):=
 h.good i hi (by simp only[Array.getD_eq_getD_getElem?,Array.getElem?_replicate,if_pos hi,Option.getD_some])
theorem zZ{P:Program}{o:Oper}{a:Act}{w:World}{I:Act->World->Prop}{Q:Exit->Act->World->Prop}(h:∀K:Act->World->Prop,Hid (∀a w,I a w->K a w)->o.wp P a w K Q):o.wp P a w I Q:=h I (fun _ _ h=>h)
theorem xx{a a0:Act}{lo n:Nat}(df:a.defers=a0.defers)(sz:a.tmps.size=a0.tmps.size)(out:∀k,k<lo\/lo+n<=k->a.tmps.getD k undef=a0.tmps.getD k undef)(hn:lo+n<=a0.tmps.size):
  ∃l:List Value,l.length=n/\a=⟨(a0.tmps.toList.take lo++(l++a0.tmps.toList.drop (lo+n))).toArray,a0.defers⟩:=by
 obtain⟨⟨t⟩,d⟩:=a;obtain⟨⟨t0⟩,d0⟩:=a0;simp only at df;subst df;have sz:t.length=t0.length:=sz;have hn:lo+n<=t0.length:=hn;refine⟨(t.drop lo).take n,by simp;omega,?_⟩;have e:t=t0.take lo++((t.drop lo).take n++t0.drop (lo+n)):=by
  apply List.ext_getElem?;intro k;rcases Nat.lt_or_ge k lo with h1|h1
  ·
   have h2:=out k (Or.inl h1);rw[List.getElem?_append_left (by simp;omega),List.getElem?_take_of_lt h1];simp only[Array.getD_eq_getD_getElem?,List.getElem?_toArray]at h2;rw[List.getElem?_eq_getElem (by omega),List.getElem?_eq_getElem (by omega)]at h2 ⊢;simpa using h2
  rw[List.getElem?_append_right (by simp;omega)];have hl:(t0.take lo).length=lo:=by simp;omega
  rw[hl];rcases Nat.lt_or_ge k (lo+n)with h3|h3
  ·
   rw[List.getElem?_append_left (by simp;omega),List.getElem?_take_of_lt (by omega),List.getElem?_drop];congr 1;omega
  rw[List.getElem?_append_right (by simp;omega)];have hl2:((t.drop lo).take n).length=n:=by simp;omega
  rw[hl2,List.getElem?_drop];have e2:lo+n+(k-lo-n)=k:=by omega
  rw[e2];have h2:=out k (Or.inr h3);simp only[Array.getD_eq_getD_getElem?,List.getElem?_toArray]at h2;rcases Nat.lt_or_ge k t.length with h4|h4
  ·
   rw[List.getElem?_eq_getElem (by omega),List.getElem?_eq_getElem (by omega)]at h2 ⊢;simpa using h2
  rw[List.getElem?_eq_none h4,List.getElem?_eq_none (by omega)]
 show Act.mk ⟨t⟩ d=Act.mk ⟨_⟩ d;exact congrArg (fun l=>Act.mk ⟨l⟩ d) e
theorem bW{l:List Value}{k:Nat}(h:l.length=k+1):∃x t,l=x::t/\t.length=k:=by
 cases l with
 |nil=>cases h
 |cons x t=>exact⟨x,t,rfl,by simpa using h⟩
theorem mc{l:List Value}(h:l.length=0):l=[]:=List.eq_nil_of_length_eq_zero h
theorem kF{a a0:Act}{lo n se:Nat}(df:a.defers=a0.defers)(sz:a.tmps.size=a0.tmps.size)(hse:se<a0.tmps.size)(hn:lo+n<=a0.tmps.size)(out:∀k,k≠se->k<lo\/lo+n<=k->a.tmps.getD k undef=a0.tmps.getD k undef):
  ∃l:List Value,l.length=n/\a=⟨((a0.tmps.setIfInBounds se (a.tmps.getD se undef)).toList.take lo++(l++(a0.tmps.setIfInBounds se (a.tmps.getD se undef)).toList.drop (lo+n))).toArray,a0.defers⟩:=by
 refine xx (a:=a) (a0:=⟨a0.tmps.setIfInBounds se (a.tmps.getD se undef),a0.defers⟩) df (by simpa using sz) ?_ (by simpa using hn);intro k hk;by_cases e:k=se
 ·
  subst e;simp only[Array.getD_eq_getD_getElem?];rw[Array.getElem?_setIfInBounds_self_of_lt hse,Option.getD_some]
 ·
  rw[out k e hk];simp only[Array.getD_eq_getD_getElem?];rw[Array.getElem?_setIfInBounds_ne (fun e'=>e e'.symm)]
theorem wO{md:Region.Mode}{ops:Array Oper}{listed:Array Bool}{i j:Nat}(hi:i∈Region.ready md ops listed)(hd:waits md ops i j=true:=by rfl):listed.getD j false=true:=aY hi hd
theorem il{P:Program}{ops:Array Oper}{Q:Exit->Act->World->Prop}{i:Nat}{o:Oper}{I:Act->World->Prop}{a:Act}{w:World}(h:∀K:Act->World->Prop,Hid (∀a w,I a w->K a w)->o.wp P a w K Q)(ho:ops[i]?=some o:=by rfl)(hg:o.guard=none:=by rfl):wpOp P ops Q i I a w:=aO ho hg (zZ h)
theorem noT{b:Bool}(h:b=true->False):b=false:=by
 cases b with
 |false=>rfl
 |true=>exact(h rfl).elim
theorem mU{l:Array Bool}{i j:Nat}(h:j≠i):(l.setIfInBounds i true).getD j false=l.getD j false:=by simp only[Array.getD_eq_getD_getElem?];rw[Array.getElem?_setIfInBounds_ne (fun e=>h e.symm)]
theorem pR{l:Array Bool}{i:Nat}(h:i<l.size):(l.setIfInBounds i true).getD i false=true:=by simp only[Array.getD_eq_getD_getElem?];rw[Array.getElem?_setIfInBounds_self_of_lt h,Option.getD_some]
theorem Aa{l:Array Bool}{i:Nat}(ho:l.getD i true=false)(h:l.getD i false=true):False:=by
 simp only[Array.getD_eq_getD_getElem?]at ho h;cases e:l[i]? with
 |none=>rw[e]at ho;cases ho
 |some b=>rw[e]at ho h;simp at ho h;rw[h]at ho;cases ho
section
variable {sl:Nat->Nat} {n se:Nat} {ops:Array Oper} {a0:Act} {G:World->Nat->Value->Prop} {D:World->Prop} {E:Value->World->Prop} {listed:Array Bool} {a:Act} {w w':World} {i:Nat} {v:Value}
theorem Uc(hr:i∈Region.ready .any ops listed)(hi:i<listed.size)(h:∀i j,waits .any ops i j=true->listed.getD i false=true->listed.getD j false=true):
  ∀k j,waits .any ops k j=true->(listed.setIfInBounds i true).getD k false=true->(listed.setIfInBounds i true).getD j false=true:=by
 intro k j hw hk;by_cases ej:j=i;·subst ej;exact pR hi
 rw[mU ej];by_cases ek:k=i;·subst ek;exact aY hr hw
 ·rw[mU ek]at hk;exact h k j hw hk
end
def OJ(ops:Array Oper):List Nat->Bool
 |a::b::l=>waits .any ops a b&&OJ ops (b::l)
 |_=>true
theorem Ud{ops:Array Oper}{l:Array Bool}{i:Nat}(tr:∀i j,waits .any ops i j=true->l.getD i false=true->l.getD j false=true)(ho:l.getD i true=false):∀(c:List Nat)(k:Nat),OJ ops (k::c)=true->(k::c).getLast?=some i->l.getD k false=false
 |[],k,_,e=>by simp at e;subst e;exact noT (fun h=>Aa ho h)
 |b::c,k,hc,e=>by simp only[OJ,Bool.and_eq_true]at hc;have h1:=Ud tr ho c b hc.2 (by rw[<-e];rfl);exact noT (fun h=>by rw[tr k b hc.1 h]at h1;cases h1)
def qR(ops:Array Oper):Bool:=(List.range ops.size).all fun i=>match ops[i]? with|some o=>o.after.toList.all (fun e=>!Region.binds .any e||decide (e.on<i))|none=>true
theorem tu{ops:Array Oper}{listed:Array Bool}(hd:qR ops=true)(hr:Region.ready .any ops listed=[])(hz:listed.size=ops.size):∀i,i<ops.size->listed.getD i false=true:=by
 intro i;induction i using Nat.strongRecOn with
 |ind i ih=>
  intro hi;have hl:listed.getD i false=listed[i]'(by omega):=by simp[Array.getD,show i<listed.size from by omega]
  have hl':listed.getD i true=listed[i]'(by omega):=by simp[Array.getD,show i<listed.size from by omega]
  cases hb:listed[i]'(by omega)with
  |true=>rw[hl,hb]
  |false=>
   exfalso;have hmem:i∈Region.ready .any ops listed:=by
    simp only[Region.ready,List.mem_filter,List.mem_range,hi,true_and,hl',hb,Bool.not_false,Bool.true_and];have ho:ops[i]?=some ops[i]:=Array.getElem?_eq_getElem hi;rw[ho];simp only[Option.map_some,Option.getD_some];have h1:=List.all_eq_true.1 hd i (List.mem_range.2 hi);rw[ho]at h1;simp only at h1;rw[<-Array.all_toList];refine List.all_eq_true.2 fun e he=>?_;have h2:=List.all_eq_true.1 h1 e he;cases hbd:Region.binds .any e;·simp
    rw[hbd]at h2;have h3:=of_decide_eq_true (show decide (e.on<i)=true by simpa using h2);rw[ih e.on h3 (by omega)];simp
   rw[hr]at hmem;cases hmem
section
variable {sl:Nat->Nat} {n:Nat} {ops:Array Oper} {a0:Act} {G:Array Bool->World->Nat->Value->Prop} {D:Array Bool->World->Prop} {listed:Array Bool} {a:Act} {w w':World} {i:Nat} {v:Value}
end
def jU(L:List Nat)(i:Nat):Nat:=L.getD i 0
def Ab(ops:Array Oper)(L:List Nat)(sz:Nat):Bool:=
 decide (ops.size=L.length)&&qR ops&&decide (sz<=100000)&&(List.range L.length).all fun i=>match ops[i]? with
  |some o=>(match o.dst with|some d=>d==jU L i&&decide (d<sz)|none=>decide (100000<=jU L i))&&(List.range L.length).all (fun j=>j==i||!(jU L j==jU L i))
  |none=>false
def mH(L:List Nat)(k:Nat):Bool:=L.all fun s=>!(s==k)
def vals(L:List Nat)(a:Act)(i:Nat):Value:=a.tmps.getD (jU L i) undef
def vr(ops:Array Oper)(V:Nat->Value)(j k:Nat):Value:=bif k==j||waits .any ops j k then V k else undef
def sset(S:Nat->Bool)(i k:Nat):Bool:=k==i||S k
def qI(V:Nat->Value)(i:Nat)(v:Value)(k:Nat):Value:=if k=i then v else V k
structure Gk(ops:Array Oper)(i:Nat)(S:Nat->Bool):Prop where
 n:S i=false
 tr:∀k j,waits .any ops k j=true->S k=true->S j=true
 l:∀j,waits .any ops i j=true->S j=true
structure Iz(L:List Nat)(ops:Array Oper)(a0:Act)(G:World->(Nat->Value)->Nat->Prop)(D:Nat->(Nat->Bool)->World->Prop)(listed:Array Bool)(a:Act)(w:World):Prop where
 df:a.defers=a0.defers
 sz:a.tmps.size=a0.tmps.size
 out:∀k,mH L k=true->a.tmps.getD k undef=a0.tmps.getD k undef
 lz:listed.size=L.length
 tr:∀i j,waits .any ops i j=true->listed.getD i false=true->listed.getD j false=true
 good:∀i,i<L.length->listed.getD i false=true->G w (vr ops (vals L a) i) i
 d:∃c,D c (fun k=>listed.getD k false) w/\c+dG listed<=L.length
def Ct(P:Program)(Q:Exit->Act->World->Prop)(L:List Nat)(ops:Array Oper)(a0:Act)(G:World->(Nat->Value)->Nat->Prop)(D:Nat->(Nat->Bool)->World->Prop)(F:Nat->World->World->Prop)(i:Nat):Prop:=
 ∀o,ops[i]?=some o->o.guard=none/\∀x y c S,c<L.length->Hid (Gk ops i S)->Hid (∀j,waits .any ops i j=true->G y (vr ops (vals L x) j) j)->Hid (∀k,mH L k=true->x.tmps.getD k undef=a0.tmps.getD k undef)->Hid (D c S y)->∀K:Act->World->Prop,Hid (∀v y',(o.dst=none->v=undef)->G y' (vr ops (qI (vals L x) i v) i) i->D (c+1) (sset S i) y'->F i y y'->K (x.put o.dst v) y')->o.wp P x y K Q
section
variable {P:Program} {Q:Exit->Act->World->Prop} {L:List Nat} {ops:Array Oper} {a0:Act} {G:World->(Nat->Value)->Nat->Prop} {D:Nat->(Nat->Bool)->World->Prop} {F:Nat->World->World->Prop} {i d:Nat}
theorem CX(h:Ab ops L a0.tmps.size=true)(hi:i<L.length){o:Oper}(ho:ops[i]?=some o):(o.dst=some (jU L i)/\jU L i<a0.tmps.size\/o.dst=none/\a0.tmps.size<=jU L i)/\∀j,j<L.length->jU L j=jU L i->j=i:=by
 unfold Ab at h;simp only[Bool.and_eq_true,decide_eq_true_eq]at h;have h1:=List.all_eq_true.1 h.2 i (List.mem_range.2 hi);rw[ho]at h1;simp only[Bool.and_eq_true]at h1;refine⟨?_,fun j hj e=>?_⟩
 ·
  cases hd:o.dst with
  |none=>rw[hd]at h1;exact Or.inr ⟨rfl,Nat.le_trans h.1.2 (of_decide_eq_true h1.1)⟩
  |some d=>rw[hd]at h1;simp only[Bool.and_eq_true,beq_iff_eq,decide_eq_true_eq]at h1;exact Or.inl ⟨by rw[h1.1.1],by rw[<-h1.1.1];exact h1.1.2⟩
 have h2:=List.all_eq_true.1 h1.2 j (List.mem_range.2 hj);simp only[Bool.or_eq_true,beq_iff_eq,Bool.not_eq_true',beq_eq_false_iff_ne]at h2;exact h2.resolve_right (fun h=>h e)
theorem pS{listed:Array Bool}{i:Nat}(h:listed.getD i true=false):listed.getD i false=false:=noT (fun h'=>Aa h h')
theorem me{listed:Array Bool}{j:Nat}(h:listed.getD j false=true):j<listed.size:=by
 rcases Nat.lt_or_ge j listed.size with h'|h';·exact h'
 rw[Array.getD_eq_getD_getElem?,Array.getElem?_eq_none h']at h;cases h
theorem EI{V V':Nat->Value}{j:Nat}(h:∀k,k=j\/waits .any ops j k=true->V' k=V k):vr ops V' j=vr ops V j:=by
 funext k;unfold vr;cases hb:(k==j||waits .any ops j k)
 ·rfl
 simp only[cond_true];refine h k ?_;simpa[Bool.or_eq_true,beq_iff_eq]using hb
theorem zS{w0:World}(L:List Nat)(G:World->(Nat->Value)->Nat->Prop)(D:Nat->(Nat->Bool)->World->Prop)(F:Nat->World->World->Prop)(hs:Ab ops L a0.tmps.size=true)
  (hF:∀i j y y' V S,i≠j->Gk ops i S->S j=true->F i y y'->G y V j->G y' V j) (hD:D 0 (fun _=>false) w0) (ct:∀i,i<L.length->Ct P Q L ops a0 G D F i)
  (done:∀a y c,a.defers=a0.defers->a.tmps.size=a0.tmps.size->(∀k,mH L k=true->a.tmps.getD k undef=a0.tmps.getD k undef)->(∀i,i<L.length->G y (vr ops (vals L a) i) i)->c<=L.length->D c (fun k=>decide (k<L.length)) y->Q .normal a y):
  wpAny P .any ops Q ops.size (Array.replicate ops.size false) a0 w0:=by
 have hsz:ops.size=L.length:=by unfold Ab at hs;simp only[Bool.and_eq_true,decide_eq_true_eq]at hs;exact hs.1.1.1
 have OL:qR ops=true:=by unfold Ab at hs;simp only[Bool.and_eq_true]at hs;exact hs.1.1.2
 have hrep:dG (Array.replicate ops.size false)=ops.size:=by simp[dG,List.countP_replicate]
 have hno:∀j,(Array.replicate ops.size false).getD j false=false:=fun j=>by simp only[Array.getD_eq_getD_getElem?,Array.getElem?_replicate];split<;>rfl
 refine iB (Iz L ops a0 G D) ?_ ?_ _ _ _ _ (Nat.le_of_eq hrep) ?_
 ·
  intro listed x y i hI hi;have hlt:i<L.length:=by have:=List.mem_range.1 (List.mem_filter.1 hi).1;omega
  have ho:ops[i]?=some (ops[i]'(by omega)):=Array.getElem?_eq_getElem (by omega);obtain⟨hg,hw⟩:=ct i hlt _ ho;obtain⟨hsl,hinj⟩:=CX hs hlt ho;obtain⟨c,hc,hco⟩:=hI.d;have hopen:=bQ hi;have hop:=et hopen;have hlz:=hI.lz;have hne:∀j,listed.getD j false=true->j≠i:=fun j hj e=>by rw[e]at hj;exact Aa hopen hj
  refine aO ho hg (hw x y c _ (by omega) ⟨pS hopen,hI.tr,fun j hj=>aY hi hj⟩ (fun j hj=>hI.good j (by rw[<-hlz];exact me (aY hi hj)) (aY hi hj)) hI.out hc _ ?_);intro v y' hv g1 d1 f1;have hV:∀k,k<L.length->k≠i->vals L (x.put (ops[i]'(by omega)).dst v) k=vals L x k:=by
   intro k hk hki;unfold vals;rcases hsl with⟨hd,hb⟩|⟨hd,hb⟩
   ·
    rw[hd];simp only[Act.put,Array.getD_eq_getD_getElem?];rw[Array.getElem?_setIfInBounds_ne (fun e'=>hki (hinj k hk e'.symm))]
   rw[hd];rfl
  have hmem:jU L i∈L:=by unfold jU;rw[List.getD_eq_getElem?_getD,List.getElem?_eq_getElem hlt];exact List.getElem_mem hlt
  refine⟨?_,?_,?_,by simpa using hlz,Uc hi (by omega) hI.tr,?_,c+1,?_,by omega⟩;·rcases hsl with⟨hd,-⟩|⟨hd,-⟩<;>rw[hd]<;>exact hI.df
  ·
   rcases hsl with⟨hd,-⟩|⟨hd,-⟩;·rw[hd];simpa[Act.put]using hI.sz
   rw[hd];exact hI.sz
  ·
   intro k hk;rcases hsl with⟨hd,-⟩|⟨hd,-⟩
   ·
    rw[hd,<-hI.out k hk];simp only[Act.put,Array.getD_eq_getD_getElem?];rw[Array.getElem?_setIfInBounds_ne];intro e;have:=List.all_eq_true.1 hk _ hmem;simp[e]at this
   rw[hd];exact hI.out k hk
  ·
   intro j hj hl;by_cases e:j=i
   ·
    subst e;rw[EI (V:=qI (vals L x) j v)];·exact g1
    rintro k (rfl|hk)
    ·
     unfold qI;rw[if_pos rfl];unfold vals;rcases hsl with⟨hd,hb⟩|⟨hd,hb⟩
     ·
      rw[hd];simp only[Act.put,Array.getD_eq_getD_getElem?];rw[Array.getElem?_setIfInBounds_self_of_lt (by rw[hI.sz];exact hb)];rfl
     rw[hv hd,hd];show x.tmps.getD _ undef=undef;rw[Array.getD_eq_getD_getElem?,Array.getElem?_eq_none (by rw[hI.sz];exact hb)];rfl
    have hkl:=aY hi hk;rw[hV k (by rw[<-hlz];exact me hkl) (hne k hkl)];unfold qI;rw[if_neg (hne k hkl)]
   rw[mU e]at hl;rw[EI (V:=vals L x)];·exact hF i j y y' _ (fun k=>listed.getD k false) (fun h=>e h.symm) ⟨pS hopen,hI.tr,fun j hj=>aY hi hj⟩ hl f1 (hI.good j hj hl)
   rintro k (rfl|hk);·exact hV k hj e
   have hkl:=hI.tr j k hk hl;exact hV k (by rw[<-hlz];exact me hkl) (hne k hkl)
  have e:sset (fun k=>listed.getD k false) i=fun k=>(listed.setIfInBounds i true).getD k false:=by
   funext k;unfold sset;by_cases e:k=i;·rw[e,pR (by omega)];simp
   rw[mU e];simp[e]
  rw[<-e];exact d1
 ·
  intro listed x y hI hr;have hall:=tu OL hr (by rw[hI.lz,hsz]);obtain⟨c,hc,hco⟩:=hI.d;exact done x y c hI.df hI.sz hI.out (fun i hi=>hI.good i hi (hall i (by omega))) (by omega) (by
   have e:(fun k=>listed.getD k false)=fun k=>decide (k<L.length):=by
    funext k;by_cases hk:k<L.length;·rw[hall k (by omega)];simp[hk]
    rw[Array.getD_eq_getD_getElem?,Array.getElem?_eq_none (by rw[hI.lz];omega)];simp[hk]
   rw[<-e];exact hc)
 ·
  exact⟨rfl,rfl,fun _ _=>rfl,by simp[hsz],(fun i j _ h=>by rw[hno]at h;cases h),(fun i _ h=>by rw[hno]at h;cases h),0,by have e:(fun k=>(Array.replicate ops.size false).getD k false)=fun _=>false:=funext hno;rw[e];exact hD,by rw[hrep];omega⟩
theorem ct{o:Oper}(ho:ops[i]?=some o)(hg:o.guard=none)(hd:o.dst=some d)
  (h:∀x y c S,c<L.length->Hid (Gk ops i S)->Hid (∀j,waits .any ops i j=true->G y (vr ops (vals L x) j) j)->Hid (∀k,mH L k=true->x.tmps.getD k undef=a0.tmps.getD k undef)->Hid (D c S y)->∀K:Act->World->Prop,Hid (∀v y',G y' (vr ops (qI (vals L x) i v) i) i->D (c+1) (sset S i) y'->F i y y'->K (x.put o.dst v) y')->o.wp P x y K Q):Ct P Q L ops a0 G D F i:=by
 intro o' ho';rw[ho]at ho';cases ho';exact⟨hg,fun x y c S hc yy g o dd K hK=>h x y c S hc yy g o dd K (fun v y' g1 d1 f1=>hK.out v y' (fun e=>by rw[hd]at e;cases e) g1 d1 f1)⟩
theorem TV{o:Oper}(ho:ops[i]?=some o)(hg:o.guard=none)
  (h:∀x y c S,c<L.length->Hid (Gk ops i S)->Hid (∀j,waits .any ops i j=true->G y (vr ops (vals L x) j) j)->Hid (∀k,mH L k=true->x.tmps.getD k undef=a0.tmps.getD k undef)->Hid (D c S y)->∀K:Act->World->Prop,Hid (∀y',G y' (vr ops (qI (vals L x) i undef) i) i->D (c+1) (sset S i) y'->F i y y'->K (x.put o.dst undef) y')->o.wp P x y K Q):Ct P Q L ops a0 G D F i:=by
 intro o' ho';rw[ho]at ho';cases ho';exact⟨hg,fun x y c S hc yy g o dd K hK=>h x y c S hc yy g o dd K (fun y' g1 d1 f1=>hK.out undef y' (fun _=>rfl) g1 d1 f1)⟩
theorem Ks(hD:∀c S y,D c S y->D (c+1) (sset S i) y)(hR:∀y,F i y y){o:Oper}(ho:ops[i]?=some o)(hg:o.guard=none)(hd:o.dst=some d)
  (h:∀x y c S,Hid (Gk ops i S)->Hid (∀j,waits .any ops i j=true->G y (vr ops (vals L x) j) j)->Hid (∀k,mH L k=true->x.tmps.getD k undef=a0.tmps.getD k undef)->Hid (D c S y)->∀K:Act->World->Prop,Hid (∀v,G y (vr ops (qI (vals L x) i v) i) i->K (x.put o.dst v) y)->o.wp P x y K Q):Ct P Q L ops a0 G D F i:=
 ct ho hg hd (fun x y c S _ yy g o d K hK=>h x y c S yy g o d K (fun v hv=>hK.out v y hv (hD c S y d.out) (hR y)))
end
def EJ(L:List Nat)(lo1 n1 lo2 n2 sz:Nat):Bool:=L.all (fun s=>(decide (lo1<=s)&&decide (s<lo1+n1))||(decide (lo2<=s)&&decide (s<lo2+n2))||decide (100000<=s))&&decide (sz<=100000)&&decide (lo1+n1<=lo2)&&decide (lo2+n2<=sz)
theorem CM{a a0:Act}{L:List Nat}(lo1 n1 lo2 n2:Nat)(df:a.defers=a0.defers)(sz:a.tmps.size=a0.tmps.size)(out:∀k,mH L k=true->a.tmps.getD k undef=a0.tmps.getD k undef)(h:EJ L lo1 n1 lo2 n2 a0.tmps.size=true):
  ∃f:Nat->Value,a=⟨(a0.tmps.toList.take lo1++((List.range n1).map f++((a0.tmps.toList.drop (lo1+n1)).take (lo2-(lo1+n1))++((List.range n2).map (fun k=>f (n1+k))++a0.tmps.toList.drop (lo2+n2))))).toArray,a0.defers⟩/\(∀k,k<n1->f k=a.tmps.getD (lo1+k) undef)/\∀k,k<n2->f (n1+k)=a.tmps.getD (lo2+k) undef:=by
 unfold EJ at h;simp only[Bool.and_eq_true,decide_eq_true_eq]at h;obtain⟨⟨⟨h1,h2⟩,h3⟩,h4⟩:=h;have hs:∀k,k<lo1\/(lo1+n1<=k/\k<lo2)\/lo2+n2<=k->a.tmps.toList[k]?=a0.tmps.toList[k]?:=by
  intro k hk;by_cases hz:k<a0.tmps.size
  ·
   have e:=out k (List.all_eq_true.2 fun s hs=>by have h5:=List.all_eq_true.1 h1 s hs;simp only[Bool.or_eq_true,Bool.and_eq_true,decide_eq_true_eq]at h5;simp only[Bool.not_eq_true',beq_eq_false_iff_ne];omega);simp only[Array.getD_eq_getD_getElem?]at e;rw[Array.getElem?_eq_getElem hz,Array.getElem?_eq_getElem (by omega)]at e;rw[Array.getElem?_toList,Array.getElem?_toList,Array.getElem?_eq_getElem hz,Array.getElem?_eq_getElem (by omega)];simpa using e
  rw[Array.getElem?_toList,Array.getElem?_toList,Array.getElem?_eq_none (by omega),Array.getElem?_eq_none (by omega)]
 have hg:∀k,k<a0.tmps.size->a.tmps.toList[k]?=some (a.tmps.getD k undef):=by intro k hk;rw[Array.getElem?_toList,Array.getD_eq_getD_getElem?,Array.getElem?_eq_getElem (by omega)];rfl
 refine⟨fun k=>if k<n1 then a.tmps.getD (lo1+k) undef else a.tmps.getD (lo2+(k-n1)) undef,?_,fun k hk=>by simp[hk],fun k hk=>?_⟩
 ·
  have hl0:a0.tmps.toList.length=a0.tmps.size:=by simp
  have e:a.tmps.toList=_:=List.ext_getElem? (l₂:=a0.tmps.toList.take lo1++((List.range n1).map (fun k=>if k<n1 then a.tmps.getD (lo1+k) undef else a.tmps.getD (lo2+(k-n1)) undef)++((a0.tmps.toList.drop (lo1+n1)).take (lo2-(lo1+n1))++((List.range n2).map (fun k=>if n1+k<n1 then a.tmps.getD (lo1+(n1+k)) undef else a.tmps.getD (lo2+(n1+k-n1)) undef)++a0.tmps.toList.drop (lo2+n2))))) (fun i=>by
   rcases(by omega:i<lo1\/(lo1<=i/\i<lo1+n1)\/(lo1+n1<=i/\i<lo2)\/(lo2<=i/\i<lo2+n2)\/lo2+n2<=i)with hi|hi|hi|hi|hi
   ·
    rw[List.getElem?_append_left (by simp;omega),List.getElem?_take_of_lt hi];exact hs i (Or.inl hi)
   ·
    rw[List.getElem?_append_right (by simp;omega),List.getElem?_append_left (by simp;omega),hg i (by omega)];simp only[List.length_take,hl0,List.getElem?_map];rw[List.getElem?_range (by omega)];simp only[Option.map_some];rw[if_pos (by omega)];congr 2;omega
   ·
    rw[List.getElem?_append_right (by simp;omega),List.getElem?_append_right (by simp;omega),List.getElem?_append_left (by simp;omega)];simp only[List.length_take,List.length_map,List.length_range,hl0];rw[List.getElem?_take_of_lt (by omega),List.getElem?_drop,hs i (Or.inr (Or.inl hi))];congr 1;omega
   ·
    rw[List.getElem?_append_right (by simp;omega),List.getElem?_append_right (by simp;omega),List.getElem?_append_right (by simp;omega),List.getElem?_append_left (by simp;omega),hg i (by omega)];simp only[List.length_take,List.length_map,List.length_range,List.length_drop,hl0,List.getElem?_map];rw[List.getElem?_range (by omega)];simp only[Option.map_some];rw[if_neg (by omega)];congr 2;omega
   rw[List.getElem?_append_right (by simp;omega),List.getElem?_append_right (by simp;omega),List.getElem?_append_right (by simp;omega),List.getElem?_append_right (by simp;omega)];simp only[List.length_take,List.length_map,List.length_range,List.length_drop,hl0];rw[List.getElem?_drop,hs i (Or.inr (Or.inr hi))];congr 1;omega)
  obtain⟨⟨t⟩,d⟩:=a;simp only at e df;rw[df];congr 1;rw[<-e]
 ·
  show(if n1+k<n1 then _ else _)=_;rw[if_neg (by omega)];congr 1;omega
def dz(n:Int):ByteArray:=⟨(Lib.itoa n).toArray⟩
theorem zU{n:Nat}(h:n<10):dz n=⟨#[UInt8.ofNat (48+n)]⟩:=by
 have h0:¬((n:Int)<0):=by omega
 unfold dz Lib.itoa;rw[if_neg h0,Int.toNat_natCast,Lib.decDigits_one h]
theorem wX{n:Nat}(h:¬n<10):dz n=dz (n / 10:Nat)++⟨#[UInt8.ofNat (48+n % 10)]⟩:=by
 have h0:¬((n:Int)<0):=by omega
 have h1:¬(((n / 10:Nat):Int)<0):=by omega
 unfold dz Lib.itoa;rw[if_neg h0,if_neg h1,Int.toNat_natCast,Int.toNat_natCast,Lib.decDigits,dif_neg h];apply ByteArray.ext;simp
theorem wY(n:Nat):(dz n).size<=n+1:=by
 induction n using Nat.strongRecOn with
 |ind n ih=>
  by_cases h:n<10;·rw[zU h];show 1<=n+1;omega
  rw[wX h,ByteArray.size_append];have:=ih (n / 10) (by omega);have h2:(⟨#[UInt8.ofNat (48+n % 10)]⟩:ByteArray).size=1:=rfl;omega
theorem jM(n:Int)(h0:0<=n)(h1:n<1000000000):(dz n).size<=1000000000:=by obtain⟨k,rfl⟩:=Int.eq_ofNat_of_zero_le h0;have:=wY k;omega
def KG:List ByteArray->ByteArray
 |[]=>{data:=#[]}
 |x::l=>l.foldl (·++·) x
open Go.Proofs.Tryz
set_option maxRecDepth 4000
set_option maxHeartbeats 2000000
def sZ(xs:List ByteArray):ByteArray:=⟨(Lib.join (xs.map (·.data.toList)) [32]).toArray⟩
theorem mI(M:Nat):∀(xs:List ByteArray),(∀x∈xs,x.size<=M)->(Lib.joinTail [32] (xs.map (·.data.toList))).length<=xs.length*(M+1)
 |[],_=>by simp[Lib.joinTail]
 |x::xs,h=>by
  have h1:=mI M xs (fun q hq=>h q (List.mem_cons_of_mem _ hq));have h2:x.data.toList.length<=M:=by have:=h x (List.mem_cons_self ..);rw[Array.length_toList];exact this
  unfold Lib.joinTail at h1 ⊢;simp only[List.map_cons,List.flatten_cons,List.length_append,List.length_cons,List.length_nil,Nat.succ_mul]at h1 ⊢;omega
theorem join_le(M:Nat)(xs:List ByteArray)(h:∀x∈xs,x.size<=M):(Lib.join (xs.map (·.data.toList)) [32]).length<=xs.length*(M+1):=by
 cases xs with
 |nil=>rw[List.map_nil,Lib.join_nil];exact Nat.zero_le _
 |cons x xs=>
  have h1:=mI M xs (fun q hq=>h q (List.mem_cons_of_mem _ hq));have h2:x.data.toList.length<=M:=by have:=h x (List.mem_cons_self ..);rw[Array.length_toList];exact this
  rw[List.map_cons,Lib.join_cons,List.length_append,List.length_cons,Nat.succ_mul];omega
theorem vf(M:Nat)(xs:List ByteArray)(h:∀x∈xs,x.size<=M):(sZ xs).size<=xs.length*(M+1):=by have h1:=join_le M xs h;show(Lib.join (xs.map (·.data.toList)) [32]).toArray.size<=_;rw[List.size_toArray];exact h1
def gC(word:ByteArray)(xs:List ByteArray):ByteArray:=KG [word,{data:=#[32]},sZ xs,{data:=#[10]}]
theorem nF(word:ByteArray)(bk c:Nat)(xs:List ByteArray)(w:World)(hcells:∀(j:Nat) x,xs[j]?=some x->w.cell? ⟨bk,j,none⟩=some (.string x))(hbk:bk<w.heap.size)(hN:xs.length<=100)(hcap:xs.length<=c)
  (hz:∀x∈xs,x.size<=1000000000) (hw:word.size<=1000000000):
  Calls prog 53 #[.string word,.slice (some ⟨bk,0,none⟩) xs.length c] w fun e w'=>e=.returned (.string (gC word xs))/\Below w.heap.size w w':=by
 have hj:=join_le 1000000000 xs hz;have hj2:(sZ xs).size<=200000000000:=by have h1:=vf 1000000000 xs hz;have h2:xs.length*1000000001<=100*1000000001:=Nat.mul_le_mul_right _ hN;omega
 have hlen:(Lib.join (xs.map (·.data.toList)) [32]).length<=140737488355328:=by have h2:xs.length*1000000001<=100*1000000001:=Nat.mul_le_mul_right _ hN;omega
 have HC:Hid (∀(j:Nat) x,xs[j]?=some x->w.cell? ⟨bk,0+j,none⟩=some (.string x)):=fun j x h=>by rw[Nat.zero_add];exact hcells j x h
 have HL:=ah hlen;have HJ:Hid (sZ xs=⟨(Lib.join (xs.map (·.data.toList)) [32]).toArray⟩):=rfl;clear hcells hj hlen hz;obtain⟨J,hJ⟩:∃J,J=sZ xs:=⟨_,rfl⟩
 have HJ2:=ah hJ;rw[<-hJ]at hj2;clear hJ;have hz1:¬(9223372036854775807<word.size+1):=by omega
 have hz2:¬(9223372036854775807<word.size+1+J.size):=by omega
 have hz3:¬(9223372036854775807<word.size+1+J.size+1):=by omega
 go_enter func53,ntmps53
 go_wp2_with (go_at_call 100;refine(strings_Join bk 0 c xs {data:=#[32]} _ HC.out hbk (by omega) hcap HL.out).mono ?_;rintro e w1 ⟨rfl,hb⟩;have HB:Hid (Below w.heap.size w w1):=hb;clear hb;rw[show({data:=(Lib.join (xs.map (·.data.toList)) ({data:=#[32]}:ByteArray).data.toList).toArray}:ByteArray)=J from HJ2.out.symm])
 go_ret
 exact⟨by show Ending.returned (Value.string (word++{data:=#[32]}++J++{data:=#[10]}))=_;rw[HJ2.out];rfl,HB.out⟩
def wd(l:List UInt8):ByteArray:=⟨l.toArray⟩
set_option maxHeartbeats 4000000
def Tab (w : World) : Prop := Lib.TabIs prog w "internal/strconv.uint64pow10" .u64 Lib.pow10Tab
theorem Tab.keep{w w':World}(h:Tab w)(hb:Below w.heap.size w w'):Tab w':=by
 have h1 : (prog.globalNamed "internal/strconv.uint64pow10").isSome = true := by kernel_rfl
 obtain⟨g,hg⟩:=Option.isSome_iff_exists.1 h1;exact Go.Joins.tab_stays hg h hb (Nat.le_refl _)
theorem ta(n:Int)(w:World)(h0:-9223372036854775808<=n)(h1:n<=9223372036854775807)(ht:Tab w):
  Calls prog 101 #[.int .i64 n] w fun e w'=>e=.returned (.string (dz n))/\Below w.heap.size w w':=by
 refine(strconv_Itoa n h0 h1 w ht).mono ?_;rintro e w' ⟨rfl,k,os,rfl⟩;exact⟨rfl,Lib.below_grow _ _ (Nat.le_refl _) _ _⟩
def gD(xs:List ByteArray)(w:World)(v:Value):Prop:=∃g,v=.slice (some ⟨g,0,none⟩) xs.length xs.length/\g<w.heap.size/\∀(j:Nat) x,xs[j]?=some x->w.cell? ⟨g,j,none⟩=some (.string x)
theorem gD.keep{xs:List ByteArray}{w w':World}{v:Value}(h:gD xs w v)(hb:Below w.heap.size w w'):gD xs w' v:=by obtain⟨g,h1,h2,h3⟩:=h;exact⟨g,h1,Nat.lt_of_lt_of_le h2 hb.size,fun j x hj=>(hb.cell (p:=⟨g,j,none⟩) h2).trans (h3 j x hj)⟩
def xb(xs:List ByteArray):Array Value:=(xs.map Value.string).toArray
theorem gD.new(xs:List ByteArray)(y:World):gD xs (y.alloc (.cells (xb xs) 9)) (.slice (some ⟨y.heap.size,0,none⟩) xs.length xs.length):=
 ⟨y.heap.size,rfl,by simp,fun j x hj=>by rw[World.cell?_alloc_new];simp[xb,hj]⟩
theorem KN(a b:ByteArray)(w:World):Sem.run prog (Instr.buildSlice 87 2 #[(0,.string a),(1,.string b)]) w=.ok (.slice (some ⟨w.heap.size,0,none⟩) 2 2) (w.alloc (.cells (xb [a,b]) 9)):=by kernel_rfl
theorem KO(a b c d:ByteArray)(w:World):Sem.run prog (Instr.buildSlice 87 4 #[(0,.string a),(1,.string b),(2,.string c),(3,.string d)]) w=.ok (.slice (some ⟨w.heap.size,0,none⟩) 4 4) (w.alloc (.cells (xb [a,b,c,d]) 9)):=by kernel_rfl
def jd:Nat->Nat
 |0=>3
 |1=>4
 |2=>5
 |3=>6
 |4=>7
 |5=>8
 |6=>2
 |_=>0
theorem ew{i:Nat}(hi:i<7):∀j,j<7->jd j=jd i->j=i:=by
 have h:∀a:_root_.Fin 7,∀b:_root_.Fin 7,jd b.val=jd a.val->b.val=a.val:=by decide
 intro j hj e;exact h ⟨i,hi⟩ ⟨j,hj⟩ e
theorem mJ(k:Nat)(h:(List.range 7).all (fun i=>jd i != k)=true):∀i,i<7->jd i≠k:=fun i hi e=>by have h1:=List.all_eq_true.1 h i (List.mem_range.2 hi);rw[e]at h1;simp at h1
def lX(bm:Nat)(b h c:ByteArray)(k se t:Int)(w:World):Nat->Value->Prop
 |0,v=>v=.pointer (some ⟨bm,1,none⟩)
 |1,v=>v=.string b
 |2,v=>v=.pointer (some ⟨bm,2,none⟩)
 |3,v=>v=.int .i64 se
 |4,v=>v=.string (dz se)
 |5,v=>gD [b,(dz se)] w v
 |6,v=>gD [b,(dz se)] w v
 |_,_=>True
theorem lX.keep{bm:Nat}{b h c:ByteArray}{k se t:Int}{w w':World}(hb:Below w.heap.size w w'):∀i v,lX bm b h c k se t w i v->lX bm b h c k se t w' i v
 |0,_,h=>h
 |1,_,h=>h
 |2,_,h=>h
 |3,_,h=>h
 |4,_,h=>h
 |5,_,h=>gD.keep h hb
 |6,_,h=>gD.keep h hb
 |_+7,_,h=>h
theorem xe(k:Int)(b:ByteArray)(se:Int)(v3:Value)(h c:ByteArray)(t:Int)(w:World)(h3:v3.oneCell'=true)(s0:0<=se/\se<=1000000)(t0:0<=t/\t<=1000000)(ht:Tab w):
  Calls prog 134 #[.agg (cw k b se v3 h c t)] w fun e w'=>(∃v,e=.returned v/\gD [b,(dz se)] w' v)/\Below w.heap.size w w':=by
 obtain⟨W1,hW1⟩:∃W1,W1=(w.alloc (.cells (cw k b se v3 h c t) 43)):=⟨_,rfl⟩
 have HB:Hid (Below w.heap.size w W1):=by rw[hW1];exact ae bR _
 have qM:Hid (∀y,Below W1.heap.size W1 y->Tab y):=fun y hb=>(ht.keep HB.out).keep hb;have KX:Hid (∀y,Below W1.heap.size W1 y->∀k',y.cell? ⟨w.heap.size,k',none⟩=((cw k b se v3 h c t):Array Value)[k']?):=by intro y hb k';rw[hW1]at hb;rw[aJ hb k'];simp[go_sem]
 have HW1:=ah hW1;clear hW1 ht;go_enter func134,ntmps134
 go_wp2_with fail
 rw[<-HW1.out];refine wp_region_any (by kernel_rfl) ?_;refine jy jd 7 (lX w.heap.size b h c k se t) (fun y=>Below W1.heap.size W1 y) (by decide) rfl bD ?xj ?xk
 case xj=>
  intro a y hI;obtain⟨g3,g4,g5,g6⟩:=hI.all 6 (by omega);have r2:a.tmps[2]?.getD undef=_:=ak g4;have df:=hI.df;have HG:=ah g6;clear g6 g4;go_wp2
  exact bodyPost_ret (by simp[results,results134,go_sem,r2]) df ⟨⟨_,rfl,⟨g3,rfl,g5,HG.out⟩⟩,af HB.out hI.d⟩
 case xk=>
  intro listed x y i hI hi hlt;have HJ:=ah hI;obtain rfl|rfl|rfl|rfl|rfl|rfl|rfl:i=0\/i=1\/i=2\/i=3\/i=4\/i=5\/i=6:=by omega
  ·
   clear hi;refine il fun K hK=>?_;have i1:x.tmps[1]?.getD undef=_:=ak (hI.out 1 (mJ 1 (by decide)));clear hI
   go_simp
   exact HJ.out.sm hK (by omega) (lE rfl) (ew (by omega)) rfl
  ·
   have vY:=hI.good 0 (by omega) (aY hi (j:=0) (by rfl));clear hi;refine il fun K hK=>?_;have MS:x.tmps[3]?.getD undef=_:=ak vY;have k9:y.cell? ⟨w.heap.size,1,none⟩=some (.string b):=KX.out y hI.d 1;clear hI vY
   go_simp
   exact HJ.out.sm hK (by omega) (lE rfl) (ew (by omega)) rfl
  ·
   clear hi;refine il fun K hK=>?_;have i1:x.tmps[1]?.getD undef=_:=ak (hI.out 1 (mJ 1 (by decide)));clear hI
   go_simp
   exact HJ.out.sm hK (by omega) (lE rfl) (ew (by omega)) rfl
  ·
   have vZ:=hI.good 2 (by omega) (aY hi (j:=2) (by rfl));clear hi;refine il fun K hK=>?_;have MU:x.tmps[5]?.getD undef=_:=ak vZ;have k9:y.cell? ⟨w.heap.size,2,none⟩=some (.int .i64 se):=KX.out y hI.d 2;clear hI vZ
   go_simp
   exact HJ.out.sm hK (by omega) (lE rfl) (ew (by omega)) rfl
  ·
   have wa:=hI.good 3 (by omega) (aY hi (j:=3) (by rfl));clear hi;refine il fun K hK=>?_;have MV:x.tmps[6]?.getD undef=_:=ak wa;clear hI wa
   go_simp
   refine(ta se y (by omega) (by omega) (qM.out y HJ.out.d)).mono ?_;rintro e y' ⟨rfl,hb⟩;exact hK.out _ _ (HJ.out.put (by omega) (lE rfl) (ew (by omega)) (rfl) (fun j u _ h=>lX.keep hb j u h) (af HJ.out.d hb))
  ·
   have wb:=hI.good 1 (by omega) (aY hi (j:=1) (by rfl));have wh:=hI.good 4 (by omega) (aY hi (j:=4) (by rfl));clear hi;refine il fun K hK=>?_;have MW:x.tmps[4]?.getD undef=_:=ak wb;have MX:x.tmps[7]?.getD undef=_:=ak wh;have hbb:=KN (b) ((dz se));clear hI wb wh
   go_simp
   have hb:Below y.heap.size y (y.alloc (.cells (xb [b,(dz se)]) 9)):=ae bR _;exact hK.out _ _ (HJ.out.put (by omega) (lE rfl) (ew (by omega)) (gD.new [b,(dz se)] y) (fun j u _ h=>lX.keep hb j u h) (af HJ.out.d hb))
  have BH:=hI.good 5 (by omega) (aY hi (j:=5) (by rfl));clear hi;refine il fun K hK=>?_;obtain⟨g3,g4,g5,g6⟩:=BH;have MY:x.tmps[8]?.getD undef=_:=ak g4;clear g4;have G6:=ah g6;clear g6;clear hI
  go_simp
  exact hK.out _ _ (HJ.out.put (by omega) (lE rfl) (ew (by omega)) (⟨g3,rfl,g5,G6.out⟩) (fun j u _ h=>h) HJ.out.d)
def je:Nat->Nat
 |0=>3
 |1=>4
 |2=>5
 |3=>6
 |4=>7
 |5=>8
 |6=>9
 |7=>10
 |8=>11
 |9=>12
 |10=>2
 |_=>0
theorem cW{i:Nat}(hi:i<11):∀j,j<11->je j=je i->j=i:=by
 have h:∀a:_root_.Fin 11,∀b:_root_.Fin 11,je b.val=je a.val->b.val=a.val:=by decide
 intro j hj e;exact h ⟨i,hi⟩ ⟨j,hj⟩ e
theorem gY(k:Nat)(h:(List.range 11).all (fun i=>je i != k)=true):∀i,i<11->je i≠k:=fun i hi e=>by have h1:=List.all_eq_true.1 h i (List.mem_range.2 hi);rw[e]at h1;simp at h1
def lY(bm:Nat)(b h c:ByteArray)(k se t:Int)(w:World):Nat->Value->Prop
 |0,v=>v=.pointer (some ⟨bm,1,none⟩)
 |1,v=>v=.string b
 |2,v=>v=.pointer (some ⟨bm,4,none⟩)
 |3,v=>v=.string h
 |4,v=>v=.pointer (some ⟨bm,5,none⟩)
 |5,v=>v=.string c
 |6,v=>v=.pointer (some ⟨bm,6,none⟩)
 |7,v=>v=.int .i64 t
 |8,v=>v=.string (dz t)
 |9,v=>gD [b,h,c,(dz t)] w v
 |10,v=>gD [b,h,c,(dz t)] w v
 |_,_=>True
theorem lY.keep{bm:Nat}{b h c:ByteArray}{k se t:Int}{w w':World}(hb:Below w.heap.size w w'):∀i v,lY bm b h c k se t w i v->lY bm b h c k se t w' i v
 |0,_,h=>h
 |1,_,h=>h
 |2,_,h=>h
 |3,_,h=>h
 |4,_,h=>h
 |5,_,h=>h
 |6,_,h=>h
 |7,_,h=>h
 |8,_,h=>h
 |9,_,h=>gD.keep h hb
 |10,_,h=>gD.keep h hb
 |_+11,_,h=>h
theorem pP(k:Int)(b:ByteArray)(se:Int)(v3:Value)(h c:ByteArray)(t:Int)(w:World)(h3:v3.oneCell'=true)(s0:0<=se/\se<=1000000)(t0:0<=t/\t<=1000000)(ht:Tab w):
  Calls prog 137 #[.agg (cw k b se v3 h c t)] w fun e w'=>(∃v,e=.returned v/\gD [b,h,c,(dz t)] w' v)/\Below w.heap.size w w':=by
 obtain⟨W1,hW1⟩:∃W1,W1=(w.alloc (.cells (cw k b se v3 h c t) 43)):=⟨_,rfl⟩
 have HB:Hid (Below w.heap.size w W1):=by rw[hW1];exact ae bR _
 have qM:Hid (∀y,Below W1.heap.size W1 y->Tab y):=fun y hb=>(ht.keep HB.out).keep hb;have KX:Hid (∀y,Below W1.heap.size W1 y->∀k',y.cell? ⟨w.heap.size,k',none⟩=((cw k b se v3 h c t):Array Value)[k']?):=by intro y hb k';rw[hW1]at hb;rw[aJ hb k'];simp[go_sem]
 have HW1:=ah hW1;clear hW1 ht;go_enter func137,ntmps137
 go_wp2_with fail
 rw[<-HW1.out];refine wp_region_any (by kernel_rfl) ?_;refine jy je 11 (lY w.heap.size b h c k se t) (fun y=>Below W1.heap.size W1 y) (by decide) rfl bD ?xl ?xm
 case xl=>
  intro a y hI;obtain⟨g3,g4,g5,g6⟩:=hI.all 10 (by omega);have r2:a.tmps[2]?.getD undef=_:=ak g4;have df:=hI.df;have HG:=ah g6;clear g6 g4;go_wp2
  exact bodyPost_ret (by simp[results,results137,go_sem,r2]) df ⟨⟨_,rfl,⟨g3,rfl,g5,HG.out⟩⟩,af HB.out hI.d⟩
 case xm=>
  intro listed x y i hI hi hlt;have HJ:=ah hI;obtain rfl|rfl|rfl|rfl|rfl|rfl|rfl|rfl|rfl|rfl|rfl:i=0\/i=1\/i=2\/i=3\/i=4\/i=5\/i=6\/i=7\/i=8\/i=9\/i=10:=by omega
  ·
   clear hi;refine il fun K hK=>?_;have i1:x.tmps[1]?.getD undef=_:=ak (hI.out 1 (gY 1 (by decide)));clear hI
   go_simp
   exact HJ.out.sm hK (by omega) (lE rfl) (cW (by omega)) rfl
  ·
   have vY:=hI.good 0 (by omega) (aY hi (j:=0) (by rfl));clear hi;refine il fun K hK=>?_;have MS:x.tmps[3]?.getD undef=_:=ak vY;have k9:y.cell? ⟨w.heap.size,1,none⟩=some (.string b):=KX.out y hI.d 1;clear hI vY
   go_simp
   exact HJ.out.sm hK (by omega) (lE rfl) (cW (by omega)) rfl
  ·
   clear hi;refine il fun K hK=>?_;have i1:x.tmps[1]?.getD undef=_:=ak (hI.out 1 (gY 1 (by decide)));clear hI
   go_simp
   exact HJ.out.sm hK (by omega) (lE rfl) (cW (by omega)) rfl
  ·
   have vZ:=hI.good 2 (by omega) (aY hi (j:=2) (by rfl));clear hi;refine il fun K hK=>?_;have MU:x.tmps[5]?.getD undef=_:=ak vZ;have k9:y.cell? ⟨w.heap.size,4,none⟩=some (.string h):=KX.out y hI.d 4;clear hI vZ
   go_simp
   exact HJ.out.sm hK (by omega) (lE rfl) (cW (by omega)) rfl
  ·
   clear hi;refine il fun K hK=>?_;have i1:x.tmps[1]?.getD undef=_:=ak (hI.out 1 (gY 1 (by decide)));clear hI
   go_simp
   exact HJ.out.sm hK (by omega) (lE rfl) (cW (by omega)) rfl
  ·
   have wh:=hI.good 4 (by omega) (aY hi (j:=4) (by rfl));clear hi;refine il fun K hK=>?_;have MX:x.tmps[7]?.getD undef=_:=ak wh;have k9:y.cell? ⟨w.heap.size,5,none⟩=some (.string c):=KX.out y hI.d 5;clear hI wh
   go_simp
   exact HJ.out.sm hK (by omega) (lE rfl) (cW (by omega)) rfl
  ·
   clear hi;refine il fun K hK=>?_;have i1:x.tmps[1]?.getD undef=_:=ak (hI.out 1 (gY 1 (by decide)));clear hI
   go_simp
   exact HJ.out.sm hK (by omega) (lE rfl) (cW (by omega)) rfl
  ·
   have zW:=hI.good 6 (by omega) (aY hi (j:=6) (by rfl));clear hi;refine il fun K hK=>?_;have OH:x.tmps[9]?.getD undef=_:=ak zW;have k9:y.cell? ⟨w.heap.size,6,none⟩=some (.int .i64 t):=KX.out y hI.d 6;clear hI zW
   go_simp
   exact HJ.out.sm hK (by omega) (lE rfl) (cW (by omega)) rfl
  ·
   have Rc:=hI.good 7 (by omega) (aY hi (j:=7) (by rfl));clear hi;refine il fun K hK=>?_;have Wn:x.tmps[10]?.getD undef=_:=ak Rc;clear hI Rc
   go_simp
   refine(ta t y (by omega) (by omega) (qM.out y HJ.out.d)).mono ?_;rintro e y' ⟨rfl,hb⟩;exact hK.out _ _ (HJ.out.put (by omega) (lE rfl) (cW (by omega)) (rfl) (fun j u _ h=>lY.keep hb j u h) (af HJ.out.d hb))
  ·
   have wb:=hI.good 1 (by omega) (aY hi (j:=1) (by rfl));have wa:=hI.good 3 (by omega) (aY hi (j:=3) (by rfl));have BH:=hI.good 5 (by omega) (aY hi (j:=5) (by rfl));have Re:=hI.good 8 (by omega) (aY hi (j:=8) (by rfl));clear hi;refine il fun K hK=>?_;have MW:x.tmps[4]?.getD undef=_:=ak wb;have MV:x.tmps[6]?.getD undef=_:=ak wa;have MY:x.tmps[8]?.getD undef=_:=ak BH;have Wp:x.tmps[11]?.getD undef=_:=ak Re;have hbb:=KO (b) (h) (c) ((dz t));clear hI wb wa BH Re
   go_simp
   have hb:Below y.heap.size y (y.alloc (.cells (xb [b,h,c,(dz t)]) 9)):=ae bR _;exact hK.out _ _ (HJ.out.put (by omega) (lE rfl) (cW (by omega)) (gD.new [b,h,c,(dz t)] y) (fun j u _ h=>lY.keep hb j u h) (af HJ.out.d hb))
  have Ub:=hI.good 9 (by omega) (aY hi (j:=9) (by rfl));clear hi;refine il fun K hK=>?_;obtain⟨g3,g4,g5,g6⟩:=Ub;have Wq:x.tmps[12]?.getD undef=_:=ak g4;clear g4;have G6:=ah g6;clear g6;clear hI
  go_simp
  exact hK.out _ _ (HJ.out.put (by omega) (lE rfl) (cW (by omega)) (⟨g3,rfl,g5,G6.out⟩) (fun j u _ h=>h) HJ.out.d)
end Go.Proofs.YtlfnpjcjapljpaaGreatDoor
