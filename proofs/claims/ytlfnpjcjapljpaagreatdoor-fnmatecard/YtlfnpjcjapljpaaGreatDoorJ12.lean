import Derived.Test.YtlfnpjcjapljpaaGreatDoorJ09
import Derived.Test.YtlfnpjcjapljpaaGreatDoorJ06
import Derived.Laws.AppendOwnNone
namespace Go.Proofs.YtlfnpjcjapljpaaGreatDoor
open Go.RowKit
set_option linter.unusedVariables false
def Gv(w:World)(a:Option Addr)(rs:List aw):Prop:=rs=[]\/∃b,a=some ⟨b,0,none⟩/\b<w.heap.size/\aG w b 0 rs
theorem Gv.keep{w w':World}{a:Option Addr}{rs:List aw}(h:Gv w a rs)(hb:Below w.heap.size w w'):Gv w' a rs:=by
 rcases h with h|⟨b,h1,h2,h3⟩;·exact Or.inl h
 exact Or.inr ⟨b,h1,Nat.lt_of_lt_of_le h2 hb.size,h3.keep h2 hb⟩
theorem Sl.gv{w:World}{a:Option Addr}{rs:List aw}{c B:Nat}(h:Sl w (ai a rs c) rs B):Gv w a rs:=by
 rcases h with⟨h,rfl⟩|⟨g,cap,h0,h1,h2,h3,h4⟩;·exact Or.inl rfl
 cases h0;exact Or.inr ⟨g,rfl,h2,h3⟩
def W.Gv(w:World)(a:Option Addr)(ws:List W.ay):Prop:=ws=[]\/∃b,a=some ⟨b,0,none⟩/\b<w.heap.size/\W.aG w b 0 ws
theorem W.Gv.keep{w w':World}{a:Option Addr}{ws:List W.ay}(h:W.Gv w a ws)(hb:Below w.heap.size w w'):W.Gv w' a ws:=by
 rcases h with h|⟨b,h1,h2,h3⟩;·exact Or.inl h
 exact Or.inr ⟨b,h1,Nat.lt_of_lt_of_le h2 hb.size,h3.keep h2 hb⟩
theorem W.Sl.gv{w:World}{a:Option Addr}{rs:List W.ay}{c B:Nat}(h:W.Sl w (ai a rs c) rs B):W.Gv w a rs:=by
 rcases h with⟨h,rfl⟩|⟨g,cap,h0,h1,h2,h3,h4⟩;·exact Or.inl rfl
 cases h0;exact Or.inr ⟨g,rfl,h2,h3⟩
def A.Gv(w:World)(a:Option Addr)(ws:List A.aC):Prop:=ws=[]\/∃b,a=some ⟨b,0,none⟩/\b<w.heap.size/\A.aG w b 0 ws
theorem A.Gv.keep{w w':World}{a:Option Addr}{ws:List A.aC}(h:A.Gv w a ws)(hb:Below w.heap.size w w'):A.Gv w' a ws:=by
 rcases h with h|⟨b,h1,h2,h3⟩;·exact Or.inl h
 exact Or.inr ⟨b,h1,Nat.lt_of_lt_of_le h2 hb.size,h3.keep h2 hb⟩
end Go.Proofs.YtlfnpjcjapljpaaGreatDoor
namespace Go.Proofs.YtlfnpjcjapljpaaGreatDoor.W
open Go.Proofs.Tryz Go.RowKit
set_option maxRecDepth 4000
set_option maxHeartbeats 2000000
set_option linter.unusedVariables false
theorem sE(P:ay->Bool)(b off cap:Nat)(rs:List ay)(w:World)(hR:aG w b off rs)(l1:b<w.heap.size)(hl:rs.length<=1048576)
  (hF:∀r∈rs,∀x,Below w.heap.size w x->Calls prog 158 #[.agg (aX r.c r.v r.h r.p r.s r.d r.g)] x fun e x'=>e=.returned (.bool (P r))/\Below x.heap.size x x'):
  Calls prog 157 #[.slice (some ⟨b,off,none⟩) rs.length cap,.func (.func 158) #[] #[]] w fun e w'=>(∃q:Bool,e=.returned (.bool q)/\(q=true↔∀r∈rs,P r=true))/\Below w.heap.size w w':=by
 have HF:=ah hF;clear hF;go_enter func157,ntmps157
 go_wp2
 go_loopw [9] (fun i wx=>∃(k:Nat),k<=rs.length/\i=.int .i64 k/\Hid (∀j r,j<k->rs[j]?=some r->P r=true)/\Below w.heap.size w wx) (fun i _=>rs.length-(intOf i).toNat)
 case atStart=>exact⟨0,Nat.zero_le _,rfl,fun j r h=>by omega,Below.refl _ _⟩
 case round=>
  obtain⟨k,hk,rfl,Ha,hB⟩:=hrel;by_cases hlt:k<rs.length
  ·
   obtain⟨r,hr⟩:∃r,rs[k]?=some r:=⟨rs[k],List.getElem?_eq_getElem hlt⟩
   have Hr:=ah hr;clear hr;obtain⟨c0,c1,c2,c3,c4,c5,c6⟩:=(hR.keep l1 hB).at Hr.out;go_wp2_with fail
   refine(HF.out r (List.mem_of_getElem? Hr.out) _ (ae hB _)).mono ?_;rintro e w1 ⟨rfl,hb⟩;have hB1:=af (ae hB _) hb;have Hb1:=ah hB1;clear hB hb hB1;cases hP:P r
   ·
    go_wp2
    go_ret
    exact⟨⟨false,rfl,⟨fun h=>(by cases h),fun h=>by have:=h r (List.mem_of_getElem? Hr.out);rw[hP]at this;cases this⟩⟩,Hb1.out⟩
   go_wp2
   exact⟨⟨k+1,by omega,by go_num,(fun j q hj hq=>by
    by_cases e:j=k;·subst e;have hh:=Hr.out;rw[hh]at hq;cases hq;exact hP
    exact Ha.out j q (by omega) hq),Hb1.out⟩,by simp[intOf];omega⟩
  go_wp2
  go_ret
  exact⟨⟨true,rfl,⟨fun _ r hr=>by obtain⟨j,hj⟩:=List.getElem?_of_mem hr;have hjl:j<rs.length:=(List.getElem?_eq_some_iff.1 hj).1;exact Ha.out j r (by omega) hj,fun _=>rfl⟩⟩,hB⟩
theorem cM(r:ay)(w:World):
  Calls prog 70 #[.agg (aX r.c r.v r.h r.p r.s r.d r.g)] w fun e w'=>e=.returned (.string r.c)/\Below w.heap.size w w':=by
 go_enter func70,ntmps70
 go_wp2
 go_ret
 exact⟨rfl,by repeat (first|exact bR|refine ae ?_ _)⟩
def fh(rs:List ay)(n:Nat):Prop:=∀j q r,j+1<n->rs[j]?=some q->rs[j+1]?=some r->Op.bytesLess q.c.toList r.c.toList=true
theorem fh.step{rs:List ay}{k:Nat}{q r:ay}(h:fh rs (k+1))(hq:rs[k]?=some q)(hr:rs[k+1]?=some r)(hs:Op.bytesLess q.c.toList r.c.toList=true):fh rs (k+1+1):=by
 intro j q' r' hj hq' hr';by_cases e:j=k;·subst e;rw[hq]at hq';rw[hr]at hr';cases hq';cases hr';exact hs
 exact h j q' r' (by omega) hq' hr'
theorem cY{x w':World}{b off m:Nat}{rs:List ay}{r q:ay}(hk:rs[m+1]?=some r)(hq:rs[m]?=some q)(h1:aG x b off rs)(l1:b<x.heap.size)(hb:Below x.heap.size x w'):
  Below x.heap.size x w'/\(vP w' b (off+(m+1)*7) r.c r.v r.h r.p r.s r.d r.g)/\(vP w' b (off+m*7) q.c q.v q.h q.p q.s q.d q.g):=⟨hb,(h1.keep l1 hb).at hk,(h1.keep l1 hb).at hq⟩
theorem iX(b off cap:Nat)(rs:List ay)(w:World)(hR:aG w b off rs)(l1:b<w.heap.size)(hl:rs.length<=1048576):
  Calls prog 159 #[.slice (some ⟨b,off,none⟩) rs.length cap,.func (.func 70) #[] #[]] w fun e w'=>(∃q:Bool,e=.returned (.bool q)/\(q=true↔fh rs rs.length))/\Below w.heap.size w w':=by
 go_enter func159,ntmps159
 go_wp2
 go_loopw [5] (fun i wx=>∃(m:Nat),m<=rs.length/\i=.int .i64 ((m:Int)+1)/\Hid (fh rs (m+1))/\Below w.heap.size w wx) (fun i _=>rs.length+1-(intOf i).toNat)
 case atStart=>exact⟨0,Nat.zero_le _,rfl,(fun j q r hj _ _=>by omega),Below.refl _ _⟩
 case round=>
  obtain⟨m,hk,rfl,Ha,hB⟩:=hrel;by_cases hlt:m+1<rs.length
  ·
   obtain⟨r,hr⟩:∃r,rs[m+1]?=some r:=⟨rs[m+1],List.getElem?_eq_getElem hlt⟩
   obtain⟨q,hq⟩:∃q,rs[m]?=some q:=⟨rs[m],List.getElem?_eq_getElem (by omega)⟩
   have Hr:=ah hr;have Hq:=ah hq;clear hr hq;have g1:=hR.keep l1 hB;have z1:b<wr.heap.size:=Nat.lt_of_lt_of_le l1 hB.size;have i0:(0:Int)<=(m:Int):=(by omega);have i1:(m:Int)+1<(rs.length:Int):=(by omega);have i2:(m:Int)<(rs.length:Int):=(by omega);have i3:(0:Int)<=(m:Int)+1:=(by omega);have iw:IntKind.i64.wrap (m:Int)=(m:Int):=(by rw[IntKind.wrap_i64];omega);cases hasc:Op.bytesLess q.c.toList r.c.toList
   ·
    go_wp2_with fail
    go_region_held3 (fun w'=>Below wr.heap.size wr w'/\(vP w' b (off+(m+1)*7) r.c r.v r.h r.p r.s r.d r.g)/\(vP w' b (off+m*7) q.c q.v q.h q.p q.s q.d q.g))
     (first|exact cY Hr.out Hq.out g1 z1 bD|exact cY Hr.out Hq.out g1 z1 (af bD hx)|exact cY Hr.out Hq.out g1 z1 (af (af bD hx) hy))
     (first|(go_at_call 70;refine(cM q _).mono ?_;rintro e w' ⟨rfl,hx⟩)|(go_at_call 70;refine(cM r _).mono ?_;rintro e w'' ⟨rfl,hy⟩))
    have y1:=af (af (au (Below.refl _ wr)) hx) hy;have Hb1:=ah (af hB y1);clear hx hy y1 hB g1;go_wp2
    go_ret
    exact⟨⟨false,rfl,⟨fun h=>(by cases h),fun h=>by have:=h m q r (by omega) Hq.out Hr.out;rw[hasc]at this;cases this⟩⟩,Hb1.out⟩
   go_wp2_with fail
   go_region_held3 (fun w'=>Below wr.heap.size wr w'/\(vP w' b (off+(m+1)*7) r.c r.v r.h r.p r.s r.d r.g)/\(vP w' b (off+m*7) q.c q.v q.h q.p q.s q.d q.g))
    (first|exact cY Hr.out Hq.out g1 z1 bD|exact cY Hr.out Hq.out g1 z1 (af bD hx)|exact cY Hr.out Hq.out g1 z1 (af (af bD hx) hy))
    (first|(go_at_call 70;refine(cM q _).mono ?_;rintro e w' ⟨rfl,hx⟩)|(go_at_call 70;refine(cM r _).mono ?_;rintro e w'' ⟨rfl,hy⟩))
   have y1:=af (af (au (Below.refl _ wr)) hx) hy;have Hb1:=ah (af hB y1);clear hx hy y1 hB g1;go_wp2
   exact⟨⟨m+1,by omega,by go_num,Ha.out.step Hq.out Hr.out hasc,Hb1.out⟩,by simp[intOf];omega⟩
  go_wp2
  go_ret
  exact⟨⟨true,rfl,⟨fun _ j q r hj hq hr=>Ha.out j q r (by omega) hq hr,fun _=>rfl⟩⟩,hB⟩
theorem jm{w w1:World}{o:Obj}(h:Below (w.alloc o).heap.size (w.alloc o) w1):w.heap.size<w1.heap.size:=by have:=h.size;simp at this;omega
theorem li(a:Option Addr)(n cap:Nat)(w:World):
  Calls prog 123 #[.slice a n cap] w fun e w'=>e=.returned (.bool (decide (n<=10)))/\w'=w:=by
 by_cases h:n<=10
 ·
  go_enter func123,ntmps123
  go_wp2
  go_ret
  exact⟨bu (by simp;omega),rfl⟩
 ·
  go_enter func123,ntmps123
  go_wp2
  go_ret
  exact⟨bu (by simp;omega),rfl⟩
theorem Bp(ws:List ay):Each ws ws.length↔∀r∈ws,r.ok=true:=by
 constructor
 ·
  intro h r hr;obtain⟨j,hj⟩:=List.getElem?_of_mem hr;exact h j r (List.getElem?_eq_some_iff.1 hj).1 hj
 intro h j r _ hr;exact h r (List.mem_of_getElem? hr)
theorem zY(b off cap:Nat)(ws:List ay)(w:World)(hR:aG w b off ws)(l1:b<w.heap.size)(hfit:∀r∈ws,r.fits)(hl:ws.length<=10):
  Calls prog 124 #[.slice (some ⟨b,off,none⟩) ws.length cap] w fun e w'=>(∃q:Bool,e=.returned (.bool q)/\(q=true↔Each ws ws.length))/\Below w.heap.size w w':=by
 go_enter func124,ntmps124
 go_wp2_with fail
 refine(sE (fun r=>r.ok) b off cap ws w hR l1 (by omega) (fun r hr x _=>de r.c r.h r.v r.p r.s r.d r.g x (hfit r hr).1 (hfit r hr).2)).mono ?_;rintro e w1 ⟨⟨q,rfl,h⟩,hb⟩;have H:=ah h;clear h;go_wp2
 go_ret
 exact⟨⟨q,rfl,by rw[Bp];exact H.out⟩,hb⟩
theorem tm(b off cap:Nat)(ws:List ay)(w:World)(hR:aG w b off ws)(l1:b<w.heap.size)(hl:ws.length<=10):
  Calls prog 125 #[.slice (some ⟨b,off,none⟩) ws.length cap] w fun e w'=>(∃q:Bool,e=.returned (.bool q)/\(q=true↔Asc ws ws.length))/\Below w.heap.size w w':=by
 go_enter func125,ntmps125
 go_wp2_with fail
 refine(iX b off cap ws w hR l1 (by omega)).mono ?_;rintro e w1 ⟨⟨q,rfl,h⟩,hb⟩;have H:=ah h;clear h;go_wp2
 go_ret
 exact⟨⟨q,rfl,H.out⟩,hb⟩
theorem xw(w:World):Sem.run prog (Instr.buildSlice 152 4 #[(0,.func (.func 123) #[] #[]),(1,.func (.func 124) #[] #[]),(2,.func (.func 125) #[] #[]),(3,.func (.func 126) #[] #[])]) w=.ok (.slice (some ⟨w.heap.size,0,none⟩) 4 4) (w.alloc (.cells #[.func (.func 123) #[] #[],.func (.func 124) #[] #[],.func (.func 125) #[] #[],.func (.func 126) #[] #[]] 70)):=by kernel_rfl
open Go.Maps Go.WideMaps
theorem kV:Keyed prog 9:=string_keyed underlying9
def EN(xs:List Value):Option (DataW ay×List MemPlace):=
 match xs with
 |[.string c',.int .i64 v',.string h',.int .i64 p',.int .i64 s',.int .i64 d',.int .i64 g']=>some (.held ⟨c',h',v',p',s',d',g'⟩,[])
 |_=>none
def RV(v:Value):Option (DataW ay×List MemPlace):=
 match v with
 |.agg xs=>EN xs.toList
 |_=>none
theorem gI{v:Value}{r:ay}{ps:List MemPlace}(h:RV v=some (.held r,ps)):v=.agg #[.string r.c,.int .i64 r.v,.string r.h,.int .i64 r.p,.int .i64 r.s,.int .i64 r.d,.int .i64 r.g]:=by
 unfold RV at h;split at h
 ·
  rename_i xs;obtain⟨l⟩:=xs;simp only at h;unfold EN at h;split at h
  ·
   simp only[Option.some.injEq,Prod.mk.injEq,DataW.held.injEq]at h;obtain⟨rfl,-⟩:=h;rfl
  cases h
 cases h
def aM(r:ay):List UInt8:=r.c.data.toList
def dec(rs:List ay):DataW ay:=Ord.dec aM rs
def dx(rs:List ay):Prop:=Ord.dx aM rs
theorem fT{rs:List ay}(h:fh rs rs.length):dx rs:=
 Ord.vq aM rs (fun j q r hq hr=>by have h1:=h j q r (by have:=(List.getElem?_eq_some_iff.1 hr).1;omega) hq hr;rw[Ord.dD,ByteArray.toList_eq,ByteArray.toList_eq]at h1;exact h1)
theorem aS{x y:World}{b n:Nat}{D:DataW ay}(h:x.ownsMap prog 9 RV b n D)(hb:Below x.heap.size x y):y.ownsMap prog 9 RV b n D:=
 h.kept (row:=none) ⟨hb.os,hb.tape,hb.output,hb.size,fun k hk _=>hb.block k hk⟩ (by simp)
theorem eD{w:World}(b n:Nat)(rs:List ay)(r:ay)(hown:w.ownsMap prog 9 RV b n (dec rs))(hn:n<maxLen)(hs:r.c.size<=maxLen):
  ∃w',Sem.run prog (Instr.mapUpdate 102 (.map (some b)) (.string r.c) (.agg #[.string r.c,.int .i64 r.v,.string r.h,.int .i64 r.p,.int .i64 r.s,.int .i64 r.d,.int .i64 r.g])) w=.ok () w'/\w'.ownsMap prog 9 RV b (n+1) (dec (Ord.ins aM r rs))/\w.grownBy w' (some b):=by
 have h:=hown.update kV (t:=102) (e:=37) underlying102 hn (keyOf_string_mk underlying9 hs) (val:=.agg #[.string r.c,.int .i64 r.v,.string r.h,.int .i64 r.p,.int .i64 r.s,.int .i64 r.d,.int .i64 r.g]) (d:=.held r) (ps:=[]) rfl;have e:(dec rs).put (Lit.string r.c.data.toList) (.held r)=dec (Ord.ins aM r rs):=Ord.sa aM r rs;rw[e]at h;exact h
theorem nS{wr w':World}{r:ay}(hb:Below (wr.alloc (.cells #[.string r.c,.int .i64 r.v,.string r.h,.int .i64 r.p,.int .i64 r.s,.int .i64 r.d,.int .i64 r.g] 37)).heap.size (wr.alloc (.cells #[.string r.c,.int .i64 r.v,.string r.h,.int .i64 r.p,.int .i64 r.s,.int .i64 r.d,.int .i64 r.g] 37)) w'):w'.cell? ⟨wr.heap.size,0,none⟩=some (.string r.c)/\w'.cell? ⟨wr.heap.size,1,none⟩=some (.int .i64 r.v)/\w'.cell? ⟨wr.heap.size,2,none⟩=some (.string r.h)/\w'.cell? ⟨wr.heap.size,3,none⟩=some (.int .i64 r.p)/\w'.cell? ⟨wr.heap.size,4,none⟩=some (.int .i64 r.s)/\w'.cell? ⟨wr.heap.size,5,none⟩=some (.int .i64 r.d)/\w'.cell? ⟨wr.heap.size,6,none⟩=some (.int .i64 r.g):=by have hk:=aJ hb;exact⟨by rw[hk 0];simp[go_sem],by rw[hk 1];simp[go_sem],by rw[hk 2];simp[go_sem],by rw[hk 3];simp[go_sem],by rw[hk 4];simp[go_sem],by rw[hk 5];simp[go_sem],by rw[hk 6];simp[go_sem]⟩
theorem gK{wr w' w2:World}{r:ay}{B:Nat}(h:w'.cell? ⟨wr.heap.size,0,none⟩=some (.string r.c)/\w'.cell? ⟨wr.heap.size,1,none⟩=some (.int .i64 r.v)/\w'.cell? ⟨wr.heap.size,2,none⟩=some (.string r.h)/\w'.cell? ⟨wr.heap.size,3,none⟩=some (.int .i64 r.p)/\w'.cell? ⟨wr.heap.size,4,none⟩=some (.int .i64 r.s)/\w'.cell? ⟨wr.heap.size,5,none⟩=some (.int .i64 r.d)/\w'.cell? ⟨wr.heap.size,6,none⟩=some (.int .i64 r.g))(hg:w'.grownBy w2 (some B))(hne:wr.heap.size≠B):w2.cell? ⟨wr.heap.size,0,none⟩=some (.string r.c)/\w2.cell? ⟨wr.heap.size,1,none⟩=some (.int .i64 r.v)/\w2.cell? ⟨wr.heap.size,2,none⟩=some (.string r.h)/\w2.cell? ⟨wr.heap.size,3,none⟩=some (.int .i64 r.p)/\w2.cell? ⟨wr.heap.size,4,none⟩=some (.int .i64 r.s)/\w2.cell? ⟨wr.heap.size,5,none⟩=some (.int .i64 r.d)/\w2.cell? ⟨wr.heap.size,6,none⟩=some (.int .i64 r.g):=
 ⟨hg.cell h.1 (by simpa using hne),hg.cell h.2.1 (by simpa using hne),hg.cell h.2.2.1 (by simpa using hne),hg.cell h.2.2.2.1 (by simpa using hne),hg.cell h.2.2.2.2.1 (by simpa using hne),hg.cell h.2.2.2.2.2.1 (by simpa using hne),hg.cell h.2.2.2.2.2.2 (by simpa using hne)⟩
theorem eQ(n:Nat)(w:World):Sem.run prog (Instr.makeMap 102 (some (.int .i64 (n:Int)))) w=.ok (.map (some w.heap.size)) (w.alloc (.map #[] 0)):=by kernel_rfl
theorem kW(b off cap:Nat)(rs:List ay)(w:World)(hR:aG w b off rs)(l1:b<w.heap.size)(hfit:∀r∈rs,r.c.size<=maxLen)(hl:rs.length<=1048576)(hs:dx rs):
  Calls prog 69 #[.slice (some ⟨b,off,none⟩) rs.length cap,.func (.func 70) #[] #[]] w fun e w'=>e=.returned (.map (some w.heap.size))/\w'.ownsMap prog 9 RV w.heap.size rs.length (dec rs)/\Below w.heap.size w w':=by
 have hmm:=eQ rs.length;have HS:=ah hs;clear hs;go_enter func69,ntmps69
 go_wp2
 clear hmm
 go_loopw [13] (fun i wx=>∃(k:Nat),k<=rs.length/\i=.int .i64 k/\Hid (wx.ownsMap prog 9 RV w.heap.size k (dec (rs.take k)))/\Below w.heap.size w wx) (fun i _=>rs.length-(intOf i).toNat)
 case atStart=>exact⟨0,Nat.zero_le _,rfl,World.ownsMap_made _ _ _ _,ae bR _⟩
 case round=>
  obtain⟨k,hk,rfl,Ho,hB⟩:=hrel;by_cases hlt:k<rs.length
  ·
   obtain⟨r,hr⟩:∃r,rs[k]?=some r:=⟨rs[k],List.getElem?_eq_getElem hlt⟩
   have Hr:=ah hr;have hf1:=hfit r (List.mem_of_getElem? hr);obtain⟨c0,c1,c2,c3,c4,c5,c6⟩:=(hR.keep l1 hB).at hr;clear hr;have hne:wr.heap.size≠w.heap.size:=(by have:=Ho.out.lt;omega);go_wp2_with fail
   go_region_held3 (fun w'=>w'.cell? ⟨wr.heap.size,0,none⟩=some (.string r.c)/\w'.cell? ⟨wr.heap.size,1,none⟩=some (.int .i64 r.v)/\w'.cell? ⟨wr.heap.size,2,none⟩=some (.string r.h)/\w'.cell? ⟨wr.heap.size,3,none⟩=some (.int .i64 r.p)/\w'.cell? ⟨wr.heap.size,4,none⟩=some (.int .i64 r.s)/\w'.cell? ⟨wr.heap.size,5,none⟩=some (.int .i64 r.d)/\w'.cell? ⟨wr.heap.size,6,none⟩=some (.int .i64 r.g))
    (first|exact nS bD|exact nS (af bD hx)|exact gK (nS (af bD hx)) hg2 hne)
    (first|(go_at_call 70;refine(cM r _).mono ?_;rintro e w' ⟨rfl,hx⟩)|(have hms:=eD w.heap.size k (rs.take k) r (aS (aS Ho.out (au (ae bR _))) hx) (by unfold maxLen;omega) hf1;obtain⟨w2,hrun,ho2,hg2⟩:=hms;go_simp))
   have y1:=af (af hB (ae (Below.refl _ wr) _)) (af bD hx);have Y2:Hid (Below w.heap.size w w2):=Below.grown y1 hg2 y1.size (fun j hj=>by cases hj;exact Nat.le_refl _);have O2:Hid (w2.ownsMap prog 9 RV w.heap.size (k+1) (dec (rs.take (k+1)))):=(by show World.ownsMap _ _ _ _ _ _ _;rw[<-Ord.mj aM HS.out Hr.out];exact ho2);clear y1 hx hg2 ho2 hrun;go_wp2
   exact⟨⟨k+1,by omega,by go_num,O2.out,Y2.out⟩,by simp[intOf];omega⟩
  go_wp2
  go_ret
  have e:k=rs.length:=by omega
  subst e;rw[List.take_of_length_le (Nat.le_refl _)]at Ho;exact⟨rfl,Ho.out,hB⟩
theorem zeroV(w:World):(zeroValue 37).run prog w=.ok (.agg #[.string ⟨#[]⟩,.int .i64 0,.string ⟨#[]⟩,.int .i64 0,.int .i64 0,.int .i64 0,.int .i64 0]) w:=by kernel_rfl
theorem mM{w:World}(b n:Nat)(rs:List ay)(hown:w.ownsMap prog 9 RV b n (dec rs))(hs:dx rs)(s:ByteArray)(hz:s.size<=maxLen):
  (∃r∈rs,r.c=s/\Sem.run prog (Instr.lookup 102 (.map (some b)) (.string s) true) w=.ok (.tuple #[.agg #[.string r.c,.int .i64 r.v,.string r.h,.int .i64 r.p,.int .i64 r.s,.int .i64 r.d,.int .i64 r.g],.bool true]) w)\/((∀r∈rs,r.c≠s)/\Sem.run prog (Instr.lookup 102 (.map (some b)) (.string s) true) w=.ok (.tuple #[.agg #[.string ⟨#[]⟩,.int .i64 0,.string ⟨#[]⟩,.int .i64 0,.int .i64 0,.int .i64 0,.int .i64 0],.bool false]) w):=by
 obtain⟨v,ps,hrun,hv⟩:=hown.look_ok kV (t:=102) (e:=37) underlying102 (zeroV w) (zd:=.held ⟨⟨#[]⟩,⟨#[]⟩,0,0,0,0,0⟩) (zp:=[]) rfl (keyOf_string_mk underlying9 hz);have hh:has (dec rs) (Lit.string s.data.toList)=rs.any (fun y=>aM y==s.data.toList):=Ord.mW aM _ rs;rw[hh]at hrun;cases ha:rs.any (fun y=>aM y==s.data.toList)
 ·
  right;refine⟨fun r hr e=>?_,?_⟩
  ·
   have:=List.any_eq_false.1 ha r hr;rw[<-e]at this;simp[aM]at this
  rw[show(dec rs).atKey (Lit.string s.data.toList) (.held ⟨⟨#[]⟩,⟨#[]⟩,0,0,0,0,0⟩)=.held ⟨⟨#[]⟩,⟨#[]⟩,0,0,0,0,0⟩ from Ord.nU aM ha _]at hv;rw[gI hv,ha]at hrun;exact hrun
 ·
  left;obtain⟨r,hr,he⟩:=List.any_eq_true.1 ha;have e1:r.c.data.toList=s.data.toList:=by simpa[aM]using he
  have e2:r.c=s:=Ord.nj e1;refine⟨r,hr,e2,?_⟩;rw[show Lit.string s.data.toList=Lit.string (aM r) from by rw[<-e1];rfl,show(dec rs).atKey (Lit.string (aM r)) (.held ⟨⟨#[]⟩,⟨#[]⟩,0,0,0,0,0⟩)=.held r from Ord.mg aM hs hr _]at hv;rw[gI hv,ha]at hrun;exact hrun
def fW:Prop:=∀(mb:Option Nat)(Wo:World),Calls prog 117 #[.map mb] Wo fun e w'=>e=.returned (.func (.func 154) #[] #[.pointer (some ⟨Wo.heap.size,0,none⟩)])/\w'=Wo.alloc (.cells #[.map mb] 102)
def eF:Prop:=∀(b nn:Nat)(rs:List ay)(w:World),w.ownsMap prog 9 RV b nn (dec rs)->rs.length<=1048576 ->
 Calls prog 116 #[.func (.func 154) #[] #[.pointer (some ⟨w.heap.size,0,none⟩)]] (w.alloc (.cells #[.map (some b)] 102)) fun e w'=>∃(v:Value)(ss:List (List UInt8)),e=.returned v/\ss.Perm (strKeys (dec rs)) /\
  w'.ownsRow (w.alloc (.cells #[.map (some b)] 102)).heap.size 9 1 v ss.length ((ss.mergeSort (fun x y=>decide (x<=y))).map encStr)/\Below (w.alloc (.cells #[.map (some b)] 102)).heap.size (w.alloc (.cells #[.map (some b)] 102)) w'
theorem Ll{w:World}(b n:Nat)(rs:List ay)(hown:w.ownsMap prog 9 RV b n (dec rs))(hs:dx rs)(r:ay)(hr:r∈rs)(hz:r.c.size<=maxLen):
  Sem.run prog (Instr.lookup 102 (.map (some b)) (.string r.c) false) w=.ok (.agg (aX r.c r.v r.h r.p r.s r.d r.g)) w:=by
 obtain⟨v,ps,hrun,hv⟩:=hown.lookup kV (t:=102) (e:=37) underlying102 (zeroV w) (zd:=.held ⟨⟨#[]⟩,⟨#[]⟩,0,0,0,0,0⟩) (zp:=[]) rfl (keyOf_string_mk underlying9 hz);rw[show Lit.string r.c.data.toList=Lit.string (aM r) from rfl,show(dec rs).atKey (Lit.string (aM r)) (.held ⟨⟨#[]⟩,⟨#[]⟩,0,0,0,0,0⟩)=.held r from Ord.mg aM hs hr _]at hv;rw[gI hv]at hrun;exact hrun
theorem lu(r:ay):encStr (aM r)=Value.string r.c:=by show Value.string ⟨r.c.data.toList.toArray⟩=_;rw[Array.toArray_toList]
theorem nP{w:World}{v:Value}{l:List ay}{B B':Nat}(h:Sl w v l B)(hB:B'<=B):Sl w v l B':=by
 rcases h with h|⟨g,cap,h0,h1,h2,h3,h4⟩;·exact Or.inl h
 exact Or.inr ⟨g,cap,h0,Nat.le_trans hB h1,h2,h3,h4⟩
theorem gJ{rs:List ay}{k:Nat}{r:ay}(hr:rs[k]?=some r):aA (rs.take (k+1))=aA (rs.take k)++r.cells:=by
 have hlt:k<rs.length:=(List.getElem?_eq_some_iff.1 hr).1;have he:rs[k]=r:=by rw[List.getElem?_eq_getElem hlt]at hr;exact Option.some.inj hr
 rw[List.take_succ_eq_append_getElem hlt,he];simp[aA]
theorem sF(hK:fW)(hS:eF)(b nn:Nat)(rs:List ay)(w:World)(hown:w.ownsMap prog 9 RV b nn (dec rs))(hs:dx rs)(hfit:∀r∈rs,r.c.size<=maxLen)(hl:rs.length<=1048576):
  Calls prog 79 #[.map (some b)] w fun e w'=>(∃v,e=.returned v/\Sl w' v rs w.heap.size/\gU v)/\Below w.heap.size w w':=by
 have HO:=ah hown;have HS:=ah hs;have cK:=ah hK;have cS:=ah hS;have HF:=ah hfit;clear hown hs hK hS hfit;obtain⟨i0,hi,hz0,hz1,hz2⟩:=info_parts cE;go_enter func79,ntmps79
 go_wp2_with fail
 refine mr (cK.out _ _) ?_;go_wp2_with fail
 refine(cS.out b nn rs _ HO.out hl).mono ?_;rintro e w1 ⟨v,ss,rfl,hp,hrow,hb⟩;have hlen:ss.length=rs.length:=by rw[hp.length_eq,show strKeys (dec rs)=rs.map aM from Ord.lx aM rs,List.length_map]
 rw[Ord.jC aM HS.out hp,hlen]at hrow;have B1:Hid (Below w.heap.size w w1):=af (ae bR _) hb;have O1:=ah (aS HO.out B1.out);obtain⟨a,c,rfl⟩:=mh hrow;have Ar:Hid (nQ w1 a (rs.map (fun r=>r.c))):=vp (by rw[List.length_map,List.map_map];rw[List.map_map,show(encStr ∘ aM)=((fun x=>Value.string x) ∘ fun r:ay=>r.c) from funext lu]at hrow;exact hrow);clear hrow hp hb hlen;go_wp2_with fail
 go_loopw [3,10] (fun v i wx=>∃(k:Nat),k<=rs.length/\i=.int .i64 k/\wx.ownsRow w1.heap.size 37 7 v k (aA (rs.take k))/\Hid (Below w1.heap.size w1 wx)) (fun _ i _=>rs.length-(intOf i).toNat)
 case atStart=>exact⟨0,Nat.zero_le _,rfl,World.ownsRow_nil _ _ _ _,Below.refl _ _⟩
 case round=>
  obtain⟨k,hk,rfl,hown,HB⟩:=hrel;by_cases hlt:k<rs.length
  ·
   obtain⟨r,hr⟩:∃r,rs[k]?=some r:=⟨rs[k],List.getElem?_eq_getElem hlt⟩
   have Hr:=ah hr;obtain⟨g,rfl,hg,hc⟩:=(Ar.out.keep HB.out).resolve_left (fun h=>by rw[List.map_eq_nil_iff]at h;rw[h]at hlt;simp at hlt);have c0:=hc k r.c (by rw[List.getElem?_map,hr];rfl);have hlk:=Ll b nn rs (aS O1.out HB.out) HS.out r (List.mem_of_getElem? hr) (HF.out r (List.mem_of_getElem? hr));obtain⟨xs,hxs⟩:∃xs,xs=aA (rs.take k):=⟨_,rfl⟩
   rw[<-hxs]at hown;have Ho:=ah hown;have Hx:=ah hxs;have IW:=HB.out.size;have i1:(k:Int)<(rs.length:Int):=(by omega);clear hr hown hxs hc;go_wp2_with (at_builtin;refine wpList_append_own _ rfl _ _ 23 rfl w1.heap.size 37 i0 _ 7 72 underlying23 hi hz0 hz1 hz2 rfl (by decide) _ k _ rfl (by exact aN Ho.out (by repeat (first|exact bR|refine ae ?_ _))) ⟨_,0,none⟩ 1 1 r.cells rfl rfl (bG _ _ (by simp) _ _ _ rfl) (aU _) (by unfold maxLen;omega) (by omega) (by simp;omega) ?_;intro v' w2 ho2 hg2 hn2)
   refine⟨⟨k+1,by omega,by go_num,?_,Below.grown (by repeat (first|exact HB.out|refine ae ?_ _)) hg2 (by simp;omega) (br Ho.out)⟩,by simp[intOf];omega⟩;rw[gJ Hr.out,<-Hx.out];exact ho2
  go_wp2
  go_ret
  have hk':k=rs.length:=by omega
  subst hk';rw[List.take_of_length_le (Nat.le_refl _)]at hown;exact⟨⟨_,rfl,nP (Sl.bE hown) B1.out.size,iy hown⟩,af B1.out HB.out⟩
theorem eX(hK:fW)(hS:eF)(b nn:Nat)(rs:List ay)(w:World)(hown:w.ownsMap prog 9 RV b nn (dec rs))(hs:dx rs)(hfit:∀r∈rs,r.c.size<=maxLen)(hl:rs.length<=1048576):
  Calls prog 79 #[.map (some b)] w fun e w'=>(∃v,e=.returned v/\Sl w' v rs w.heap.size)/\Below w.heap.size w w':=
 (sF hK hS b nn rs w hown hs hfit hl).mono (by rintro e w' ⟨⟨v,h1,h2,-⟩,h3⟩;exact⟨⟨v,h1,h2⟩,h3⟩)
end Go.Proofs.YtlfnpjcjapljpaaGreatDoor.W
namespace Go.Proofs.YtlfnpjcjapljpaaGreatDoor
open Go.Proofs.Tryz Go.RowKit
set_option linter.unusedVariables false
theorem bF{c:Bool}{p q:Prop}(h:c=true)(hp:p):if c=true then p else q:=by rw[if_pos h];exact hp
theorem fy(w:World)(o:Obj):(w.alloc o).heap[w.heap.size]?=some o:=by show(w.heap.push o)[w.heap.size]?=some o;simp
theorem pT{w:World}{o:Obj}{g:Nat}{u:Obj}(h:w.heap[g]?=some u):(w.alloc o).heap[g]?=some u:=by have:=(Array.getElem?_eq_some_iff.1 h).1;rw[(ae (Below.refl _ w) o).block g this];exact h
theorem oa{w:World}{B B' size n:Nat}{e:TypeId}{v:Value}{xs:List Value}(h:w.ownsRow B e size v n xs)(hB:B'<=B):w.ownsRow B' e size v n xs:=
 ⟨h.1,h.2.imp id (fun⟨g,cap,cur,h1,h2,h3,h4⟩=>⟨g,cap,cur,h1,Nat.le_trans hB h2,h3,h4⟩)⟩
theorem eM{k:Nat}{w w':World}(h:Below k w w'){n:Nat}:Below k w (w'.drewN n):=⟨h.os,h.tape,h.output,h.size,h.block⟩
theorem addr_add(g o n:Nat):(⟨g,o,none⟩:Addr).add n=⟨g,o+n,none⟩:=by
 unfold Addr.add;split
 ·subst_vars;rfl
 rfl
structure El(t e:TypeId)(z bz:Nat):Prop where
 ex:∃(i:TypeInfo)(zr:Value),prog.underlying t=some (.slice e)/\prog.info? e=some i/\i.zero=some zr/\i.size=z/\i.bytes=bz/\zr.cells.size=z
 pos:0<z
 few:bz<=1000
 un:prog.underlying t=some (.slice (prog.elem t))
 sz:∀w,(sizeOf (prog.elem t)).run prog w=.ok z w
def uF(w:World)(v:Value)(n:Nat)(xs:List Value):Prop:=∃a c,v=.slice a n c/\((a=none/\c=0/\n=0/\xs=[])\/∃g o:Nat,a=some ⟨g,o,none⟩/\g<w.heap.size/\∀j u,xs[j]?=some u->w.cell? ⟨g,o+j,none⟩=some u)
theorem uF.keep{w w':World}{v:Value}{n:Nat}{xs:List Value}(h:uF w v n xs)(hb:Below w.heap.size w w'):uF w' v n xs:=by
 obtain⟨a,c,h1,h⟩:=h;refine⟨a,c,h1,?_⟩;rcases h with h|⟨g,o,h2,h3,h4⟩;·exact Or.inl h
 exact Or.inr ⟨g,o,h2,Nat.lt_of_lt_of_le h3 hb.size,fun j u hj=>(hb.cell (p:=⟨g,o+j,none⟩) h3).trans (h4 j u hj)⟩
theorem pU{w:World}{B z n p:Nat}{e:TypeId}{g o:Nat}{xs:List Value}(h:w.ownsRow B e z (.slice (some ⟨g,o,none⟩) n p) n xs):o=0/\g<w.heap.size/\∀j u,xs[j]?=some u->w.cell? ⟨g,j,none⟩=some u:=by
 obtain⟨hl,⟨h1,-⟩|⟨g',cap,cur,h1,hb,hg,hnc,hcm,hcs,htk⟩⟩:=h;·cases h1
 cases h1;refine⟨rfl,(Array.getElem?_eq_some_iff.1 hg).1,fun j u hj=>?_⟩;rw[<-htk,List.getElem?_take]at hj;split at hj
 ·
  rw[cell_of_row w g _ cur _ (0,0) hg];simpa using hj
 cases hj
theorem gd{w:World}{B z n p:Nat}{e:TypeId}{a:Option Addr}{xs:List Value}(h:w.ownsRow B e z (.slice a n p) n xs):n<=p/\xs.length=n*z/\(a=none->n=0/\p=0/\xs=[])/\∀d,a=some d->∃g,d=⟨g,0,none⟩:=by
 obtain⟨hl,⟨h1,hn⟩|⟨g',cap,cur,h1,hb,hg,hnc,hcm,hcs,htk⟩⟩:=h
 ·
  cases h1;exact⟨Nat.le_refl _,hl,fun _=>⟨rfl,rfl,List.length_eq_zero_iff.1 (by rw[hl];simp)⟩,fun d hd=>by cases hd⟩
 cases h1;exact⟨hnc,hl,fun h=>(by cases h),fun d hd=>⟨g',by cases hd;rfl⟩⟩
theorem Ax{w:World}{B z n:Nat}{e:TypeId}{v:Value}{xs:List Value}(h:w.ownsRow B e z v n xs):uF w v n xs:=by
 obtain⟨hl,⟨rfl,rfl⟩|⟨g',cap,cur,rfl,hb,hg,hnc,hcm,hcs,htk⟩⟩:=id h;·exact⟨none,0,rfl,Or.inl ⟨rfl,rfl,rfl,List.length_eq_zero_iff.1 (by rw[hl];simp)⟩⟩
 obtain⟨-,h2,h3⟩:=pU h;exact⟨_,_,rfl,Or.inr ⟨g',0,rfl,h2,fun j u hj=>by rw[Nat.zero_add];exact h3 j u hj⟩⟩
theorem El.to{t e:TypeId}{z bz:Nat}(E:El t e z bz){w:World}{a:Option Addr}{n p B k:Nat}{xs:List Value}(h:w.ownsRow B e z (.slice a n p) n xs)(hk:k<=n):uF w (sliced a 0 k p z) k (xs.take (k*z)):=by
 obtain⟨hc,hl,hn,hs⟩:=gd h;unfold sliced;cases a with
 |none=>
  obtain⟨rfl,rfl,rfl⟩:=hn rfl;have:k=0:=by omega
  subst this;exact⟨none,0,rfl,Or.inl ⟨rfl,rfl,rfl,by simp⟩⟩
 |some d=>
  obtain⟨g,rfl⟩:=hs d rfl;obtain⟨-,hg,hx⟩:=pU h;refine⟨some ⟨g,0,none⟩,p-0,?_,Or.inr ⟨g,0,rfl,hg,fun j u hj=>?_⟩⟩
  ·
   rw[show k-0=k from rfl];split
   ·rfl
   rw[Option.map_some,addr_add,Nat.zero_mul]
  rw[Nat.zero_add];rw[List.getElem?_take]at hj;split at hj
  ·exact hx j u hj
  cases hj
theorem uF.Lr{w:World}{a:Option Addr}{n p k z:Nat}{xs:List Value}(h:uF w (.slice a n p) n xs)(hp:n<=p)(hl:xs.length=n*z)(hk:k<=n):uF w (sliced a k n p z) (n-k) (xs.drop (k*z)):=by
 obtain⟨a',p',e,h⟩:=h;injection e with e1 e2 e3;subst e1 e3;unfold sliced;rcases h with⟨rfl,rfl,rfl,rfl⟩|⟨g,o,rfl,hg,hx⟩
 ·
  have:k=0:=by omega
  subst this;exact⟨none,0,rfl,Or.inl ⟨rfl,rfl,rfl,by simp⟩⟩
 by_cases e:p=k
 ·
  rw[if_pos e];exact⟨_,_,rfl,Or.inr ⟨g,o,rfl,hg,fun j u hj=>by rw[List.drop_of_length_le (by rw[hl];exact Nat.mul_le_mul_right z (by omega))]at hj;simp at hj⟩⟩
 rw[if_neg e,Option.map_some,addr_add];refine⟨_,_,rfl,Or.inr ⟨g,o+k*z,rfl,hg,fun j u hj=>?_⟩⟩;rw[List.getElem?_drop]at hj;rw[Nat.add_assoc];exact hx _ u hj
theorem El.Lr{t e:TypeId}{z bz:Nat}(E:El t e z bz){w:World}{a:Option Addr}{n p B k:Nat}{xs:List Value}(h:w.ownsRow B e z (.slice a n p) n xs)(hk:k<=n):uF w (sliced a k n p z) (n-k) (xs.drop (k*z)):=
 (Ax h).Lr (gd h).1 (gd h).2.1 hk
theorem El.sd{t e:TypeId}{z bz:Nat}(E:El t e z bz)(a:Option Addr)(n p k:Nat)(hk:k<=n)(wx:World):Sem.run prog (Instr.slice t (.slice a n p) (some (.int .i64 (k:Int))) none none) wx=.ok (sliced a k n p z) wx:=by rw[run_slice_l wx t a n p E.un .i64 (k:Int) (by omega) (by omega),E.sz];rfl
theorem El.Ay{t e:TypeId}{z bz:Nat}(E:El t e z bz)(a:Option Addr)(n p k:Nat)(hk:k<=p)(wx:World):Sem.run prog (Instr.slice t (.slice a n p) none (some (.int .i64 (k:Int))) none) wx=.ok (sliced a 0 k p z) wx:=by rw[run_slice_h wx t a n p E.un .i64 (k:Int) (by omega) (by omega),E.sz];rfl
theorem El.app{t e:TypeId}{z bz:Nat}(E:El t e z bz){o:Oper}{a:Act}{Y:World}{K:Act->World->Prop}{Q:Exit->Act->World->Prop}(B:Nat)(s x:Operand)
  (ho:o.op=.call {callee:=.builtin .append,args:=#[s,x],argTypes:=#[t,t]}) (v vx:Value) (n m:Nat) (xs ys:List Value)
  (hs:a.eval s=v) (hown:Y.ownsRow B e z v n xs) (hB:B<=Y.heap.size) (hx:a.eval x=vx) (hr:uF Y vx m ys) (hy:ys.length=m*z) (h1:∀u∈ys,u.oneCell'=true) (hl:n+m<=1048576)
  (h:∀(s':Value)(w':World),w'.ownsRow B e z s' (n+m) (xs++ys)->Y.grownBy w' v.ownBlock->(s'.ownBlock=v.ownBlock\/s'.ownBlock=some Y.heap.size)->K (a.put o.dst s') w'):o.wp prog a Y K Q:=by
 obtain⟨i0,zr,ht,hi,hz0,hz1,hz2,hz3⟩:=E.ex;obtain⟨ax,c,rfl,hr⟩:=hr;have hbz:(n+m)*bz<=140737488355328:=Nat.le_trans (Nat.mul_le_mul hl E.few) (by decide);rcases hr with⟨rfl,rfl,rfl,rfl⟩|⟨g,off,rfl,hg,hc⟩
 ·
  have hrun:=run_append_owned_none (P:=prog) (w:=Y) B t o.type e i0 z ht hi v n _ hown;have hx':a.eval x=.slice none 0 0:=hx;unfold Oper.wp;simp[execOp,ho,resolve,invoke,builtin,hs,hx',hrun,Result.andThen];exact h v Y (by simpa using hown) ⟨rfl,rfl,rfl,Nat.le_refl _,fun _ _ _=>rfl⟩ (Or.inl rfl)
 ·exact kR s x t ho B e i0 zr z bz ht hi hz0 hz1 hz2 hz3 E.pos v n _ hs hown ⟨g,off,none⟩ m c ys hx hy (fun j u hj=>by rw[addr_add];exact hc j u hj) h1 (by unfold maxLen;omega) hbz hB h
theorem jP{w:World}{g n:Nat}{C:Array Value}{t:TypeId}(h:w.heap[g]?=some (.cells C t (0,0))):uF w (.slice (some ⟨g,0,none⟩) n n) n C.toList:=
 ⟨_,n,rfl,Or.inr ⟨g,0,rfl,(Array.getElem?_eq_some_iff.1 h).1,fun j u hj=>by have:=wE h j u hj;rw[addr_add]at this;exact this⟩⟩
theorem uz:El 25 64 4 48:=by obtain⟨i0,hi,hz0,hz1,hz2⟩:=info_parts A.cE;exact⟨⟨i0,_,underlying25,hi,hz0,hz1,hz2,rfl⟩,by decide,by decide,by kernel_rfl,fun w=>by kernel_rfl⟩
theorem xR:El 24 39 11 104:=by obtain⟨i0,hi,hz0,hz1,hz2⟩:=info_parts cE;exact⟨⟨i0,_,underlying24,hi,hz0,hz1,hz2,rfl⟩,by decide,by decide,by kernel_rfl,fun w=>by kernel_rfl⟩
end Go.Proofs.YtlfnpjcjapljpaaGreatDoor
