import Derived.Test.YtcjhlhijdacinaaGreatDoorRows
import Derived.OrdersHeld
import Derived.WalkKit
import Derived.WalkSpells
import Derived.WalkLawsBesides
import Derived.Below
import Derived.Outline
import Derived.Deep.MidRow
import Derived.Deep.RegionHeld3
import Derived.Laws.Pointers
import Derived.StillTactics
import Derived.Maps.OwnSet
import Derived.Sort.KeysCollected
import Derived.Laws.AppendOwn
namespace Go.Proofs.YtcjhlhijdacinaaGreatDoor
open Go.RowKit
theorem bl_alloc {w w':World} (h:Below w.heap.size w w') (o:Obj):Below w.heap.size w (w'.alloc o):=h.alloc h.size o
theorem bl_drew {w w':World} (h:Below w.heap.size w w'):Below w.heap.size w w'.drew:=h.drew
theorem bl_trans {w w1 w2:World} (h:Below w.heap.size w w1) (k:Below w1.heap.size w1 w2):Below w.heap.size w w2:=h.trans (k.mono h.size)
theorem bl_set {w w':World} (h:Below w.heap.size w w') {p:Addr} (hp:w.heap.size≤p.block) (u:Value):Below w.heap.size w (w'.setCell p u):=h.setCell hp u
theorem box_keep {w w1:World} {o:Obj} (h:Below (w.alloc o).heap.size (w.alloc o) w1):∀ k,w1.cell? ⟨w.heap.size,k,none⟩=(w.alloc o).cell? ⟨w.heap.size,k,none⟩ :=
 fun k=>h.cell (p:=⟨w.heap.size,k,none⟩) (by simp)
theorem sp:(∀ (a:Act) (d:Nat) (v:Value),a.put (some d) v=⟨a.tmps.setIfInBounds d v,a.defers⟩)∧(∀ (a:Act) (v:Value),a.put none v=a)∧(∀ (α:Type) (l:List α) (i:Nat) (x:α),l.toArray.setIfInBounds i x=(l.set i x).toArray)∧(∀ (α:Type) (x y:α) (l:List α),(x :: l).set 0 y=y :: l)∧(∀ (α:Type) (x y:α) (l:List α) (n:Nat),(x :: l).set (n+1) y=x :: l.set n y)∧(∀ (α:Type) (l:List α) (i:Nat) (h:i < l.toArray.size),l.toArray[i]=l[i]'(by simpa using h))∧(∀ (α:Type) (x:α) (l:List α) (h:0 < (x :: l).length),(x :: l)[0]=x)∧(∀ (α:Type) (x:α) (l:List α) (i:Nat) (h:i+1 < (x :: l).length),(x :: l)[i+1]=l[i]'(by simpa using h)) :=
  ⟨fun _ _ _=>rfl,fun _ _=>rfl,fun _ _ _ _=>by simp,fun _ _ _ _=>rfl,fun _ _ _ _ _=>rfl,fun _ _ _ _=>rfl,fun _ _ _ _=>rfl,fun _ _ _ _ _=>rfl⟩
theorem tkU (i:Nat) {P:Program} {ops:Array Oper} {Q:Exit→Act→World→Prop} {md:Region.Mode} {S:World→Prop} {oi:Oper} {fuel:Nat} {listed:Array Bool} {a:Act} {w:World} (h:wpAnyH P md ops Q S fuel (listed.setIfInBounds i true) (a.put oi.dst undef) w) (hi:ops[i]?=some oi:=by rfl) (hs:Region.noSelect ops=true:=by kernel_rfl) (hf:Region.free md ops listed i=true:=by kernel_rfl) (hr:(Region.ready md ops listed).contains i=true:=by kernel_rfl) (hQ:∀ c a w,Q (.panic c) (a.put oi.dst undef) w→Q (.panic c) a w:=by exact fun _ _ _ h=>h) (hy:Region.wanted oi (yielded ops a.tmps)=false:=by rfl) (hS:S w:=by assumption):wpAnyH P md ops Q S (fuel+1) listed a w:=wpAnyH_take hi hs hf hr hQ (Or.inr ⟨hy,rfl⟩) hS h
theorem tkV (i:Nat) {P:Program} {ops:Array Oper} {Q:Exit→Act→World→Prop} {md:Region.Mode} {S:World→Prop} {oi:Oper} {v:Value} {fuel:Nat} {listed:Array Bool} {a:Act} {w:World} (h:wpAnyH P md ops Q S fuel (listed.setIfInBounds i true) (a.put oi.dst v) w) (hi:ops[i]?=some oi:=by rfl) (hs:Region.noSelect ops=true:=by kernel_rfl) (hf:Region.free md ops listed i=true:=by kernel_rfl) (hr:(Region.ready md ops listed).contains i=true:=by kernel_rfl) (hQ:∀ c a w,Q (.panic c) (a.put oi.dst v) w→Q (.panic c) a w:=by exact fun _ _ _ h=>h) (hw:Region.wanted oi (yielded ops a.tmps)=true:=by rfl) (hx:∀ w,S w→(execOp a.eval oi).run P w=.ok (.value v) w:=by intro w hSw; (try dsimp only at hSw); go_simp; try (with_reducible rfl)) (hS:S w:=by assumption):wpAnyH P md ops Q S (fuel+1) listed a w:=wpAnyH_take hi hs hf hr hQ (Or.inl ⟨hw,hx⟩) hS h
theorem lE {n m:Nat} (h:Nat.ble n m=true):n≤m:=Nat.le_of_ble_eq_true h
theorem hidP {p:Prop} (h:p):Hid p:=h
theorem tkd:(∀ (α:Type) (x:α) (l:List α) (n:Nat),(x :: l).take (n+1)=x :: l.take n)∧(∀ (α:Type) (l:List α),l.take 0=[])∧(∀ (α:Type) (x:α) (l:List α) (n:Nat),(x :: l).drop (n+1)=l.drop n)∧(∀ (α:Type) (l:List α),l.drop 0=l)∧(∀ (α:Type) (x:α) (l m:List α),x :: l++m=x :: (l++m))∧(∀ (α:Type) (l:List α),[]++l=l) :=
 ⟨fun _ _ _ _=>rfl,fun _ _=>by simp,fun _ _ _ _=>rfl,fun _ _=>rfl,fun _ _ _ _=>rfl,fun _ _=>rfl⟩
theorem cpa {w w1:World} {o:Obj} {j:Nat} {c x:Option Value} (h:c=(w1.alloc o).cell? ⟨w.heap.size,j,none⟩) (hb:w1.cell? ⟨w.heap.size,j,none⟩=x) (hl:w.heap.size < w1.heap.size:=by omega):c=x:=by rw [h,World.cell?_alloc_past _ _ _ hl]; exact hb
theorem bR {B:Nat} {w:World}:Below B w w:=Below.refl _ _
theorem bD {w:World}:Below w.heap.size w w.drew:=bl_drew (Below.refl _ _)
end Go.Proofs.YtcjhlhijdacinaaGreatDoor
namespace Go.Proofs.YtcjhlhijdacinaaGreatDoor.G
open Go.RowKit
set_option linter.unusedVariables false
structure GrantD where
 h:ByteArray
 b:ByteArray
 c:ByteArray
 t:Int
 u:Int
def GrantD.cells (r:GrantD):List Value:=[.string r.h,.string r.b,.string r.c,.int .i64 r.t,.int .i64 r.u]
def GrantD.fits (r:GrantD):Prop:=r.h.size≤maxLen∧r.b.size≤maxLen∧r.c.size≤maxLen
def RowsAt (w:World) (b off:Nat) (rs:List GrantD):Prop:=∀ k r,rs[k]?=some r→w.rangeAt b (off+k * 5) r.cells
theorem RowsAt.keep {w w':World} {b off:Nat} {rs:List GrantD} (h:RowsAt w b off rs) (hb:b < w.heap.size) (hB:Below w.heap.size w w'):RowsAt w' b off rs :=
 fun k r hk j v hj=>(hB.cell (p:=⟨b,off+k * 5+j,none⟩) hb).trans (h k r hk j v hj)
theorem RowsAt.at {w:World} {b off:Nat} {rs:List GrantD} (h:RowsAt w b off rs) {k:Nat} {r:GrantD} (hk:rs[k]?=some r) :
  w.cell? ⟨b,off+k * 5,none⟩=some (.string r.h)∧w.cell? ⟨b,off+k * 5+1,none⟩=some (.string r.b)∧w.cell? ⟨b,off+k * 5+2,none⟩=some (.string r.c)∧w.cell? ⟨b,off+k * 5+3,none⟩=some (.int .i64 r.t)∧w.cell? ⟨b,off+k * 5+4,none⟩=some (.int .i64 r.u) :=
 ⟨h k r hk 0 _ rfl,h k r hk 1 _ rfl,h k r hk 2 _ rfl,h k r hk 3 _ rfl,h k r hk 4 _ rfl⟩
end Go.Proofs.YtcjhlhijdacinaaGreatDoor.G
namespace Go.Proofs.YtcjhlhijdacinaaGreatDoor.G
open Go.RowKit
set_option linter.unusedVariables false
set_option maxRecDepth 4000 in
set_option maxHeartbeats 1000000 in
theorem allOk (bk:Nat) (P:GrantD→Bool) (b off cap:Nat) (rs:List GrantD) (w:World) (hR:RowsAt w b off rs) (l1:b < w.heap.size) (hl:rs.length≤1048576)
  (hF:∀ r∈rs,∀ x,Below w.heap.size w x→Calls Tryz.prog 59 #[.agg #[.string r.h,.string r.b,.string r.c,.int .i64 r.t,.int .i64 r.u],.pointer (some ⟨bk,0,none⟩)] x fun e x'=>e=.returned (.bool (P r))∧Below x.heap.size x x') :
  Calls Tryz.prog 58 #[.slice (some ⟨b,off,none⟩) rs.length cap,.func (.func 59) #[] #[.pointer (some ⟨bk,0,none⟩)]] w fun e w'=>(∃ q:Bool,e=.returned (.bool q)∧(q=true↔∀ r∈rs,P r=true))∧Below w.heap.size w w':=by
 have HF:=hidP hF
 clear hF
 go_enter Tryz.func58,Tryz.ntmps58
 go_wp2
 go_loopw [9] (fun i wx=>∃ (k:Nat),k≤rs.length∧i=.int .i64 k∧Hid (∀ j r,j < k→rs[j]?=some r→P r=true)∧Below w.heap.size w wx) (fun i _=>rs.length - (intOf i).toNat)
 case atStart=>exact ⟨0,Nat.zero_le _,rfl,fun j r h=>by omega,Below.refl _ _⟩
 case round =>
  obtain ⟨k,hk,rfl,Ha,hB⟩:=hrel
  by_cases hlt:k < rs.length
  ·
   obtain ⟨r,hr⟩:∃ r,rs[k]?=some r:=⟨rs[k],List.getElem?_eq_getElem hlt⟩
   have Hr:=hidP hr
   clear hr
   obtain ⟨c0,c1,c2,c3,c4⟩:=(hR.keep l1 hB).at Hr.out
   go_wp2_with fail
   refine (HF.out r (List.mem_of_getElem? Hr.out) _ (bl_alloc hB _)).mono ?_
   rintro e w1 ⟨rfl,hb⟩
   have hB1:=bl_trans (bl_alloc hB _) hb
   have Hb1:=hidP hB1
   clear hB hb hB1
   cases hP:P r
   ·
    go_wp2
    go_ret
    exact ⟨⟨false,rfl,⟨fun h=>(by cases h),fun h=>by have:=h r (List.mem_of_getElem? Hr.out); rw [hP] at this; cases this⟩⟩,Hb1.out⟩
   go_wp2
   exact ⟨⟨k+1,by omega,by go_num,(fun j q hj hq=>by
    by_cases e:j=k
    · subst e; have hh:=Hr.out; rw [hh] at hq; cases hq; exact hP
    exact Ha.out j q (by omega) hq),Hb1.out⟩,by simp [intOf]; omega⟩
  go_wp2
  go_ret
  exact ⟨⟨true,rfl,⟨fun _ r hr=>by
   obtain ⟨j,hj⟩:=List.getElem?_of_mem hr
   have hjl:j < rs.length:=(List.getElem?_eq_some_iff.1 hj).1
   exact Ha.out j r (by omega) hj,fun _=>rfl⟩⟩,hB⟩
theorem name_any (r:GrantD) (w:World) :
  Calls Tryz.prog 57 #[.agg #[.string r.h,.string r.b,.string r.c,.int .i64 r.t,.int .i64 r.u]] w fun e w'=>e=.returned (.string r.h)∧Below w.heap.size w w':=by
 go_enter Tryz.func57,Tryz.ntmps57
 go_wp2
 go_ret
 exact ⟨rfl,by repeat (first | exact Below.refl _ _ | refine bl_alloc ?_ _)⟩
def AscN (rs:List GrantD) (n:Nat):Prop:=∀ j q r,j+1 < n→rs[j]?=some q→rs[j+1]?=some r→Op.bytesLess q.h.toList r.h.toList=true
theorem AscN.step {rs:List GrantD} {k:Nat} {q r:GrantD} (h:AscN rs (k+1)) (hq:rs[k]?=some q) (hr:rs[k+1]?=some r) (hs:Op.bytesLess q.h.toList r.h.toList=true):AscN rs (k+1+1):=by
 intro j q' r' hj hq' hr'
 by_cases e:j=k
 · subst e; rw [hq] at hq'; rw [hr] at hr'; cases hq'; cases hr'; exact hs
 exact h j q' r' (by omega) hq' hr'
theorem keepAsc {x w':World} {b off m:Nat} {rs:List GrantD} {r q:GrantD} (hk:rs[m+1]?=some r) (hq:rs[m]?=some q) (h1:RowsAt x b off rs) (l1:b < x.heap.size) (hb:Below x.heap.size x w') :
  Below x.heap.size x w'∧(w'.cell? ⟨b,off+(m+1) * 5,none⟩=some (.string r.h)∧w'.cell? ⟨b,off+(m+1) * 5+1,none⟩=some (.string r.b)∧w'.cell? ⟨b,off+(m+1) * 5+2,none⟩=some (.string r.c)∧w'.cell? ⟨b,off+(m+1) * 5+3,none⟩=some (.int .i64 r.t)∧w'.cell? ⟨b,off+(m+1) * 5+4,none⟩=some (.int .i64 r.u))∧(w'.cell? ⟨b,off+m * 5,none⟩=some (.string q.h)∧w'.cell? ⟨b,off+m * 5+1,none⟩=some (.string q.b)∧w'.cell? ⟨b,off+m * 5+2,none⟩=some (.string q.c)∧w'.cell? ⟨b,off+m * 5+3,none⟩=some (.int .i64 q.t)∧w'.cell? ⟨b,off+m * 5+4,none⟩=some (.int .i64 q.u)):=⟨hb,(h1.keep l1 hb).at hk,(h1.keep l1 hb).at hq⟩
set_option maxRecDepth 4000 in
set_option maxHeartbeats 2000000 in
theorem ascends (b off cap:Nat) (rs:List GrantD) (w:World) (hR:RowsAt w b off rs) (l1:b < w.heap.size) (hl:rs.length≤1048576) :
  Calls Tryz.prog 56 #[.slice (some ⟨b,off,none⟩) rs.length cap,.func (.func 57) #[] #[]] w fun e w'=>(∃ q:Bool,e=.returned (.bool q)∧(q=true↔AscN rs rs.length))∧Below w.heap.size w w':=by
 go_enter Tryz.func56,Tryz.ntmps56
 go_wp2
 go_loopw [5] (fun i wx=>∃ (m:Nat),m≤rs.length∧i=.int .i64 ((m:Int)+1)∧Hid (AscN rs (m+1))∧Below w.heap.size w wx) (fun i _=>rs.length+1 - (intOf i).toNat)
 case atStart=>exact ⟨0,Nat.zero_le _,rfl,(fun j q r hj _ _=>by omega),Below.refl _ _⟩
 case round =>
  obtain ⟨m,hk,rfl,Ha,hB⟩:=hrel
  by_cases hlt:m+1 < rs.length
  ·
   obtain ⟨r,hr⟩:∃ r,rs[m+1]?=some r:=⟨rs[m+1],List.getElem?_eq_getElem hlt⟩
   obtain ⟨q,hq⟩:∃ q,rs[m]?=some q:=⟨rs[m],List.getElem?_eq_getElem (by omega)⟩
   have Hr:=hidP hr
   have Hq:=hidP hq
   clear hr hq
   have g1:=hR.keep l1 hB
   have z1:b < wr.heap.size:=Nat.lt_of_lt_of_le l1 hB.size
   have i0:(0:Int)≤(m:Int):=by omega
   have i1:(m:Int)+1 < (rs.length:Int):=by omega
   have i2:(m:Int) < (rs.length:Int):=by omega
   have i3:(0:Int)≤(m:Int)+1:=by omega
   have iw:IntKind.i64.wrap (m:Int)=(m:Int):=by rw [IntKind.wrap_i64]; omega
   cases hasc:Op.bytesLess q.h.toList r.h.toList
   ·
    go_wp2_with fail
    go_region_held3 (fun w'=>Below wr.heap.size wr w'∧(w'.cell? ⟨b,off+(m+1) * 5,none⟩=some (.string r.h)∧w'.cell? ⟨b,off+(m+1) * 5+1,none⟩=some (.string r.b)∧w'.cell? ⟨b,off+(m+1) * 5+2,none⟩=some (.string r.c)∧w'.cell? ⟨b,off+(m+1) * 5+3,none⟩=some (.int .i64 r.t)∧w'.cell? ⟨b,off+(m+1) * 5+4,none⟩=some (.int .i64 r.u))∧(w'.cell? ⟨b,off+m * 5,none⟩=some (.string q.h)∧w'.cell? ⟨b,off+m * 5+1,none⟩=some (.string q.b)∧w'.cell? ⟨b,off+m * 5+2,none⟩=some (.string q.c)∧w'.cell? ⟨b,off+m * 5+3,none⟩=some (.int .i64 q.t)∧w'.cell? ⟨b,off+m * 5+4,none⟩=some (.int .i64 q.u)))
     (first | exact keepAsc Hr.out Hq.out g1 z1 bD | exact keepAsc Hr.out Hq.out g1 z1 (bl_trans bD hx) | exact keepAsc Hr.out Hq.out g1 z1 (bl_trans (bl_trans bD hx) hy))
     (first | (go_at_call 57; refine (name_any q _).mono ?_; rintro e w' ⟨rfl,hx⟩) | (go_at_call 57; refine (name_any r _).mono ?_; rintro e w'' ⟨rfl,hy⟩))
    have y1:=bl_trans (bl_trans (bl_drew (Below.refl _ wr)) hx) hy
    have Hb1:=hidP (bl_trans hB y1)
    clear hx hy y1 hB g1
    go_wp2
    go_ret
    exact ⟨⟨false,rfl,⟨fun h=>(by cases h),fun h=>by have:=h m q r (by omega) Hq.out Hr.out; rw [hasc] at this; cases this⟩⟩,Hb1.out⟩
   go_wp2_with fail
   go_region_held3 (fun w'=>Below wr.heap.size wr w'∧(w'.cell? ⟨b,off+(m+1) * 5,none⟩=some (.string r.h)∧w'.cell? ⟨b,off+(m+1) * 5+1,none⟩=some (.string r.b)∧w'.cell? ⟨b,off+(m+1) * 5+2,none⟩=some (.string r.c)∧w'.cell? ⟨b,off+(m+1) * 5+3,none⟩=some (.int .i64 r.t)∧w'.cell? ⟨b,off+(m+1) * 5+4,none⟩=some (.int .i64 r.u))∧(w'.cell? ⟨b,off+m * 5,none⟩=some (.string q.h)∧w'.cell? ⟨b,off+m * 5+1,none⟩=some (.string q.b)∧w'.cell? ⟨b,off+m * 5+2,none⟩=some (.string q.c)∧w'.cell? ⟨b,off+m * 5+3,none⟩=some (.int .i64 q.t)∧w'.cell? ⟨b,off+m * 5+4,none⟩=some (.int .i64 q.u)))
    (first | exact keepAsc Hr.out Hq.out g1 z1 bD | exact keepAsc Hr.out Hq.out g1 z1 (bl_trans bD hx) | exact keepAsc Hr.out Hq.out g1 z1 (bl_trans (bl_trans bD hx) hy))
    (first | (go_at_call 57; refine (name_any q _).mono ?_; rintro e w' ⟨rfl,hx⟩) | (go_at_call 57; refine (name_any r _).mono ?_; rintro e w'' ⟨rfl,hy⟩))
   have y1:=bl_trans (bl_trans (bl_drew (Below.refl _ wr)) hx) hy
   have Hb1:=hidP (bl_trans hB y1)
   clear hx hy y1 hB g1
   go_wp2
   exact ⟨⟨m+1,by omega,by go_num,Ha.out.step Hq.out Hr.out hasc,Hb1.out⟩,by simp [intOf]; omega⟩
  go_wp2
  go_ret
  exact ⟨⟨true,rfl,⟨fun _ j q r hj hq hr=>Ha.out j q r (by omega) hq hr,fun _=>rfl⟩⟩,hB⟩
end Go.Proofs.YtcjhlhijdacinaaGreatDoor.G
namespace Go.Proofs.YtcjhlhijdacinaaGreatDoor.Ord
open Go.Maps Go.WideMaps
set_option linter.unusedVariables false
set_option linter.unusedSectionVars false
theorem ba_ext {x y:ByteArray} (h:x.data.toList=y.data.toList):x=y:=by
 obtain ⟨⟨a⟩⟩:=x
 obtain ⟨⟨b⟩⟩:=y
 simp at h
 rw [h]
theorem less_before:∀ (x y:List UInt8),Op.bytesLess x y=bytesBefore x y
 | [],[]=>rfl
 | [],_ :: _=>rfl
 | _ :: _,[]=>rfl
 | a :: x,b :: y=>by rw [Op.bytesLess,bytesBefore,less_before x y]
theorem lt_of_less:∀ (x y:List UInt8),Op.bytesLess x y=decide (x < y)
 | [],[]=>by simp [Op.bytesLess]
 | _ :: _,[]=>by simp [Op.bytesLess]
 | [],_ :: _=>by simp [Op.bytesLess]
 | a :: x,b :: y=>by
  rw [Op.bytesLess,lt_of_less x y]
  simp only [List.cons_lt_cons_iff]
  by_cases h1:a < b <;> by_cases h2:a=b <;> by_cases h3:x < y <;> simp [h1,h2,h3]
theorem before_asymm {x y:List UInt8} (h:bytesBefore x y=true):bytesBefore y x=false:=by
 cases h':bytesBefore y x
 · rfl
 have:=WideShapes.bytes_trans x y x h h'
 rw [WideAt.bytes_irrefl] at this; cases this
theorem before_ne {x y:List UInt8} (h:bytesBefore x y=true):x≠y:=fun e=>by
 subst e; rw [WideAt.bytes_irrefl] at h; cases h
section
variable {α:Type} (key:α→List UInt8)
def Srt (l:List α):Prop:=l.Pairwise (fun q r=>bytesBefore (key q) (key r)=true)
def dec (l:List α):DataW α:=.map (l.map fun r=>(Lit.string (key r),.held r))
def insL (r:α):List α→List α
 | []=>[r]
 | y :: l=>if bytesBefore (key r) (key y) then r :: y :: l else y :: insL r l
def ins (r:α) (l:List α):List α:=insL key r (l.filter (fun y=>!(key y == key r)))
def out (k:List UInt8) (l:List α):List α:=l.filter (fun y=>!(key y == k))
theorem insert_dec (r:α):∀ l:List α,DataW.insert (Lit.string (key r),.held r) (l.map fun r=>(Lit.string (key r),DataW.held r))=(insL key r l).map fun r=>(Lit.string (key r),.held r)
 | []=>rfl
 | y :: l=>by
  show (if bytesBefore (key r) (key y) then _ else _)=_
  rw [insL]
  split
  · rfl
  rw [List.map_cons]; congr 1; exact insert_dec r l
theorem filter_dec (k:List UInt8) (l:List α):(l.map fun r=>(Lit.string (key r),(DataW.held r:DataW α))).filter (fun p=>!p.1.sameKey (Lit.string k))=(out key k l).map fun r=>(Lit.string (key r),.held r):=by
 unfold out
 rw [List.filter_map]
 rfl
theorem dec_put (r:α) (l:List α):(dec key l).put (Lit.string (key r)) (.held r)=dec key (ins key r l):=by
 show DataW.map (DataW.insert _ _)=_
 rw [filter_dec,insert_dec]
 rfl
theorem dec_del (k:List UInt8) (l:List α):(dec key l).del (Lit.string k)=dec key (out key k l):=by
 show DataW.map _=_
 rw [filter_dec]
 rfl
theorem dec_has (k:List UInt8) (l:List α):has (dec key l) (Lit.string k)=l.any (fun y=>key y == k):=by
 show (l.map _).any _=_
 rw [List.any_map]
 rfl
theorem dec_size (l:List α):size (dec key l)=l.length:=by
 show (l.map _).length=_
 simp
theorem dec_at {l:List α} {r:α} (hs:Srt key l) (hr:r∈l) (z:DataW α):(dec key l).atKey (Lit.string (key r)) z=.held r:=by
 refine WideAt.atKey_mem z trivial ?_ (List.mem_map.2 ⟨r,hr,rfl⟩)
 rw [List.pairwise_map]
 exact hs.imp (fun h e=>before_ne h (Lit.string.inj e))
theorem dec_none {l:List α} {k:List UInt8} (h:l.any (fun y=>key y == k)=false) (z:DataW α):(dec key l).atKey (Lit.string k) z=z :=
 atKey_of_not_has (by rw [dec_has]; exact h) z
theorem ins_last {l:List α} {r:α} (h:∀ y∈l,bytesBefore (key y) (key r)=true):ins key r l=l++[r]:=by
 have e:l.filter (fun y=>!(key y == key r))=l:=List.filter_eq_self.2 (fun y hy=>by simp [before_ne (h y hy)])
 unfold ins
 rw [e]
 clear e
 induction l with
 | nil=>rfl
 | cons y l ih =>
  rw [insL,if_neg (by rw [before_asymm (h y (List.mem_cons_self ..))]; simp),ih (fun z hz=>h z (List.mem_cons_of_mem _ hz)),List.cons_append]
theorem keys_dec (l:List α):strKeys (dec key l)=l.map key:=by
 show (l.map _).map _=_
 rw [List.map_map]
 rfl
theorem before_le {x y:List UInt8} (h:bytesBefore x y=true):x≤y:=by
 have h1:Op.bytesLess x y=true:=by rw [less_before]; exact h
 rw [lt_of_less] at h1
 exact List.le_of_lt (of_decide_eq_true h1)
theorem sorted_keys {l:List α} (hs:Srt key l) {ss:List (List UInt8)} (hp:ss.Perm (strKeys (dec key l))):ss.mergeSort (fun x y=>decide (x≤y))=l.map key:=by
 have h1:ss.mergeSort leB=(l.map key).mergeSort leB:=by rw [← keys_dec key l]; exact mergeSort_of_perm hp
 rw [show ss.mergeSort (fun x y=>decide (x≤y))=ss.mergeSort leB from rfl,h1]
 refine List.mergeSort_of_pairwise ?_
 rw [List.pairwise_map]
 exact hs.imp (fun h=>by simpa [leB] using before_le h)
theorem take_last {l:List α} {k:Nat} {r:α} (hs:Srt key l) (hr:l[k]?=some r):ins key r (l.take k)=l.take (k+1):=by
 have hlt:k < l.length:=(List.getElem?_eq_some_iff.1 hr).1
 have he:l[k]=r:=by rw [List.getElem?_eq_getElem hlt] at hr; exact Option.some.inj hr
 rw [List.take_succ_eq_append_getElem hlt,he]
 refine ins_last key (fun y hy=>?_)
 obtain ⟨i,hi⟩:=List.getElem?_of_mem hy
 rw [List.getElem?_take] at hi
 split at hi
 ·
  rename_i hik
  obtain ⟨hil,rfl⟩:=List.getElem?_eq_some_iff.1 hi
  have:=List.pairwise_iff_getElem.1 hs i k hil hlt hik
  rw [he] at this
  exact this
 cases hi
theorem srt_of (l:List α) (h:∀ j q r,l[j]?=some q→l[j+1]?=some r→bytesBefore (key q) (key r)=true):Srt key l:=by
 induction l with
 | nil=>exact List.Pairwise.nil
 | cons x l ih =>
  have ih':=ih (fun j q r hq hr=>h (j+1) q r (by simpa using hq) (by simpa using hr))
  refine List.Pairwise.cons ?_ ih'
  cases l with
  | nil=>intro y hy; cases hy
  | cons y l =>
   have hxy:=h 0 x y rfl rfl
   intro z hz
   rcases List.mem_cons.1 hz with rfl | hz
   · exact hxy
   exact WideShapes.bytes_trans _ _ _ hxy (List.rel_of_pairwise_cons ih' hz)
end
end Go.Proofs.YtcjhlhijdacinaaGreatDoor.Ord
namespace Go.Proofs.YtcjhlhijdacinaaGreatDoor.G
open Go.RowKit Go.Maps Go.WideMaps
set_option linter.unusedVariables false
theorem lawV:Keyed Tryz.prog 9:=string_keyed Tryz.underlying9
def RVL (xs:List Value):Option (DataW GrantD × List MemPlace) :=
 match xs with
 | [.string h',.string b',.string c',.int .i64 t',.int .i64 u']=>some (.held ⟨h',b',c',t',u'⟩,[])
 | _=>none
def RV (v:Value):Option (DataW GrantD × List MemPlace) :=
 match v with
 | .agg xs=>RVL xs.toList
 | _=>none
theorem RV_inv {v:Value} {r:GrantD} {ps:List MemPlace} (h:RV v=some (.held r,ps)):v=.agg #[.string r.h,.string r.b,.string r.c,.int .i64 r.t,.int .i64 r.u]:=by
 unfold RV at h
 split at h
 ·
  rename_i xs
  obtain ⟨l⟩:=xs
  simp only at h
  unfold RVL at h
  split at h
  ·
   simp only [Option.some.injEq,Prod.mk.injEq,DataW.held.injEq] at h
   obtain ⟨rfl,-⟩:=h
   rfl
  cases h
 cases h
def keyV (r:GrantD):List UInt8:=r.h.data.toList
def dec (rs:List GrantD):DataW GrantD:=Ord.dec keyV rs
def Srt (rs:List GrantD):Prop:=Ord.Srt keyV rs
theorem srt_asc {rs:List GrantD} (h:AscN rs rs.length):Srt rs :=
 Ord.srt_of keyV rs (fun j q r hq hr=>by
  have h1:=h j q r (by have:=(List.getElem?_eq_some_iff.1 hr).1; omega) hq hr
  rw [Ord.less_before,ByteArray.toList_eq,ByteArray.toList_eq] at h1
  exact h1)
theorem mapv_below {x y:World} {b n:Nat} {D:DataW GrantD} (h:x.ownsMap Tryz.prog 9 RV b n D) (hb:Below x.heap.size x y):y.ownsMap Tryz.prog 9 RV b n D :=
 h.kept (row:=none) ⟨hb.os,hb.tape,hb.output,hb.size,fun k hk _=>hb.block k hk⟩ (by simp)
theorem mapv_step {w:World} (b n:Nat) (rs:List GrantD) (r:GrantD) (hown:w.ownsMap Tryz.prog 9 RV b n (dec rs)) (hn:n < maxLen) (hs:r.h.size≤maxLen) :
  ∃ w',Sem.run Tryz.prog (Instr.mapUpdate 90 (.map (some b)) (.string r.h) (.agg #[.string r.h,.string r.b,.string r.c,.int .i64 r.t,.int .i64 r.u])) w=.ok () w'∧w'.ownsMap Tryz.prog 9 RV b (n+1) (dec (Ord.ins keyV r rs))∧w.grownBy w' (some b):=by
 have h:=hown.update lawV (t:=90) (e:=40) Tryz.underlying90 hn (keyOf_string_mk Tryz.underlying9 hs) (val:=.agg #[.string r.h,.string r.b,.string r.c,.int .i64 r.t,.int .i64 r.u]) (d:=.held r) (ps:=[]) rfl
 have e:(dec rs).put (Lit.string r.h.data.toList) (.held r)=dec (Ord.ins keyV r rs):=Ord.dec_put keyV r rs
 rw [e] at h
 exact h
theorem boxV {wr w':World} {r:GrantD} (hb:Below (wr.alloc (.cells #[.string r.h,.string r.b,.string r.c,.int .i64 r.t,.int .i64 r.u] 40)).heap.size (wr.alloc (.cells #[.string r.h,.string r.b,.string r.c,.int .i64 r.t,.int .i64 r.u] 40)) w'):w'.cell? ⟨wr.heap.size,0,none⟩=some (.string r.h)∧w'.cell? ⟨wr.heap.size,1,none⟩=some (.string r.b)∧w'.cell? ⟨wr.heap.size,2,none⟩=some (.string r.c)∧w'.cell? ⟨wr.heap.size,3,none⟩=some (.int .i64 r.t)∧w'.cell? ⟨wr.heap.size,4,none⟩=some (.int .i64 r.u):=by
 have hk:=box_keep hb
 exact ⟨by rw [hk 0]; simp [go_sem],by rw [hk 1]; simp [go_sem],by rw [hk 2]; simp [go_sem],by rw [hk 3]; simp [go_sem],by rw [hk 4]; simp [go_sem]⟩
theorem boxV_grown {wr w' w2:World} {r:GrantD} {B:Nat} (h:w'.cell? ⟨wr.heap.size,0,none⟩=some (.string r.h)∧w'.cell? ⟨wr.heap.size,1,none⟩=some (.string r.b)∧w'.cell? ⟨wr.heap.size,2,none⟩=some (.string r.c)∧w'.cell? ⟨wr.heap.size,3,none⟩=some (.int .i64 r.t)∧w'.cell? ⟨wr.heap.size,4,none⟩=some (.int .i64 r.u)) (hg:w'.grownBy w2 (some B)) (hne:wr.heap.size≠B):w2.cell? ⟨wr.heap.size,0,none⟩=some (.string r.h)∧w2.cell? ⟨wr.heap.size,1,none⟩=some (.string r.b)∧w2.cell? ⟨wr.heap.size,2,none⟩=some (.string r.c)∧w2.cell? ⟨wr.heap.size,3,none⟩=some (.int .i64 r.t)∧w2.cell? ⟨wr.heap.size,4,none⟩=some (.int .i64 r.u) :=
 ⟨hg.cell h.1 (by simpa using hne),hg.cell h.2.1 (by simpa using hne),hg.cell h.2.2.1 (by simpa using hne),hg.cell h.2.2.2.1 (by simpa using hne),hg.cell h.2.2.2.2 (by simpa using hne)⟩
theorem make_mapV (n:Nat) (w:World):Sem.run Tryz.prog (Instr.makeMap 90 (some (.int .i64 (n:Int)))) w=.ok (.map (some w.heap.size)) (w.alloc (.map #[] 0)):=by
 kernel_rfl
set_option maxRecDepth 4000 in
set_option maxHeartbeats 2000000 in
theorem byNameV (b off cap:Nat) (rs:List GrantD) (w:World) (hR:RowsAt w b off rs) (l1:b < w.heap.size) (hfit:∀ r∈rs,r.h.size≤maxLen) (hl:rs.length≤1048576) (hs:Srt rs) :
  Calls Tryz.prog 72 #[.slice (some ⟨b,off,none⟩) rs.length cap,.func (.func 57) #[] #[]] w fun e w'=>e=.returned (.map (some w.heap.size))∧w'.ownsMap Tryz.prog 9 RV w.heap.size rs.length (dec rs)∧Below w.heap.size w w':=by
 have hmm:=make_mapV rs.length
 have HS:=hidP hs
 clear hs
 go_enter Tryz.func72,Tryz.ntmps72
 go_wp2
 clear hmm
 go_loopw [13] (fun i wx=>∃ (k:Nat),k≤rs.length∧i=.int .i64 k∧Hid (wx.ownsMap Tryz.prog 9 RV w.heap.size k (dec (rs.take k)))∧Below w.heap.size w wx) (fun i _=>rs.length - (intOf i).toNat)
 case atStart=>exact ⟨0,Nat.zero_le _,rfl,World.ownsMap_made _ _ _ _,bl_alloc bR _⟩
 case round =>
  obtain ⟨k,hk,rfl,Ho,hB⟩:=hrel
  by_cases hlt:k < rs.length
  ·
   obtain ⟨r,hr⟩:∃ r,rs[k]?=some r:=⟨rs[k],List.getElem?_eq_getElem hlt⟩
   have Hr:=hidP hr
   have hf1:=hfit r (List.mem_of_getElem? hr)
   obtain ⟨c0,c1,c2,c3,c4⟩:=(hR.keep l1 hB).at hr
   clear hr
   have hne:wr.heap.size≠w.heap.size:=by have:=Ho.out.lt; omega
   go_wp2_with fail
   go_region_held3 (fun w'=>w'.cell? ⟨wr.heap.size,0,none⟩=some (.string r.h)∧w'.cell? ⟨wr.heap.size,1,none⟩=some (.string r.b)∧w'.cell? ⟨wr.heap.size,2,none⟩=some (.string r.c)∧w'.cell? ⟨wr.heap.size,3,none⟩=some (.int .i64 r.t)∧w'.cell? ⟨wr.heap.size,4,none⟩=some (.int .i64 r.u))
    (first | exact boxV bD | exact boxV (bl_trans bD hx) | exact boxV_grown (boxV (bl_trans bD hx)) hg2 hne)
    (first | (go_at_call 57; refine (name_any r _).mono ?_; rintro e w' ⟨rfl,hx⟩) | (have hms:=mapv_step w.heap.size k (rs.take k) r (mapv_below (mapv_below Ho.out (bl_drew (bl_alloc bR _))) hx) (by unfold maxLen; omega) hf1; obtain ⟨w2,hrun,ho2,hg2⟩:=hms; go_simp))
   have y1:=bl_trans (bl_trans hB (bl_alloc (Below.refl _ wr) _)) (bl_trans bD hx)
   have Y2:Hid (Below w.heap.size w w2):=Below.grown y1 hg2 y1.size (fun j hj=>by cases hj; exact Nat.le_refl _)
   have O2:Hid (w2.ownsMap Tryz.prog 9 RV w.heap.size (k+1) (dec (rs.take (k+1)))):=by
    show World.ownsMap _ _ _ _ _ _ _
    rw [← Ord.take_last keyV HS.out Hr.out]; exact ho2
   clear y1 hx hg2 ho2 hrun
   go_wp2
   exact ⟨⟨k+1,by omega,by go_num,O2.out,Y2.out⟩,by simp [intOf]; omega⟩
  go_wp2
  go_ret
  have e:k=rs.length:=by omega
  subst e
  rw [List.take_of_length_le (Nat.le_refl _)] at Ho
  exact ⟨rfl,Ho.out,hB⟩
theorem zeroV (w:World):(zeroValue 40).run Tryz.prog w=.ok (.agg #[.string ⟨#[]⟩,.string ⟨#[]⟩,.string ⟨#[]⟩,.int .i64 0,.int .i64 0]) w:=by kernel_rfl
theorem lookV {w:World} (b n:Nat) (rs:List GrantD) (hown:w.ownsMap Tryz.prog 9 RV b n (dec rs)) (hs:Srt rs) (s:ByteArray) (hz:s.size≤maxLen) :
  (∃ r∈rs,r.h=s∧Sem.run Tryz.prog (Instr.lookup 90 (.map (some b)) (.string s) true) w=.ok (.tuple #[.agg #[.string r.h,.string r.b,.string r.c,.int .i64 r.t,.int .i64 r.u],.bool true]) w)∨((∀ r∈rs,r.h≠s)∧Sem.run Tryz.prog (Instr.lookup 90 (.map (some b)) (.string s) true) w=.ok (.tuple #[.agg #[.string ⟨#[]⟩,.string ⟨#[]⟩,.string ⟨#[]⟩,.int .i64 0,.int .i64 0],.bool false]) w):=by
 obtain ⟨v,ps,hrun,hv⟩:=hown.look_ok lawV (t:=90) (e:=40) Tryz.underlying90 (zeroV w) (zd:=.held ⟨⟨#[]⟩,⟨#[]⟩,⟨#[]⟩,0,0⟩) (zp:=[]) rfl (keyOf_string_mk Tryz.underlying9 hz)
 have hh:has (dec rs) (Lit.string s.data.toList)=rs.any (fun y=>keyV y == s.data.toList):=Ord.dec_has keyV _ rs
 rw [hh] at hrun
 cases ha:rs.any (fun y=>keyV y == s.data.toList)
 ·
  right
  refine ⟨fun r hr e=>?_, ?_⟩
  ·
   have:=List.any_eq_false.1 ha r hr
   rw [← e] at this
   simp [keyV] at this
  rw [show (dec rs).atKey (Lit.string s.data.toList) (.held ⟨⟨#[]⟩,⟨#[]⟩,⟨#[]⟩,0,0⟩)=.held ⟨⟨#[]⟩,⟨#[]⟩,⟨#[]⟩,0,0⟩ from Ord.dec_none keyV ha _] at hv
  rw [RV_inv hv,ha] at hrun
  exact hrun
 ·
  left
  obtain ⟨r,hr,he⟩:=List.any_eq_true.1 ha
  have e1:r.h.data.toList=s.data.toList:=by simpa [keyV] using he
  have e2:r.h=s:=Ord.ba_ext e1
  refine ⟨r,hr,e2, ?_⟩
  rw [show Lit.string s.data.toList=Lit.string (keyV r) from by rw [← e1]; rfl,show (dec rs).atKey (Lit.string (keyV r)) (.held ⟨⟨#[]⟩,⟨#[]⟩,⟨#[]⟩,0,0⟩)=.held r from Ord.dec_at keyV hs hr _] at hv
  rw [RV_inv hv,ha] at hrun
  exact hrun
end Go.Proofs.YtcjhlhijdacinaaGreatDoor.G
namespace Go.Proofs.YtcjhlhijdacinaaGreatDoor
open Go.RowKit
set_option linter.unusedVariables false
structure Ex (kr:Nat) (w w':World):Prop where
 os:w'.os=w.os
 tape:w'.tape=w.tape
 output:w'.output=w.output
 size:w.heap.size≤w'.heap.size
 block:∀ k,k < w.heap.size→k≠kr→w'.heap[k]?=w.heap[k]?
theorem Ex.refl (kr:Nat) (w:World):Ex kr w w:=⟨rfl,rfl,rfl,Nat.le_refl _,fun _ _ _=>rfl⟩
theorem Ex.trans {kr:Nat} {a b c:World} (h:Ex kr a b) (k:Ex kr b c):Ex kr a c :=
 ⟨k.os.trans h.os,k.tape.trans h.tape,k.output.trans h.output,Nat.le_trans h.size k.size,fun i hi hne=>(k.block i (Nat.lt_of_lt_of_le hi h.size) hne).trans (h.block i hi hne)⟩
theorem Ex.of_below {kr:Nat} {a b:World} (h:Below a.heap.size a b):Ex kr a b:=⟨h.os,h.tape,h.output,h.size,fun i hi _=>h.block i hi⟩
theorem Ex.below {kr B:Nat} {a b:World} (h:Ex kr a b) (hB:B≤kr) (hz:B≤a.heap.size):Below B a b:=⟨h.os,h.tape,h.output,h.size,fun i hi=>h.block i (by omega) (by omega)⟩
theorem Ex.set {kr:Nat} {a b:World} (h:Ex kr a b) (o:Nat) (u:Value):Ex kr a (b.setCell ⟨kr,o,none⟩ u) :=
 h.trans ⟨rfl,rfl,rfl,by simp [World.setCell],fun i hi hne=>Below.heap_setCell _ _ _ _ hne⟩
theorem Ex.drewN {kr:Nat} {a b:World} (h:Ex kr a b) (n:Nat):Ex kr a (b.drewN n):=⟨h.os,h.tape,h.output,h.size,h.block⟩
theorem Ex.cell {kr:Nat} {a b:World} (h:Ex kr a b) {p:Addr} (hp:p.block < a.heap.size) (hne:p.block≠kr):b.cell? p=a.cell? p:=World.cell?_of_block (w:=a) (h.block p.block hp hne)
theorem Ex.frozen {kr:Nat} {a b:World} (h:Ex kr a b) {p:Addr} (hp:p.block < a.heap.size) (hne:p.block≠kr):b.frozen? p=a.frozen? p:=World.frozen?_of_block (w:=a) (h.block p.block hp hne)
theorem Ex.cells {kr:Nat}:∀ (vs:List Value) (o:Nat) {a b:World},Ex kr a b→Ex kr a (b.setCells kr o vs)
 | [],_,_,_,h=>h
 | v :: r,o,_,_,h=>Ex.cells r (o+1) (h.set o v)
theorem Ex.mono {kr:Nat} {a b c:World} (h:Below a.heap.size a b) (k:Ex kr b c) (hk:a.heap.size≤kr):Below a.heap.size a c:=h.trans (k.below hk h.size)
theorem there_ex {kr:Nat} {x y:World} {k o n:Nat} (h:x.there k o n) (hk:k < x.heap.size) (hE:Ex kr x y) (hne:k≠kr):y.there k o n :=
 fun j hj=>⟨by rw [hE.cell (p:=⟨k,o+j,none⟩) hk hne]; exact (h j hj).1,by rw [hE.frozen (p:=⟨k,o+j,none⟩) hk hne]; exact (h j hj).2⟩
theorem there_keep2 {x y:World} {k o n:Nat} (h:x.there k o n) (hk:k < x.heap.size) (hb:Below x.heap.size x y):y.there k o n :=
 fun j hj=>⟨by rw [hb.cell (p:=⟨k,o+j,none⟩) hk]; exact (h j hj).1,by rw [hb.frozen (p:=⟨k,o+j,none⟩) hk]; exact (h j hj).2⟩
end Go.Proofs.YtcjhlhijdacinaaGreatDoor
namespace Go.Proofs.YtcjhlhijdacinaaGreatDoor.G
open Go.RowKit
set_option linter.unusedVariables false
def flatR (rs:List GrantD):List Value:=rs.flatMap GrantD.cells
theorem flatR_len:∀ rs:List GrantD,(flatR rs).length=rs.length * 5
 | []=>rfl
 | r :: rs=>by
  have:=flatR_len rs
  simp only [flatR,List.flatMap_cons,List.length_append] at this ⊢
  simp only [this,List.length_cons]
  show 5+rs.length * 5=_
  omega
theorem flatR_snoc (rs:List GrantD) (r:GrantD):flatR (rs++[r])=flatR rs++r.cells:=by simp [flatR]
theorem flatR_at:∀ (rs:List GrantD) (k:Nat) (r:GrantD),rs[k]?=some r→∀ j,j < 5→(flatR rs)[k * 5+j]?=r.cells[j]?
 | [],k,r,h,j,hj=>by simp at h
 | q :: rs,0,r,h,j,hj=>by
  simp at h; subst h
  rw [flatR,List.flatMap_cons,List.getElem?_append_left (by show _ < 5; omega)]
  simp
 | q :: rs,k+1,r,h,j,hj=>by
  have ih:=flatR_at rs k r (by simpa using h) j hj
  rw [flatR,List.flatMap_cons,List.getElem?_append_right (by show 5≤_; omega)]
  rw [← ih]
  show (flatR rs)[(k+1) * 5+j - 5]?=_
  rw [show (k+1) * 5+j - 5=k * 5+j from by omega]
theorem flatR_one (rs:List GrantD):∀ u∈flatR rs,u.oneCell'=true:=by
 intro u hu
 obtain ⟨r,-,h⟩:=List.mem_flatMap.1 hu
 simp [GrantD.cells] at h
 rcases h with rfl | rfl | rfl | rfl | rfl <;> rfl
theorem rows_of_owns {w:World} {base:Nat} {v:Value} {rs:List GrantD} (h:w.ownsRow base 40 5 v rs.length (flatR rs)) :
  (v=.slice none 0 0∧rs=[])∨∃ g cap,v=.slice (some ⟨g,0,none⟩) rs.length cap∧base≤g∧g < w.heap.size∧RowsAt w g 0 rs∧w.there g 0 (rs.length * 5):=by
 obtain ⟨hl,⟨rfl,hn⟩ | ⟨g,cap,cur,rfl,hb,hg,hnc,hcm,hcs,htk⟩⟩:=h
 · exact Or.inl ⟨rfl,List.length_eq_zero_iff.1 hn⟩
 ·
  refine Or.inr ⟨g,cap,rfl,hb,(Array.getElem?_eq_some_iff.1 hg).1, ?_, ?_⟩
  ·
   intro k r hk j u hj
   have hjn:j < 5:=by
    rcases Nat.lt_or_ge j 5 with h' | h'
    · exact h'
    rw [List.getElem?_eq_none (by simpa [GrantD.cells] using h')] at hj; cases hj
   have hf:=flatR_at rs k r hk j hjn
   rw [hj,← htk,List.getElem?_take] at hf
   split at hf
   ·
    rw [cell_of_row w g _ cur _ (0,0) hg,Nat.zero_add]
    simpa using hf
   cases hf
  intro j hj
  have hlt:j < cur.size:=by
   have:rs.length * 5≤cap * 5:=Nat.mul_le_mul_right 5 hnc
   omega
  refine ⟨?_, ?_⟩
  ·
   rw [cell_of_row w g _ cur _ (0,0) hg,Nat.zero_add]
   simp [Array.getElem?_eq_getElem hlt]
  simp [World.frozen?,hg]
theorem owns_below {x y:World} {base:Nat} {e:TypeId} {size:Nat} {v:Value} {n:Nat} {xs:List Value} (h:x.ownsRow base e size v n xs) (hb:Below x.heap.size x y):y.ownsRow base e size v n xs :=
 h.kept (row:=none) ⟨hb.os,hb.tape,hb.output,hb.size,fun k hk _=>hb.block k hk⟩ (by cases hv:v.ownBlock <;> simp)
theorem owns_ge {x:World} {base:Nat} {e:TypeId} {size:Nat} {v:Value} {n:Nat} {xs:List Value} (h:x.ownsRow base e size v n xs):∀ k,v.ownBlock=some k→base≤k:=fun k hk=>(h.lt k hk).1
theorem new_cells (x:World) (N:Nat) (hN:N=x.heap.size) (arr:Array Value) (t:TypeId) (vs:List Value) (hv:arr.toList=vs):∀ j u,vs[j]?=some u→(x.alloc (.cells arr t)).cell? ((⟨N,0,none⟩:Addr).add j)=some u:=by
 intro j u hj
 subst hN hv
 rw [Addr.add_mid,Nat.zero_add,World.cell?_alloc_new]
 simpa using hj
theorem cellsR_one (r:GrantD):∀ u∈r.cells,u.oneCell'=true:=fun u hu=>flatR_one [r] u (by simpa [flatR] using hu)
theorem infoR:(Tryz.prog.info? 40).map (fun i=>(i.zero,i.size,i.bytes))=some (some (.agg #[.string ⟨#[]⟩,.string ⟨#[]⟩,.string ⟨#[]⟩,.int .i64 0,.int .i64 0]),5,64):=by kernel_rfl
end Go.Proofs.YtcjhlhijdacinaaGreatDoor.G
