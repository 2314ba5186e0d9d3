import Derived.Test.YtcjhlhijdacinaaGreatDoorJ12
import Derived.Test.YtcjhlhijdacinaaGreatDoorJ11
import Derived.Test.YtcjhlhijdacinaaGreatDoorJ05
namespace Go.Proofs.YtcjhlhijdacinaaGreatDoor
open Go.RowKit
set_option linter.unusedVariables false
theorem Pc.Like.len {ds es:List Pc.PcD} (h:Pc.Like ds es):ds.length=es.length:=by simpa using congrArg List.length h
theorem Pc.Like.get2 {ps qs:List Pc.PcD} (h:Pc.Like ps qs) {k:Nat} {q:Pc.PcD} (hq:ps[k]?=some q):∃ r,qs[k]?=some r∧(r.k=q.k∧r.b=q.b∧r.s=q.s∧r.ws=q.ws∧r.h=q.h∧r.p=q.p∧r.t=q.t):=by
 have hk:k < qs.length:=by rw [← h.len]; exact (List.getElem?_eq_some_iff.1 hq).1
 refine ⟨qs[k],List.getElem?_eq_getElem hk, ?_⟩
 have h1:(ps.map Pc.PcD.says)[k]?=(qs.map Pc.PcD.says)[k]?:=by rw [h]
 rw [List.getElem?_map,List.getElem?_map,hq,List.getElem?_eq_getElem hk] at h1
 have h2:Pc.PcD.says q=Pc.PcD.says qs[k]:=by simpa using h1
 simp only [Pc.PcD.says,Prod.mk.injEq] at h2
 obtain ⟨e0,e1,e2,e3,e4,e5,e6⟩:=h2
 exact ⟨e0.symm,e1.symm,e2.symm,e3.symm,e4.symm,e5.symm,e6.symm⟩
set_option maxRecDepth 4000 in
set_option maxHeartbeats 4000000 in
theorem wParcel_same (k s t:Int) (b h p:ByteArray) (ws:List W.WantD) (a1 a2:Option Addr) (c1 c2 B1 B2:Nat) (w:World) (h1:W.Sl w (.slice a1 ws.length c1) ws B1) (h2:W.Sl w (.slice a2 ws.length c2) ws B2) (hl:ws.length≤1048576) :
  Calls Tryz.prog 30 #[.agg #[.int .i64 k,.string b,.int .i64 s,.slice a1 ws.length c1,.string h,.string p,.int .i64 t],.agg #[.int .i64 k,.string b,.int .i64 s,.slice a2 ws.length c2,.string h,.string p,.int .i64 t]] w fun e w'=>e=.returned (.bool true)∧Below w.heap.size w w':=by
 obtain ⟨W1,hW1⟩:∃ W1,W1=(w.alloc (.cells #[.int .i64 k,.string b,.int .i64 s,.slice a1 ws.length c1,.string h,.string p,.int .i64 t] 29)).alloc (.cells #[.int .i64 k,.string b,.int .i64 s,.slice a2 ws.length c2,.string h,.string p,.int .i64 t] 29):=⟨_,rfl⟩
 have HB:Hid (Below w.heap.size w W1):=by rw [hW1]; exact bl_alloc (bl_alloc bR _) _
 have KA:Hid (∀ y,Below W1.heap.size W1 y→(∀ k,y.cell? ⟨w.heap.size,k,none⟩=_)∧∀ k,y.cell? ⟨w.heap.size+1,k,none⟩=_):=fun y hy=>wm_c (by rw [hW1] at hy; exact hy)
 have H1:=hidP (h1.keep HB.out)
 have H2:=hidP (h2.keep HB.out)
 have HW1:=hidP hW1
 clear h1 h2 hW1
 go_enter Tryz.func30,Tryz.ntmps30
 go_wp2_with fail
 rw [← HW1.out]
 refine (W.wEq H1.out H2.out hl).mono ?_
 rintro e w1 ⟨rfl,c⟩
 obtain ⟨ka,kb⟩:=KA.out w1 c
 have HC:=hidP c
 clear c HW1 KA
 go_wp2
 go_ret
 exact ⟨rfl,bl_trans HB.out HC.out⟩
def Cs7 (y:World) (g k:Nat) (q:Pc.PcD) (a:Option Addr) (c:Nat):Prop:=y.cell? ⟨g,k * 7,none⟩=some (.int .i64 q.k)∧y.cell? ⟨g,k * 7+1,none⟩=some (.string q.b)∧y.cell? ⟨g,k * 7+2,none⟩=some (.int .i64 q.s)∧y.cell? ⟨g,k * 7+3,none⟩=some (.slice a q.ws.length c)∧y.cell? ⟨g,k * 7+4,none⟩=some (.string q.h)∧y.cell? ⟨g,k * 7+5,none⟩=some (.string q.p)∧y.cell? ⟨g,k * 7+6,none⟩=some (.int .i64 q.t)
theorem Cs7.keep {y y':World} {g k:Nat} {q:Pc.PcD} {a:Option Addr} {c:Nat} (h:Cs7 y g k q a c) (hg:g < y.heap.size) (hb:Below y.heap.size y y'):Cs7 y' g k q a c:=by
 obtain ⟨h0,h1,h2,h3,h4,h5,h6⟩:=h
 have e:∀ j,y'.cell? ⟨g,j,none⟩=y.cell? ⟨g,j,none⟩:=fun j=>hb.cell (p:=⟨g,j,none⟩) hg
 exact ⟨(e _).trans h0,(e _).trans h1,(e _).trans h2,(e _).trans h3,(e _).trans h4,(e _).trans h5,(e _).trans h6⟩
theorem PcO.atW {y:World} {B n c k:Nat} {qs:List Pc.PcD} {a:Option Addr} {p:Pc.PcD} (h:PcO y B qs (.slice a n c)) (hp:qs[k]?=some p):∃ g,a=some ⟨g,0,none⟩∧g < y.heap.size∧Cs7 y g k p p.a p.c:=by
 rcases h.o with ⟨-,e⟩ | ⟨g,cap,e,-,h2,h3,-⟩
 · rw [List.map_eq_nil_iff] at e; rw [e] at hp; simp at hp
 cases e
 have:=h3.at (k:=k) (r:=Pc.raw p) (by rw [List.getElem?_map,hp]; rfl)
 simp only [Nat.zero_add] at this
 exact ⟨g,rfl,h2,this⟩
set_option maxRecDepth 4000 in
set_option maxHeartbeats 4000000 in
theorem wParcels_same (ds es:List Pc.PcD) (a1 a2:Option Addr) (c1 c2 B1 B2:Nat) (w:World) (h1:PcO w B1 ds (.slice a1 ds.length c1)) (h2:PcO w B2 es (.slice a2 ds.length c2)) (hk:Pc.Like es ds) (hdl:ds.length≤1048576) (hln:∀ q∈ds,q.ws.length≤1048576) :
  Calls Tryz.prog 8 #[.slice a1 ds.length c1,.slice a2 ds.length c2] w fun e w'=>e=.returned (.bool true)∧Below w.heap.size w w':=by
 have H1:Hid (∀ y,Below w.heap.size w y→PcO y B1 ds (.slice a1 ds.length c1)):=fun y hy=>h1.keep hy
 have H2:Hid (∀ y,Below w.heap.size w y→PcO y B2 es (.slice a2 ds.length c2)):=fun y hy=>h2.keep hy
 have HK:=hidP hk
 have HLN:=hidP hln
 clear h1 h2 hk hln
 go_enter Tryz.func8,Tryz.ntmps8
 go_wp2_with fail
 go_loopw [5] (fun i wx=>∃ (k:Nat),k≤ds.length∧i=.int .i64 (k:Int)∧Hid (Below w.heap.size w wx)) (fun i _=>ds.length - (intOf i).toNat)
 case atStart=>exact ⟨0,by omega,rfl,Below.refl _ _⟩
 case round =>
  obtain ⟨m,hm,rfl,HY⟩:=hrel
  by_cases hlm:m < ds.length
  ·
   have hmm:(m:Int) < (ds.length:Int):=by omega
   obtain ⟨q,hq⟩:∃ q,es[m]?=some q:=⟨_,List.getElem?_eq_getElem (show m < es.length by rw [HK.out.len]; exact hlm)⟩
   obtain ⟨p,hp,e0,e1,e2,e3,e4,e5,e6⟩:=HK.out.get2 hq
   obtain ⟨g1,rfl,z1,k1⟩:=(H1.out wr HY.out).atW hp
   obtain ⟨g2,rfl,z2,k2⟩:=(H2.out wr HY.out).atW hq
   have S1:=hidP ((H1.out wr HY.out).k m p hp)
   have w2:=(H2.out wr HY.out).k m q hq
   rw [← e3] at w2
   have S2:=hidP w2
   have hlw:=HLN.out p (List.mem_of_getElem? hp)
   have k2:Cs7 wr g2 m p q.a q.c:=by unfold Cs7 at k2 ⊢; rw [e0,e1,e2,e3,e4,e5,e6]; exact k2
   have KS:Hid (∀ y,Below wr.heap.size wr y→Cs7 y g1 m p p.a p.c∧Cs7 y g2 m p q.a q.c):=fun y hy=>⟨k1.keep z1 hy,k2.keep z2 hy⟩
   clear k1 k2 w2 hq hp e0 e1 e2 e3 e4 e5 e6
   go_wp2_with fail
   go_region_held3 (fun y=>(y.cell? ⟨g1,m * 7,none⟩=some (.int .i64 p.k)∧y.cell? ⟨g1,m * 7+1,none⟩=some (.string p.b)∧y.cell? ⟨g1,m * 7+2,none⟩=some (.int .i64 p.s)∧y.cell? ⟨g1,m * 7+3,none⟩=some (.slice p.a p.ws.length p.c)∧y.cell? ⟨g1,m * 7+4,none⟩=some (.string p.h)∧y.cell? ⟨g1,m * 7+5,none⟩=some (.string p.p)∧y.cell? ⟨g1,m * 7+6,none⟩=some (.int .i64 p.t))∧(y.cell? ⟨g2,m * 7,none⟩=some (.int .i64 p.k)∧y.cell? ⟨g2,m * 7+1,none⟩=some (.string p.b)∧y.cell? ⟨g2,m * 7+2,none⟩=some (.int .i64 p.s)∧y.cell? ⟨g2,m * 7+3,none⟩=some (.slice q.a p.ws.length q.c)∧y.cell? ⟨g2,m * 7+4,none⟩=some (.string p.h)∧y.cell? ⟨g2,m * 7+5,none⟩=some (.string p.p)∧y.cell? ⟨g2,m * 7+6,none⟩=some (.int .i64 p.t)))
    (first | exact KS.out _ bD | exact KS.out _ (bl_trans bD hx))
    (first | (go_at_call 30; refine (wParcel_same _ _ _ _ _ _ p.ws _ _ _ _ B1 B2 _ (S1.out.keep bD) (S2.out.keep bD) hlw).mono ?_; rintro e y' ⟨rfl,hx⟩))
   go_wp2_with fail
   exact ⟨⟨m+1,by omega,by go_num,bl_trans HY.out (bl_trans bD hx)⟩,by simp [intOf]; omega⟩
  have hmm:¬ ((m:Int) < (ds.length:Int)):=by omega
  go_wp2_with fail
  go_ret
  exact ⟨rfl,HY.out⟩
theorem name_le {s:ByteArray} (h:nameB s=true):s.size≤maxLen:=by
 unfold nameB inB at h
 simp only [Bool.and_eq_true,decide_eq_true_eq] at h
 unfold maxLen
 omega
theorem hold_le {s:ByteArray} (h:holdB s=true):s.size≤maxLen:=by
 unfold holdB at h
 simp only [Bool.and_eq_true] at h
 exact name_le h.1
theorem want_le {r:W.WantD} (h:r.ok=true):r.fits:=by
 unfold W.WantD.ok wantB at h
 simp only [Bool.and_eq_true,Bool.or_eq_true] at h
 refine ⟨name_le h.1, ?_⟩
 rcases h.2.2.1 with h | h
 ·
  rw [ByteArray.toList_eq,List.isEmpty_iff] at h
  have:r.h.size=0:=by show r.h.data.size=0; rw [← Array.length_toList,h]; rfl
  omega
 exact hold_le h
theorem say_fit {t:Int} {gs:List G.GrantD} {ps:List P.PlaceD} (h:P.LandSay t gs ps):P.Fit gs ps:=by
 obtain ⟨-,⟨h1,-,h2⟩,⟨h3,-,h4⟩,-⟩:=h
 refine ⟨fun g hg=>?_,fun p hp=>?_,by omega,by omega,fun p hp=>?_⟩
 ·
  have:=h2 g hg
  unfold P.grantB at this
  simp only [Bool.and_eq_true] at this
  exact ⟨hold_le this.1,name_le this.2.1,name_le this.2.2.1⟩
 ·
  obtain ⟨a,-,-,b⟩:=h4 p hp
  refine ⟨name_le a,fun r hr=>?_⟩
  obtain ⟨j,hj⟩:=List.getElem?_of_mem hr
  exact want_le (b.1 j r (List.getElem?_eq_some_iff.1 hj).1 hj)
 have:=(h4 p hp).2.2.1
 omega
theorem fit_nil:P.Fit [] []:=⟨(fun g hg=>by cases hg),(fun g hg=>by cases hg),by simp,by simp,(fun g hg=>by cases hg)⟩
theorem takeL_fit {t t':Int} {gs gs':List G.GrantD} {ps qs:List P.PlaceD} {p:TakeP} {ds:List Pc.PcD} (h:TakeLSay t gs ps p t' gs' qs ds):P.Fit gs' qs:=by
 rcases id h with ⟨-,-,rfl,rfl,-⟩ | ⟨y,-⟩
 · exact fit_nil
 exact say_fit (takeL_ok y h)
theorem tick_fit {t t':Int} {gs gs':List G.GrantD} {ps qs:List P.PlaceD} {ds:List Pc.PcD} (h:TickSay t gs ps t' gs' qs ds):P.Fit gs' qs:=by
 rcases id h with ⟨-,-,rfl,rfl,-⟩ | ⟨y,-⟩
 · exact fit_nil
 exact say_fit (tick_ok y h)
theorem putS_fit {t t':Int} {gs gs':List G.GrantD} {ps qs:List P.PlaceD} {b:ByteArray} {ws:List W.WantD} {code:Int} (h:PutSay t gs ps b ws t' gs' qs code):P.Fit gs' qs:=by
 rcases id h with ⟨-,-,rfl,rfl,-⟩ | ⟨y,-,-,z⟩
 · exact fit_nil
 rcases put_ok h with e | e
 · rcases z with ⟨-,-,c⟩ | ⟨-,-,-,c⟩ | ⟨-,-,-,c⟩ <;> omega
 exact say_fit e
def Few (ds:List Pc.PcD):Prop:=ds.length≤1048576∧∀ d∈ds,d.ws.length≤1048576
theorem takeL_few {t t':Int} {gs gs':List G.GrantD} {ps qs:List P.PlaceD} {p:TakeP} {ds:List Pc.PcD} (h:TakeLSay t gs ps p t' gs' qs ds):Few ds:=by
 rcases h with ⟨-,-,-,-,rfl⟩ | ⟨y,-,-,-,e⟩
 · exact ⟨by simp,fun d hd=>by cases hd⟩
 have hx:∀ d∈ds,d.ws=[]:=fun d hd=>by
  have hm:d.says∈(takeF t gs ps p).2:=by rw [← e]; exact List.mem_map_of_mem hd
  unfold takeF at hm
  have e9:d.ws=d.says.2.2.2.1:=rfl
  rw [e9]
  repeat' split at hm
  all_goals first | (cases hm; done) | (rw [List.mem_singleton.1 hm])
 have hl:ds.length≤1:=by
  have:=congrArg List.length e
  rw [List.length_map] at this
  rw [this]
  unfold takeF
  repeat' split
  all_goals simp
 exact ⟨by omega,fun d hd=>by rw [hx d hd]; simp⟩
theorem tick_few {t t':Int} {gs gs':List G.GrantD} {ps qs:List P.PlaceD} {ds:List Pc.PcD} (h:TickSay t gs ps t' gs' qs ds):Few ds:=by
 rcases h with ⟨-,-,-,-,rfl⟩ | ⟨y,-,-,⟨-,-,rfl⟩ | ⟨-,-,e⟩⟩
 · exact ⟨by simp,fun d hd=>by cases hd⟩
 · exact ⟨by simp,fun d hd=>by cases hd⟩
 have hl:ds.length=ps.length:=by simpa using congrArg List.length e
 refine ⟨by have:=y.2.2.1.1; omega,fun d hd=>?_⟩
 have hm:d.says∈ps.map toldSay:=by rw [← e]; exact List.mem_map_of_mem hd
 obtain ⟨p,hp,ep⟩:=List.mem_map.1 hm
 have e2:p.ws=d.ws:=congrArg (fun x=>x.2.2.2.1) ep
 have:=(y.2.2.1.2.2 p hp).2.2.1
 rw [← e2]
 omega
structure Boz (y:World) (b:Nat) (O:Array Value):Prop where
 c:∀ k,y.cell? ⟨b,k,none⟩=O[k]?
 l:b < y.heap.size
theorem Boz.keep {y z:World} {b:Nat} {O:Array Value} (h:Boz y b O) (hb:Below y.heap.size y z):Boz z b O :=
 ⟨fun k=>(hb.cell (p:=⟨b,k,none⟩) h.l).trans (h.c k),Nat.lt_of_lt_of_le h.l hb.size⟩
theorem Boz.new (y:World) (O:Array Value) (t:TypeId):Boz (y.alloc (.cells O t)) y.heap.size O :=
 ⟨fun k=>by simp [go_sem],by simp⟩
def depsAny (ops:Array Oper):Bool:=(List.range ops.size).all fun i=>match ops[i]? with | some o=>o.after.toList.all (fun e=>!Region.binds .any e || decide (e.on < i)) | none=>true
theorem all_listedA {ops:Array Oper} {listed:Array Bool} (hd:depsAny ops=true) (hr:Region.ready .any ops listed=[]) (hz:listed.size=ops.size):∀ i,i < ops.size→listed.getD i false=true:=by
 intro i
 induction i using Nat.strongRecOn with
 | ind i ih =>
  intro hi
  have hl:listed.getD i false=listed[i]'(by omega):=by simp [Array.getD,show i < listed.size from by omega]
  have hl':listed.getD i true=listed[i]'(by omega):=by simp [Array.getD,show i < listed.size from by omega]
  cases hb:listed[i]'(by omega) with
  | true=>rw [hl,hb]
  | false =>
   exfalso
   have hmem:i∈Region.ready .any ops listed:=by
    simp only [Region.ready,List.mem_filter,List.mem_range,hi,true_and,hl',hb,Bool.not_false,Bool.true_and]
    have ho:ops[i]?=some ops[i]:=Array.getElem?_eq_getElem hi
    rw [ho]
    simp only [Option.map_some,Option.getD_some]
    have h1:=List.all_eq_true.1 hd i (List.mem_range.2 hi)
    rw [ho] at h1
    simp only at h1
    rw [← Array.all_toList]
    refine List.all_eq_true.2 fun e he=>?_
    have h2:=List.all_eq_true.1 h1 e he
    cases hbd:Region.binds .any e
    · simp
    rw [hbd] at h2
    have h3:=of_decide_eq_true (show decide (e.on < i)=true by simpa using h2)
    rw [ih e.on h3 (by omega)]
    simp
   rw [hr] at hmem
   cases hmem
structure Ig (sl:Nat→Nat) (n:Nat) (ops:Array Oper) (a0:Act) (G:Array Bool→World→Nat→Value→Prop) (D:Array Bool→World→Prop) (listed:Array Bool) (a:Act) (w:World):Prop where
 df:a.defers=a0.defers
 sz:a.tmps.size=a0.tmps.size
 out:∀ k,(∀ i,i < n→sl i≠k)→a.tmps.getD k undef=a0.tmps.getD k undef
 lz:listed.size=n
 tr:∀ i j,waits .any ops i j=true→listed.getD i false=true→listed.getD j false=true
 good:∀ i,i < n→listed.getD i false=true→G listed w i (a.tmps.getD (sl i) undef)
 d:D listed w
section
variable {sl:Nat→Nat} {n:Nat} {ops:Array Oper} {a0:Act} {G:Array Bool→World→Nat→Value→Prop} {D:Array Bool→World→Prop} {listed:Array Bool} {a:Act} {w w':World} {i:Nat} {v:Value}
theorem Ig.put (h:Ig sl n ops a0 G D listed a w) (hr:i∈Region.ready .any ops listed) (hi:i < n) (hlt:sl i < a0.tmps.size) (hinj:∀ j,j < n→sl j=sl i→j=i) (hg:G (listed.setIfInBounds i true) w' i v)
  (hk:∀ j u,u=a.tmps.getD (sl j) undef→j < n→j≠i→listed.getD j false=true→G listed w j u→G (listed.setIfInBounds i true) w' j u) (hd:D (listed.setIfInBounds i true) w'):Ig sl n ops a0 G D (listed.setIfInBounds i true) (a.put (some (sl i)) v) w':=by
 have hsz:=h.sz
 have hlz:=h.lz
 refine ⟨h.df,by simpa [Act.put] using hsz, ?_,by simpa using hlz,trT hr (by omega) h.tr, ?_,hd⟩
 ·
  intro k hko
  rw [← h.out k hko]
  simp only [Act.put,Array.getD_eq_getD_getElem?]
  rw [Array.getElem?_setIfInBounds_ne (hko i hi)]
 ·
  intro j hj hl
  by_cases e:j=i
  ·
   subst e
   simp only [Act.put,Array.getD_eq_getD_getElem?]
   rw [Array.getElem?_setIfInBounds_self_of_lt (by omega)]
   exact hg
  rw [setT_ne e] at hl
  have h1:=hk j _ rfl hj e hl (h.good j hj hl)
  simp only [Act.put,Array.getD_eq_getD_getElem?] at h1 ⊢
  rw [Array.getElem?_setIfInBounds_ne (fun e'=>e (hinj j hj e'.symm))]
  exact h1
theorem Ig.nil (h:Ig sl n ops a0 G D listed a w) (hr:i∈Region.ready .any ops listed) (hi:i < n) (hg:∀ u,G (listed.setIfInBounds i true) w' i u)
  (hk:∀ j u,u=a.tmps.getD (sl j) undef→j < n→j≠i→listed.getD j false=true→G listed w j u→G (listed.setIfInBounds i true) w' j u) (hd:D (listed.setIfInBounds i true) w') (u:Value):Ig sl n ops a0 G D (listed.setIfInBounds i true) (a.put none u) w':=by
 have hlz:=h.lz
 refine ⟨h.df,h.sz,h.out,by simpa using hlz,trT hr (by omega) h.tr, ?_,hd⟩
 intro j hj hl
 by_cases e:j=i
 ·
  subst e
  exact hg _
 ·
  rw [setT_ne e] at hl
  exact hk j _ rfl hj e hl (h.good j hj hl)
theorem Ig.shut (h:Ig sl n ops a0 G D listed a w) {j:Nat} (ho:listed.getD i true=false) (hw:waits .any ops j i=true):listed.getD j false=false:=noT (fun hx=>openT ho (h.tr j i hw hx))
end
theorem reg_invG {P:Program} {ops:Array Oper} {Q:Exit→Act→World→Prop} {a0:Act} {w0:World} (sl:Nat→Nat) (n:Nat) (G:Array Bool→World→Nat→Value→Prop) (D:Array Bool→World→Prop)
  (hd:depsAny ops=true) (hops:ops.size=n) (hD:D (Array.replicate ops.size false) w0)
  (done:∀ L a y,(∀ i,i < n→L.getD i false=true)→a.defers=a0.defers→a.tmps.size=a0.tmps.size→(∀ k,(∀ i,i < n→sl i≠k)→a.tmps.getD k undef=a0.tmps.getD k undef)→(∀ i,i < n→G L y i (a.tmps.getD (sl i) undef))→D L y→Q .normal a y)
  (step:∀ listed x y i,Ig sl n ops a0 G D listed x y→i∈Region.ready .any ops listed→i < n→wpOp P ops Q i (Ig sl n ops a0 G D (listed.setIfInBounds i true)) x y) :
  wpAny P .any ops Q ops.size (Array.replicate ops.size false) a0 w0:=by
 have hrep:openOf (Array.replicate ops.size false)≤ops.size:=by
  unfold openOf
  exact Nat.le_trans List.countP_le_length (by simp)
 have hno:∀ k j,(Array.replicate k false).getD j false=false:=fun k j=>by
  simp only [Array.getD_eq_getD_getElem?,Array.getElem?_replicate]
  split <;> rfl
 refine wpAny_inv (Ig sl n ops a0 G D) (fun listed x y i hI hi=>step listed x y i hI hi (by have:=List.mem_range.1 (List.mem_filter.1 hi).1; omega)) ?_ _ _ _ _ hrep ?_
 ·
  intro listed x y hI hr
  have hall:=all_listedA hd hr (by rw [hI.lz,hops])
  exact done listed x y (fun i hi=>hall i (by omega)) hI.df hI.sz hI.out (fun i hi=>hI.good i hi (hall i (by omega))) hI.d
 · exact ⟨rfl,rfl,fun _ _=>rfl,by simp [hops],(fun i j _ h=>by rw [hno] at h; cases h),(fun i _ h=>by rw [hno] at h; cases h),hD⟩
theorem Ig.pu {sl:Nat→Nat} {n:Nat} {ops:Array Oper} {a0:Act} {G:Array Bool→World→Nat→Value→Prop} {D:Array Bool→World→Prop} {listed:Array Bool} {a:Act} {w w':World} {i:Nat} {v:Value} {K:Act→World→Prop} (h:Ig sl n ops a0 G D listed a w) (hK:Hid (∀ a w,Ig sl n ops a0 G D (listed.setIfInBounds i true) a w→K a w)) (hr:i∈Region.ready .any ops listed) (hg:G (listed.setIfInBounds i true) w' i v) (hk:∀ j u,u=a.tmps.getD (sl j) undef→j < n→j≠i→listed.getD j false=true→G listed w j u→G (listed.setIfInBounds i true) w' j u) (hd:D (listed.setIfInBounds i true) w') (hi:i < n:=by omega) (hlt:sl i < a0.tmps.size:=by exact lE rfl) (hinj:∀ j,j < n→sl j=sl i→j=i:=by decide):K (a.put (some (sl i)) v) w':=hK.out _ _ (h.put hr hi hlt hinj hg hk hd)
def slAt (L:List Nat) (i:Nat):Nat:=L.getD i 0
def slOk (ops:Array Oper) (L:List Nat) (sz:Nat):Bool :=
 decide (ops.size=L.length) && depsAny ops && decide (sz≤100000) && (List.range L.length).all fun i=>match ops[i]? with
  | some o=>(match o.dst with | some d=>d == slAt L i && decide (d < sz) | none=>decide (100000≤slAt L i)) && (List.range L.length).all (fun j=>j == i || !(slAt L j == slAt L i))
  | none=>false
def slOut (L:List Nat) (k:Nat):Bool:=L.all fun s=>!(s == k)
def vals (L:List Nat) (a:Act) (i:Nat):Value:=a.tmps.getD (slAt L i) undef
def vr (ops:Array Oper) (V:Nat→Value) (j k:Nat):Value:=bif k == j || waits .any ops j k then V k else undef
def sset (S:Nat→Bool) (i k:Nat):Bool:=k == i || S k
def chain (ops:Array Oper):List Nat→Bool
 | a :: b :: l=>waits .any ops a b && chain ops (b :: l)
 | _=>true
def vset (V:Nat→Value) (i:Nat) (v:Value) (k:Nat):Value:=if k=i then v else V k
structure Yet (ops:Array Oper) (i:Nat) (S:Nat→Bool):Prop where
 n:S i=false
 tr:∀ k j,waits .any ops k j=true→S k=true→S j=true
 l:∀ j,waits .any ops i j=true→S j=true
theorem Yet.no {ops:Array Oper} {i:Nat} {S:Nat→Bool} (h:Yet ops i S):∀ (l:List Nat) (k:Nat),chain ops (k :: l)=true→(k :: l).getLast?=some i→S k=false
 | [],k,_,e=>by simp at e; rw [e]; exact h.n
 | b :: l,k,hc,e=>by
  simp only [chain,Bool.and_eq_true] at hc
  have h1:=h.no l b hc.2 (by rw [← e]; rfl)
  cases hk:S k
  · rfl
  rw [h.tr k b hc.1 hk] at h1; cases h1
structure Iz (L:List Nat) (ops:Array Oper) (a0:Act) (G:World→(Nat→Value)→Nat→Prop) (D:Nat→(Nat→Bool)→World→Prop) (listed:Array Bool) (a:Act) (w:World):Prop where
 df:a.defers=a0.defers
 sz:a.tmps.size=a0.tmps.size
 out:∀ k,slOut L k=true→a.tmps.getD k undef=a0.tmps.getD k undef
 lz:listed.size=L.length
 tr:∀ i j,waits .any ops i j=true→listed.getD i false=true→listed.getD j false=true
 good:∀ i,i < L.length→listed.getD i false=true→G w (vr ops (vals L a) i) i
 d:∃ c,D c (fun k=>listed.getD k false) w∧c+openOf listed≤L.length
def Ct (P:Program) (Q:Exit→Act→World→Prop) (L:List Nat) (ops:Array Oper) (a0:Act) (G:World→(Nat→Value)→Nat→Prop) (D:Nat→(Nat→Bool)→World→Prop) (F:Nat→World→World→Prop) (i:Nat):Prop :=
 ∀ o,ops[i]?=some o→o.guard=none∧∀ x y c S,c < L.length→Hid (Yet ops i S)→Hid (∀ j,waits .any ops i j=true→G y (vr ops (vals L x) j) j)→Hid (∀ k,slOut L k=true→x.tmps.getD k undef=a0.tmps.getD k undef)→Hid (D c S y)→∀ K:Act→World→Prop,Hid (∀ v y',(o.dst=none→v=undef)→G y' (vr ops (vset (vals L x) i v) i) i→D (c+1) (sset S i) y'→F i y y'→K (x.put o.dst v) y')→o.wp P x y K Q
section
variable {P:Program} {Q:Exit→Act→World→Prop} {L:List Nat} {ops:Array Oper} {a0:Act} {G:World→(Nat→Value)→Nat→Prop} {D:Nat→(Nat→Bool)→World→Prop} {F:Nat→World→World→Prop} {i d:Nat}
theorem slOk_at (h:slOk ops L a0.tmps.size=true) (hi:i < L.length) {o:Oper} (ho:ops[i]?=some o):(o.dst=some (slAt L i)∧slAt L i < a0.tmps.size∨o.dst=none∧a0.tmps.size≤slAt L i)∧∀ j,j < L.length→slAt L j=slAt L i→j=i:=by
 unfold slOk at h
 simp only [Bool.and_eq_true,decide_eq_true_eq] at h
 have h1:=List.all_eq_true.1 h.2 i (List.mem_range.2 hi)
 rw [ho] at h1
 simp only [Bool.and_eq_true] at h1
 refine ⟨?_,fun j hj e=>?_⟩
 ·
  cases hd:o.dst with
  | none=>rw [hd] at h1; exact Or.inr ⟨rfl,Nat.le_trans h.1.2 (of_decide_eq_true h1.1)⟩
  | some d =>
   rw [hd] at h1
   simp only [Bool.and_eq_true,beq_iff_eq,decide_eq_true_eq] at h1
   exact Or.inl ⟨by rw [h1.1.1],by rw [← h1.1.1]; exact h1.1.2⟩
 have h2:=List.all_eq_true.1 h1.2 j (List.mem_range.2 hj)
 simp only [Bool.or_eq_true,beq_iff_eq,Bool.not_eq_true',beq_eq_false_iff_ne] at h2
 exact h2.resolve_right (fun h=>h e)
theorem getD_open {listed:Array Bool} {i:Nat} (h:listed.getD i true=false):listed.getD i false=false:=noT (fun h'=>openT h h')
theorem listed_lt {listed:Array Bool} {j:Nat} (h:listed.getD j false=true):j < listed.size:=by
 rcases Nat.lt_or_ge j listed.size with h' | h'
 · exact h'
 rw [Array.getD_eq_getD_getElem?,Array.getElem?_eq_none h'] at h; cases h
theorem vr_eq {V V':Nat→Value} {j:Nat} (h:∀ k,k=j∨waits .any ops j k=true→V' k=V k):vr ops V' j=vr ops V j:=by
 funext k
 unfold vr
 cases hb:(k == j || waits .any ops j k)
 · rfl
 simp only [cond_true]
 refine h k ?_
 simpa [Bool.or_eq_true,beq_iff_eq] using hb
theorem reg_invZ {w0:World} (L:List Nat) (G:World→(Nat→Value)→Nat→Prop) (D:Nat→(Nat→Bool)→World→Prop) (F:Nat→World→World→Prop) (hs:slOk ops L a0.tmps.size=true)
  (hF:∀ i j y y' V S,i≠j→Yet ops i S→S j=true→F i y y'→G y V j→G y' V j) (hD:D 0 (fun _=>false) w0) (ct:∀ i,i < L.length→Ct P Q L ops a0 G D F i)
  (done:∀ a y c,a.defers=a0.defers→a.tmps.size=a0.tmps.size→(∀ k,slOut L k=true→a.tmps.getD k undef=a0.tmps.getD k undef)→(∀ i,i < L.length→G y (vr ops (vals L a) i) i)→c≤L.length→D c (fun k=>decide (k < L.length)) y→Q .normal a y) :
  wpAny P .any ops Q ops.size (Array.replicate ops.size false) a0 w0:=by
 have hsz:ops.size=L.length:=by
  unfold slOk at hs
  simp only [Bool.and_eq_true,decide_eq_true_eq] at hs
  exact hs.1.1.1
 have hdep:depsAny ops=true:=by
  unfold slOk at hs
  simp only [Bool.and_eq_true] at hs
  exact hs.1.1.2
 have hrep:openOf (Array.replicate ops.size false)=ops.size:=by
  simp [openOf,List.countP_replicate]
 have hno:∀ j,(Array.replicate ops.size false).getD j false=false:=fun j=>by
  simp only [Array.getD_eq_getD_getElem?,Array.getElem?_replicate]
  split <;> rfl
 refine wpAny_inv (Iz L ops a0 G D) ?_ ?_ _ _ _ _ (Nat.le_of_eq hrep) ?_
 ·
  intro listed x y i hI hi
  have hlt:i < L.length:=by have:=List.mem_range.1 (List.mem_filter.1 hi).1; omega
  have ho:ops[i]?=some (ops[i]'(by omega)):=Array.getElem?_eq_getElem (by omega)
  obtain ⟨hg,hw⟩:=ct i hlt _ ho
  obtain ⟨hsl,hinj⟩:=slOk_at hs hlt ho
  obtain ⟨c,hc,hco⟩:=hI.d
  have hopen:=ready_open hi
  have hop:=openOf_set hopen
  have hlz:=hI.lz
  have hne:∀ j,listed.getD j false=true→j≠i:=fun j hj e=>by rw [e] at hj; exact openT hopen hj
  refine wpOp_plain ho hg (hw x y c _ (by omega) ⟨getD_open hopen,hI.tr,fun j hj=>waits_of hi hj⟩ (fun j hj=>hI.good j (by rw [← hlz]; exact listed_lt (waits_of hi hj)) (waits_of hi hj)) hI.out hc _ ?_)
  intro v y' hv g1 d1 f1
  have hV:∀ k,k < L.length→k≠i→vals L (x.put (ops[i]'(by omega)).dst v) k=vals L x k:=by
   intro k hk hki
   unfold vals
   rcases hsl with ⟨hd,hb⟩ | ⟨hd,hb⟩
   ·
    rw [hd]
    simp only [Act.put,Array.getD_eq_getD_getElem?]
    rw [Array.getElem?_setIfInBounds_ne (fun e'=>hki (hinj k hk e'.symm))]
   rw [hd]; rfl
  have hmem:slAt L i∈L:=by
   unfold slAt
   rw [List.getD_eq_getElem?_getD,List.getElem?_eq_getElem hlt]
   exact List.getElem_mem hlt
  refine ⟨?_, ?_, ?_,by simpa using hlz,trT hi (by omega) hI.tr, ?_,c+1, ?_,by omega⟩
  · rcases hsl with ⟨hd,-⟩ | ⟨hd,-⟩ <;> rw [hd] <;> exact hI.df
  ·
   rcases hsl with ⟨hd,-⟩ | ⟨hd,-⟩
   · rw [hd]; simpa [Act.put] using hI.sz
   rw [hd]; exact hI.sz
  ·
   intro k hk
   rcases hsl with ⟨hd,-⟩ | ⟨hd,-⟩
   ·
    rw [hd,← hI.out k hk]
    simp only [Act.put,Array.getD_eq_getD_getElem?]
    rw [Array.getElem?_setIfInBounds_ne]
    intro e
    have:=List.all_eq_true.1 hk _ hmem
    simp [e] at this
   rw [hd]; exact hI.out k hk
  ·
   intro j hj hl
   by_cases e:j=i
   ·
    subst e
    rw [vr_eq (V:=vset (vals L x) j v)]
    · exact g1
    rintro k (rfl | hk)
    ·
     unfold vset
     rw [if_pos rfl]
     unfold vals
     rcases hsl with ⟨hd,hb⟩ | ⟨hd,hb⟩
     ·
      rw [hd]
      simp only [Act.put,Array.getD_eq_getD_getElem?]
      rw [Array.getElem?_setIfInBounds_self_of_lt (by rw [hI.sz]; exact hb)]
      rfl
     rw [hv hd,hd]
     show x.tmps.getD _ undef=undef
     rw [Array.getD_eq_getD_getElem?,Array.getElem?_eq_none (by rw [hI.sz]; exact hb)]
     rfl
    have hkl:=waits_of hi hk
    rw [hV k (by rw [← hlz]; exact listed_lt hkl) (hne k hkl)]
    unfold vset
    rw [if_neg (hne k hkl)]
   rw [setT_ne e] at hl
   rw [vr_eq (V:=vals L x)]
   · exact hF i j y y' _ (fun k=>listed.getD k false) (fun h=>e h.symm) ⟨getD_open hopen,hI.tr,fun j hj=>waits_of hi hj⟩ hl f1 (hI.good j hj hl)
   rintro k (rfl | hk)
   · exact hV k hj e
   have hkl:=hI.tr j k hk hl
   exact hV k (by rw [← hlz]; exact listed_lt hkl) (hne k hkl)
  have e:sset (fun k=>listed.getD k false) i=fun k=>(listed.setIfInBounds i true).getD k false:=by
   funext k
   unfold sset
   by_cases e:k=i
   · rw [e,setT_same (by omega)]; simp
   rw [setT_ne e]; simp [e]
  rw [← e]
  exact d1
 ·
  intro listed x y hI hr
  have hall:=all_listedA hdep hr (by rw [hI.lz,hsz])
  obtain ⟨c,hc,hco⟩:=hI.d
  exact done x y c hI.df hI.sz hI.out (fun i hi=>hI.good i hi (hall i (by omega))) (by omega) (by
   have e:(fun k=>listed.getD k false)=fun k=>decide (k < L.length):=by
    funext k
    by_cases hk:k < L.length
    · rw [hall k (by omega)]; simp [hk]
    rw [Array.getD_eq_getD_getElem?,Array.getElem?_eq_none (by rw [hI.lz]; omega)]; simp [hk]
   rw [← e]
   exact hc)
 ·
  exact ⟨rfl,rfl,fun _ _=>rfl,by simp [hsz],(fun i j _ h=>by rw [hno] at h; cases h),(fun i _ h=>by rw [hno] at h; cases h),0,by
   have e:(fun k=>(Array.replicate ops.size false).getD k false)=fun _=>false:=funext hno
   rw [e]
   exact hD,by rw [hrep]; omega⟩
theorem ct {o:Oper} (ho:ops[i]?=some o) (hg:o.guard=none) (hd:o.dst=some d)
  (h:∀ x y c S,c < L.length→Hid (Yet ops i S)→Hid (∀ j,waits .any ops i j=true→G y (vr ops (vals L x) j) j)→Hid (∀ k,slOut L k=true→x.tmps.getD k undef=a0.tmps.getD k undef)→Hid (D c S y)→∀ K:Act→World→Prop,Hid (∀ v y',G y' (vr ops (vset (vals L x) i v) i) i→D (c+1) (sset S i) y'→F i y y'→K (x.put o.dst v) y')→o.wp P x y K Q):Ct P Q L ops a0 G D F i:=by
 intro o' ho'
 rw [ho] at ho'
 cases ho'
 exact ⟨hg,fun x y c S hc yy g o dd K hK=>h x y c S hc yy g o dd K (fun v y' g1 d1 f1=>hK.out v y' (fun e=>by rw [hd] at e; cases e) g1 d1 f1)⟩
theorem ctn {o:Oper} (ho:ops[i]?=some o) (hg:o.guard=none)
  (h:∀ x y c S,c < L.length→Hid (Yet ops i S)→Hid (∀ j,waits .any ops i j=true→G y (vr ops (vals L x) j) j)→Hid (∀ k,slOut L k=true→x.tmps.getD k undef=a0.tmps.getD k undef)→Hid (D c S y)→∀ K:Act→World→Prop,Hid (∀ y',G y' (vr ops (vset (vals L x) i undef) i) i→D (c+1) (sset S i) y'→F i y y'→K (x.put o.dst undef) y')→o.wp P x y K Q):Ct P Q L ops a0 G D F i:=by
 intro o' ho'
 rw [ho] at ho'
 cases ho'
 exact ⟨hg,fun x y c S hc yy g o dd K hK=>h x y c S hc yy g o dd K (fun y' g1 d1 f1=>hK.out undef y' (fun _=>rfl) g1 d1 f1)⟩
theorem ctp (hD:∀ c S y,D c S y→D (c+1) (sset S i) y) (hR:∀ y,F i y y) {o:Oper} (ho:ops[i]?=some o) (hg:o.guard=none) (hd:o.dst=some d)
  (h:∀ x y c S,Hid (Yet ops i S)→Hid (∀ j,waits .any ops i j=true→G y (vr ops (vals L x) j) j)→Hid (∀ k,slOut L k=true→x.tmps.getD k undef=a0.tmps.getD k undef)→Hid (D c S y)→∀ K:Act→World→Prop,Hid (∀ v,G y (vr ops (vset (vals L x) i v) i) i→K (x.put o.dst v) y)→o.wp P x y K Q):Ct P Q L ops a0 G D F i :=
 ct ho hg hd (fun x y c S _ yy g o d K hK=>h x y c S yy g o d K (fun v hv=>hK.out v y hv (hD c S y d.out) (hR y)))
end
def slIn (L:List Nat) (lo n sz:Nat):Bool:=L.all (fun s=>(decide (lo≤s) && decide (s < lo+n)) || decide (100000≤s)) && decide (sz≤100000) && decide (lo+n≤sz)
theorem frameZ {a a0:Act} {L:List Nat} (lo n:Nat) (df:a.defers=a0.defers) (sz:a.tmps.size=a0.tmps.size) (out:∀ k,slOut L k=true→a.tmps.getD k undef=a0.tmps.getD k undef) (h:slIn L lo n a0.tmps.size=true) :
  ∃ f:Nat→Value,a=⟨(a0.tmps.toList.take lo++((List.range n).map f++a0.tmps.toList.drop (lo+n))).toArray,a0.defers⟩∧∀ k,k < n→f k=a.tmps.getD (lo+k) undef:=by
 unfold slIn at h
 simp only [Bool.and_eq_true,decide_eq_true_eq] at h
 obtain ⟨⟨h1,h2⟩,h3⟩:=h
 obtain ⟨l,hl,ha⟩:=frameP_of (lo:=lo) (n:=n) df sz (fun k hk=>by
  by_cases hz:k < a0.tmps.size
  ·
   refine out k (List.all_eq_true.2 fun s hs=>?_)
   have h4:=List.all_eq_true.1 h1 s hs
   simp only [Bool.or_eq_true,Bool.and_eq_true,decide_eq_true_eq] at h4
   simp only [Bool.not_eq_true',beq_eq_false_iff_ne]
   omega
  rw [Array.getD_eq_getD_getElem?,Array.getD_eq_getD_getElem?,Array.getElem?_eq_none (by omega),Array.getElem?_eq_none (by omega)]) h3
 refine ⟨fun k=>a.tmps.getD (lo+k) undef, ?_,fun _ _=>rfl⟩
 have hm:(List.range n).map (fun k=>a.tmps.getD (lo+k) undef)=l:=by
  apply List.ext_getElem
  · simp [hl]
  intro k hk1 hk2
  simp only [List.length_map,List.length_range] at hk1
  rw [List.getElem_map,List.getElem_range,ha,Array.getD_eq_getD_getElem?,List.getElem?_toArray,List.getElem?_append_right (by simp; omega),List.getElem?_append_left (by simp; omega)]
  have e:lo+k - (List.take lo a0.tmps.toList).length=k:=by simp; omega
  rw [e,List.getElem?_eq_getElem hk2]
  rfl
 rw [hm]
 exact ha
def slIn2 (L:List Nat) (lo1 n1 lo2 n2 sz:Nat):Bool:=L.all (fun s=>(decide (lo1≤s) && decide (s < lo1+n1)) || (decide (lo2≤s) && decide (s < lo2+n2)) || decide (100000≤s)) && decide (sz≤100000) && decide (lo1+n1≤lo2) && decide (lo2+n2≤sz)
theorem frameZ2 {a a0:Act} {L:List Nat} (lo1 n1 lo2 n2:Nat) (df:a.defers=a0.defers) (sz:a.tmps.size=a0.tmps.size) (out:∀ k,slOut L k=true→a.tmps.getD k undef=a0.tmps.getD k undef) (h:slIn2 L lo1 n1 lo2 n2 a0.tmps.size=true) :
  ∃ f:Nat→Value,a=⟨(a0.tmps.toList.take lo1++((List.range n1).map f++((a0.tmps.toList.drop (lo1+n1)).take (lo2 - (lo1+n1))++((List.range n2).map (fun k=>f (n1+k))++a0.tmps.toList.drop (lo2+n2))))).toArray,a0.defers⟩∧(∀ k,k < n1→f k=a.tmps.getD (lo1+k) undef)∧∀ k,k < n2→f (n1+k)=a.tmps.getD (lo2+k) undef:=by
 unfold slIn2 at h
 simp only [Bool.and_eq_true,decide_eq_true_eq] at h
 obtain ⟨⟨⟨h1,h2⟩,h3⟩,h4⟩:=h
 have hs:∀ k,k < lo1∨(lo1+n1≤k∧k < lo2)∨lo2+n2≤k→a.tmps.toList[k]?=a0.tmps.toList[k]?:=by
  intro k hk
  by_cases hz:k < a0.tmps.size
  ·
   have e:=out k (List.all_eq_true.2 fun s hs=>by
    have h5:=List.all_eq_true.1 h1 s hs
    simp only [Bool.or_eq_true,Bool.and_eq_true,decide_eq_true_eq] at h5
    simp only [Bool.not_eq_true',beq_eq_false_iff_ne]
    omega)
   simp only [Array.getD_eq_getD_getElem?] at e
   rw [Array.getElem?_eq_getElem hz,Array.getElem?_eq_getElem (by omega)] at e
   rw [Array.getElem?_toList,Array.getElem?_toList,Array.getElem?_eq_getElem hz,Array.getElem?_eq_getElem (by omega)]
   simpa using e
  rw [Array.getElem?_toList,Array.getElem?_toList,Array.getElem?_eq_none (by omega),Array.getElem?_eq_none (by omega)]
 have hg:∀ k,k < a0.tmps.size→a.tmps.toList[k]?=some (a.tmps.getD k undef):=by
  intro k hk
  rw [Array.getElem?_toList,Array.getD_eq_getD_getElem?,Array.getElem?_eq_getElem (by omega)]
  rfl
 refine ⟨fun k=>if k < n1 then a.tmps.getD (lo1+k) undef else a.tmps.getD (lo2+(k - n1)) undef, ?_,fun k hk=>by simp [hk],fun k hk=>?_⟩
 ·
  have hl0:a0.tmps.toList.length=a0.tmps.size:=by simp
  have e:a.tmps.toList=_:=List.ext_getElem? (l₂:=a0.tmps.toList.take lo1++((List.range n1).map (fun k=>if k < n1 then a.tmps.getD (lo1+k) undef else a.tmps.getD (lo2+(k - n1)) undef)++((a0.tmps.toList.drop (lo1+n1)).take (lo2 - (lo1+n1))++((List.range n2).map (fun k=>if n1+k < n1 then a.tmps.getD (lo1+(n1+k)) undef else a.tmps.getD (lo2+(n1+k - n1)) undef)++a0.tmps.toList.drop (lo2+n2))))) (fun i=>by
   rcases (by omega:i < lo1∨(lo1≤i∧i < lo1+n1)∨(lo1+n1≤i∧i < lo2)∨(lo2≤i∧i < lo2+n2)∨lo2+n2≤i) with hi | hi | hi | hi | hi
   ·
    rw [List.getElem?_append_left (by simp; omega),List.getElem?_take_of_lt hi]
    exact hs i (Or.inl hi)
   ·
    rw [List.getElem?_append_right (by simp; omega),List.getElem?_append_left (by simp; omega),hg i (by omega)]
    simp only [List.length_take,hl0,List.getElem?_map]
    rw [List.getElem?_range (by omega)]
    simp only [Option.map_some]
    rw [if_pos (by omega)]
    congr 2
    omega
   ·
    rw [List.getElem?_append_right (by simp; omega),List.getElem?_append_right (by simp; omega),List.getElem?_append_left (by simp; omega)]
    simp only [List.length_take,List.length_map,List.length_range,hl0]
    rw [List.getElem?_take_of_lt (by omega),List.getElem?_drop,hs i (Or.inr (Or.inl hi))]
    congr 1
    omega
   ·
    rw [List.getElem?_append_right (by simp; omega),List.getElem?_append_right (by simp; omega),List.getElem?_append_right (by simp; omega),List.getElem?_append_left (by simp; omega),hg i (by omega)]
    simp only [List.length_take,List.length_map,List.length_range,List.length_drop,hl0,List.getElem?_map]
    rw [List.getElem?_range (by omega)]
    simp only [Option.map_some]
    rw [if_neg (by omega)]
    congr 2
    omega
   rw [List.getElem?_append_right (by simp; omega),List.getElem?_append_right (by simp; omega),List.getElem?_append_right (by simp; omega),List.getElem?_append_right (by simp; omega)]
   simp only [List.length_take,List.length_map,List.length_range,List.length_drop,hl0]
   rw [List.getElem?_drop,hs i (Or.inr (Or.inr hi))]
   congr 1
   omega)
  obtain ⟨⟨t⟩,d⟩:=a
  simp only at e df
  rw [df]
  congr 1
  rw [← e]
 ·
  show (if n1+k < n1 then _ else _)=_
  rw [if_neg (by omega)]
  congr 1
  omega
end Go.Proofs.YtcjhlhijdacinaaGreatDoor
