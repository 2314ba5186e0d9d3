import Derived.Test.YtcjhlhijdacinaaGreatDoorJ10
import Derived.Test.YtcjhlhijdacinaaGreatDoorJ11
import Derived.Test.YtcjhlhijdacinaaGreatDoorJ02
import Derived.Laws.StructEq
import Derived.Test.YtcjhlhijdacinaaGreatDoorJ06
import Derived.Test.YtcjhlhijdacinaaGreatDoorJ05
import Derived.Laws.MakeOwn
import Derived.Test.YtcjhlhijdacinaaGreatDoorJ01
import Derived.Laws.AppendOwn
import Derived.Deep.RegionHeld3
import Derived.Laws.Pointers
import Derived.StillTactics
import Derived.Deep.QuietTactic
import Derived.BigQuiet
namespace Go.Proofs.YtcjhlhijdacinaaGreatDoor
open Go.RowKit Go.Maps Go.WideMaps
set_option linter.unusedVariables false
structure TakeP where
 k:Int
 b:ByteArray
 h:ByteArray
 c:ByteArray
 t:Int
structure TakeP.fits (p:TakeP):Prop where
 b:p.b.size≤maxLen
 h:p.h.size≤maxLen
 c:p.c.size≤maxLen
def eqT (a b:ByteArray):Bool:=a.toList == b.toList
theorem eqT_iff {a b:ByteArray}:eqT a b=true↔a=b:=by
 unfold eqT
 rw [beq_iff_eq,ByteArray.toList_eq,ByteArray.toList_eq]
 exact ⟨Ord.ba_ext,fun e=>by rw [e]⟩
def TakeP.good (p:TakeP):Bool:=nameB p.b && (nameB p.c && (holdB p.h && inB p.t 0 1000000))
def askW (p:TakeP) (r:W.WantD):Bool:=eqT r.c p.c && eqT r.h p.h
def wantedW (p:TakeP) (ws:List W.WantD):Bool:=ws.any (askW p)
def wantedL (p:TakeP) (ps:List P.PlaceD):Bool:=ps.any (fun q=>eqT q.b p.b && wantedW p q.ws)
def overG (t:Int) (g:G.GrantD):Bool:=decide (g.u≤t)
def mineG (p:TakeP) (g:G.GrantD):Bool:=eqT g.b p.b && (eqT g.c p.c && decide (g.t≤p.t))
def mayG (t:Int) (p:TakeP) (gs:List G.GrantD):Bool:=gs.all (fun g=>!eqT g.h p.h || (overG t g || mineG p g))
def hasG (h:ByteArray) (gs:List G.GrantD):Bool:=gs.any (fun g=>eqT g.h h)
def roomG (h:ByteArray) (gs:List G.GrantD):Bool:=hasG h gs || decide (gs.length < 40)
def stillG (t:Int) (gs:List G.GrantD):List G.GrantD:=gs.filter (fun g=>!overG t g)
def leftG (t:Int) (h:ByteArray) (gs:List G.GrantD):List G.GrantD:=if roomG h gs=true then gs else stillG t gs
def newG (t:Int) (p:TakeP):G.GrantD:=⟨p.h,p.b,p.c,p.t,t+32⟩
def backB (p:TakeP) (g:G.GrantD):Bool:=eqT g.b p.b && decide (g.t≤p.t)
def backG (p:TakeP) (gs:List G.GrantD):List G.GrantD:=gs.filter (fun g=>!(eqT g.h p.h && backB p g))
abbrev SaysC:=Int × ByteArray × Int × List W.WantD × ByteArray × ByteArray × Int
def takeF (t:Int) (gs:List G.GrantD) (ps:List P.PlaceD) (p:TakeP):List G.GrantD × List SaysC :=
 if p.good=true then
  if p.k=2 then
   if wantedL p ps=true∧mayG t p gs=true∧roomG p.h (leftG t p.h gs)=true then (Ord.insS G.keyV (newG t p) (leftG t p.h gs),[(3,p.b,0,[],p.h,p.c,p.t)]) else (gs,[])
  else if p.k=4 then (backG p gs,[(5,p.b,0,[],p.h,⟨#[]⟩,p.t)])
  else (gs,[])
 else (gs,[])
def TakeLSay (t:Int) (gs:List G.GrantD) (ps:List P.PlaceD) (p:TakeP) (t':Int) (gs':List G.GrantD) (qs:List P.PlaceD) (ds:List Pc.PcD):Prop :=
 (¬ P.LandSay t gs ps∧t'=0∧gs'=[]∧qs=[]∧ds=[])∨(P.LandSay t gs ps∧t'=t∧P.Like qs ps∧gs'=(takeF t gs ps p).1∧ds.map Pc.PcD.says=(takeF t gs ps p).2)
theorem wantedL_like {p:TakeP}:∀ {ps qs:List P.PlaceD},P.Like ps qs→wantedL p ps=wantedL p qs
 | [],[],_=>rfl
 | [],_ :: _,h=>by cases h
 | _ :: _,[],h=>by cases h
 | x :: ps,y :: qs,h=>by
  have h0:=P.Like.at h (k:=0) rfl rfl
  have ih:=wantedL_like (p:=p) (List.cons.inj h).2
  unfold wantedL at ih ⊢
  rw [List.any_cons,List.any_cons,ih,h0.1,h0.2.2]
theorem takeF_like {t:Int} {gs:List G.GrantD} {p:TakeP} {ps qs:List P.PlaceD} (h:P.Like ps qs):takeF t gs ps p=takeF t gs qs p:=by
 unfold takeF
 rw [wantedL_like h]
theorem takeL_one {t:Int} {gs:List G.GrantD} {p:TakeP} {ps ps':List P.PlaceD} {t1 t2:Int} {g1 g2:List G.GrantD} {q1 q2:List P.PlaceD} {d1 d2:List Pc.PcD} (hl:P.Like ps ps') (h1:TakeLSay t gs ps p t1 g1 q1 d1) (h2:TakeLSay t gs ps' p t2 g2 q2 d2):t1=t2∧g1=g2∧P.Like q1 q2∧Pc.Like d1 d2:=by
 rcases h1 with ⟨n1,rfl,rfl,rfl,rfl⟩ | ⟨y1,rfl,l1,rfl,e1⟩
 ·
  rcases h2 with ⟨n2,rfl,rfl,rfl,rfl⟩ | ⟨y2,-⟩
  · exact ⟨rfl,rfl,rfl,rfl⟩
  exact (n1 ((P.like_says hl).2 y2)).elim
 rcases h2 with ⟨n2,-⟩ | ⟨y2,rfl,l2,rfl,e2⟩
 · exact (n2 ((P.like_says hl).1 y1)).elim
 have e:=fun t=>takeF_like (t:=t) (gs:=gs) (p:=p) hl
 refine ⟨rfl,by rw [e],(l1.trans hl).trans l2.symm, ?_⟩
 unfold Pc.Like
 rw [e1,e2,e]
theorem srtG_one {gs:List G.GrantD} (hs:G.Srt gs) {r g:G.GrantD} (hr:r∈gs) (hg:g∈gs) (e:g.h=r.h):g=r:=by
 have h:∀ {x y:G.GrantD},x∈gs→y∈gs→x=y∨bytesBefore (G.keyV x) (G.keyV y)=true∨bytesBefore (G.keyV y) (G.keyV x)=true:=by
  intro x y hx hy
  obtain ⟨i,hi⟩:=List.getElem?_of_mem hx
  obtain ⟨j,hj⟩:=List.getElem?_of_mem hy
  obtain ⟨a1,rfl⟩:=List.getElem?_eq_some_iff.1 hi
  obtain ⟨a2,rfl⟩:=List.getElem?_eq_some_iff.1 hj
  rcases Nat.lt_trichotomy i j with h | h | h
  · exact Or.inr (Or.inl (List.pairwise_iff_getElem.1 hs i j a1 a2 h))
  · subst h; exact Or.inl rfl
  exact Or.inr (Or.inr (List.pairwise_iff_getElem.1 hs j i a2 a1 h))
 have ek:G.keyV g=G.keyV r:=by unfold G.keyV; rw [e]
 rcases h hg hr with h | h | h
 · exact h
 · exact (Ord.before_ne h ek).elim
 exact (Ord.before_ne h ek.symm).elim
theorem may_of {t:Int} {p:TakeP} {gs:List G.GrantD} (hs:G.Srt gs) {r:G.GrantD} (hr:r∈gs) (e:r.h=p.h):mayG t p gs=(overG t r || mineG p r):=by
 unfold mayG
 cases hx:(overG t r || mineG p r)
 ·
  rw [List.all_eq_false]
  exact ⟨r,hr,by rw [eqT_iff.2 e,hx]; decide⟩
 rw [List.all_eq_true]
 intro g hg
 cases he:eqT g.h p.h
 · rfl
 rw [srtG_one hs hr hg ((eqT_iff.1 he).trans e.symm),hx]; rfl
theorem may_none {t:Int} {p:TakeP} {gs:List G.GrantD} (h:∀ g∈gs,g.h≠p.h):mayG t p gs=true:=by
 unfold mayG
 rw [List.all_eq_true]
 intro g hg
 cases he:eqT g.h p.h
 · rfl
 exact (h g hg (eqT_iff.1 he)).elim
theorem has_of {h:ByteArray} {gs:List G.GrantD} {r:G.GrantD} (hr:r∈gs) (e:r.h=h):hasG h gs=true:=by
 unfold hasG
 rw [List.any_eq_true]
 exact ⟨r,hr,eqT_iff.2 e⟩
theorem has_none {h:ByteArray} {gs:List G.GrantD} (hn:∀ g∈gs,g.h≠h):hasG h gs=false:=by
 unfold hasG
 rw [List.any_eq_false]
 exact fun g hg he=>hn g hg (eqT_iff.1 he)
theorem has_false {h:ByteArray} {gs:List G.GrantD} (hf:hasG h gs=false):∀ g∈gs,g.h≠h:=fun g hg e=>by
 rw [has_of hg e] at hf
 cases hf
theorem srtP_one {ps:List P.PlaceD} (hs:Ord.Srt keyP ps) {r g:P.PlaceD} (hr:r∈ps) (hg:g∈ps) (e:g.b=r.b):g=r:=by
 have h:∀ {x y:P.PlaceD},x∈ps→y∈ps→x=y∨bytesBefore (keyP x) (keyP y)=true∨bytesBefore (keyP y) (keyP x)=true:=by
  intro x y hx hy
  obtain ⟨i,hi⟩:=List.getElem?_of_mem hx
  obtain ⟨j,hj⟩:=List.getElem?_of_mem hy
  obtain ⟨a1,rfl⟩:=List.getElem?_eq_some_iff.1 hi
  obtain ⟨a2,rfl⟩:=List.getElem?_eq_some_iff.1 hj
  rcases Nat.lt_trichotomy i j with h | h | h
  · exact Or.inr (Or.inl (List.pairwise_iff_getElem.1 hs i j a1 a2 h))
  · subst h; exact Or.inl rfl
  exact Or.inr (Or.inr (List.pairwise_iff_getElem.1 hs j i a2 a1 h))
 have ek:keyP g=keyP r:=by unfold keyP; rw [e]
 rcases h hg hr with h | h | h
 · exact h
 · exact (Ord.before_ne h ek).elim
 exact (Ord.before_ne h ek.symm).elim
theorem wanted_of {p:TakeP} {ps:List P.PlaceD} (hs:Ord.Srt keyP ps) {r:P.PlaceD} (hr:r∈ps) (e:r.b=p.b):wantedL p ps=wantedW p r.ws:=by
 unfold wantedL
 cases hx:wantedW p r.ws
 ·
  rw [List.any_eq_false]
  intro g hg h
  rw [Bool.and_eq_true] at h
  have hgr:=srtP_one hs hr hg ((eqT_iff.1 h.1).trans e.symm)
  rw [hgr,hx] at h
  cases h.2
 rw [List.any_eq_true]
 exact ⟨r,hr,by rw [eqT_iff.2 e,hx]; rfl⟩
theorem wanted_none {p:TakeP} {ps:List P.PlaceD} (h:∀ q∈ps,q.b≠p.b):wantedL p ps=false:=by
 unfold wantedL
 rw [List.any_eq_false]
 intro g hg hh
 rw [Bool.and_eq_true] at hh
 exact h g hg (eqT_iff.1 hh.1)
theorem out_back {p:TakeP} {gs:List G.GrantD} (hs:G.Srt gs) {r:G.GrantD} (hr:r∈gs) (e:r.h=p.h) (hb:backB p r=true):Ord.out G.keyV p.h.data.toList gs=backG p gs:=by
 unfold Ord.out backG
 refine List.filter_congr fun g hg=>?_
 congr 1
 cases he:eqT g.h p.h
 ·
  cases hk:(G.keyV g == p.h.data.toList)
  · rfl
  have:g.h=p.h:=Ord.ba_ext (by simpa [G.keyV] using hk)
  rw [eqT_iff.2 this] at he
  cases he
 have h1:=eqT_iff.1 he
 rw [srtG_one hs hr hg (h1.trans e.symm),hb,G.keyV,e]
 simp
theorem back_same {p:TakeP} {gs:List G.GrantD} (h:∀ g∈gs,g.h=p.h→backB p g=false):backG p gs=gs:=by
 unfold backG
 rw [List.filter_eq_self]
 intro g hg
 cases he:eqT g.h p.h
 · rfl
 rw [h g hg (eqT_iff.1 he)]; rfl
end Go.Proofs.YtcjhlhijdacinaaGreatDoor
namespace Go.Proofs.YtcjhlhijdacinaaGreatDoor
open Go.RowKit Go.Maps Go.WideMaps
set_option linter.unusedVariables false
namespace Ord
section
variable {α:Type} (key:α→List UInt8)
theorem insS_self (r:α):∀ l:List α,r∈insS key r l
 | []=>by simp [insS]
 | y :: l=>by
  have:=insS_self r l
  rw [insS]
  split
  · exact List.mem_cons_of_mem _ this
  split <;> exact List.mem_cons_self ..
theorem insS_twice (r:α) (hrr:bytesBefore (key r) (key r)=false):∀ l:List α,insS key r (insS key r l)=insS key r l
 | []=>by simp [insS,hrr]
 | y :: l=>by
  have ih:=insS_twice r hrr l
  by_cases h1:bytesBefore (key y) (key r)=true
  ·
   have e:insS key r (y :: l)=y :: insS key r l:=by rw [insS,if_pos h1]
   rw [e,insS,if_pos h1,ih]
  by_cases h2:key y=key r
  ·
   have e:insS key r (y :: l)=r :: l:=by rw [insS,if_neg h1,if_pos h2]
   rw [e,insS,if_neg (by rw [hrr]; simp),if_pos rfl]
  have e:insS key r (y :: l)=r :: y :: l:=by rw [insS,if_neg h1,if_neg h2]
  rw [e,insS,if_neg (by rw [hrr]; simp),if_pos rfl]
theorem insS_len_of (r:α):∀ l:List α,Srt key l→(∃ y∈l,key y=key r)→(insS key r l).length=l.length
 | [],_,⟨y,hy,_⟩=>by cases hy
 | y :: l,hs,⟨z,hz,e⟩=>by
  have hl:Srt key l:=(List.pairwise_cons.1 hs).2
  have hy:∀ z∈l,bytesBefore (key y) (key z)=true:=(List.pairwise_cons.1 hs).1
  rw [insS]
  by_cases h1:bytesBefore (key y) (key r)=true
  ·
   rw [if_pos h1]
   rcases List.mem_cons.1 hz with rfl | hz
   · exact (before_ne h1 e).elim
   simp [insS_len_of r l hl ⟨z,hz,e⟩]
  rw [if_neg h1]
  by_cases h2:key y=key r
  · rw [if_pos h2]; simp
  rcases List.mem_cons.1 hz with rfl | hz
  · exact (h2 e).elim
  exact (h1 (by rw [← e]; exact hy z hz)).elim
end
end Ord
theorem before_self (x:List UInt8):bytesBefore x x=false:=by
 cases h:bytesBefore x x
 · rfl
 exact (Ord.before_ne h rfl).elim
theorem srt_insG {r:G.GrantD} {gs:List G.GrantD} (h:G.Srt gs):G.Srt (Ord.insS G.keyV r gs):=Ord.insS_srt G.keyV r gs h
theorem left_sub {t:Int} {h:ByteArray} {gs:List G.GrantD}:(leftG t h gs).Sublist gs:=by
 unfold leftG stillG
 split
 · exact List.Sublist.refl _
 exact List.filter_sublist
theorem asc_srtG {gs:List G.GrantD} (h:G.Srt gs):G.AscN gs gs.length:=by
 intro j q r hj hq hr
 obtain ⟨a1,rfl⟩:=List.getElem?_eq_some_iff.1 hq
 obtain ⟨a2,rfl⟩:=List.getElem?_eq_some_iff.1 hr
 have:=List.pairwise_iff_getElem.1 h j (j+1) a1 a2 (by omega)
 rw [Ord.less_before,ByteArray.toList_eq,ByteArray.toList_eq]
 exact this
theorem backG_twice {p:TakeP} {gs:List G.GrantD}:backG p (backG p gs)=backG p gs:=by
 unfold backG
 rw [List.filter_filter]
 congr 1
 funext g
 simp
theorem takeF_again {t:Int} {gs:List G.GrantD} {ps:List P.PlaceD} {p:TakeP} (hs:G.Srt gs):takeF t (takeF t gs ps p).1 ps p=takeF t gs ps p:=by
 by_cases hg:p.good=true
 ·
  by_cases h2:p.k=2
  ·
   by_cases hc:wantedL p ps=true∧mayG t p gs=true∧roomG p.h (leftG t p.h gs)=true
   ·
    have e:takeF t gs ps p=(Ord.insS G.keyV (newG t p) (leftG t p.h gs),[(3,p.b,0,[],p.h,p.c,p.t)]):=by
     unfold takeF; rw [if_pos hg,if_pos h2,if_pos hc]
    rw [e]
    have hS:G.Srt (Ord.insS G.keyV (newG t p) (leftG t p.h gs)):=srt_insG (List.Pairwise.sublist left_sub hs)
    have hm:newG t p∈Ord.insS G.keyV (newG t p) (leftG t p.h gs):=Ord.insS_self ..
    have hR:roomG p.h (Ord.insS G.keyV (newG t p) (leftG t p.h gs))=true:=by
     unfold roomG; rw [has_of (h:=p.h) hm rfl]; rfl
    have hL:leftG t p.h (Ord.insS G.keyV (newG t p) (leftG t p.h gs))=Ord.insS G.keyV (newG t p) (leftG t p.h gs):=by
     rw [leftG,if_pos hR]
    have hM:mayG t p (Ord.insS G.keyV (newG t p) (leftG t p.h gs))=true:=by
     rw [may_of hS hm rfl]
     have:mineG p (newG t p)=true:=by
      unfold mineG newG
      simp [eqT]
     rw [this,Bool.or_true]
    unfold takeF
    rw [if_pos hg,if_pos h2,if_pos ⟨hc.1,hM,by rw [hL]; exact hR⟩,hL,Ord.insS_twice _ _ (before_self _)]
   have e:takeF t gs ps p=(gs,[]):=by unfold takeF; rw [if_pos hg,if_pos h2,if_neg hc]
   rw [e]; exact e
  by_cases h4:p.k=4
  ·
   unfold takeF
   rw [if_pos hg,if_neg h2,if_pos h4,if_pos hg,if_neg h2,if_pos h4,backG_twice]
  have e:takeF t gs ps p=(gs,[]):=by unfold takeF; rw [if_pos hg,if_neg h2,if_neg h4]
  rw [e]; exact e
 have e:takeF t gs ps p=(gs,[]):=by unfold takeF; rw [if_neg hg]
 rw [e]; exact e
theorem takeF_ok {t:Int} {gs:List G.GrantD} {ps:List P.PlaceD} {p:TakeP} (h:P.LandSay t gs ps):P.LandSay t (takeF t gs ps p).1 ps:=by
 obtain ⟨ht,⟨g40,gA,gB⟩,hp⟩:=h
 have hs:=G.srt_asc gA
 have sub:∀ {l:List G.GrantD},l.Sublist gs→P.GrantsSay t l:=fun {l} hl =>
  ⟨Nat.le_trans hl.length_le g40,asc_srtG (List.Pairwise.sublist hl hs),fun g hg=>gB g (hl.subset hg)⟩
 refine ⟨ht, ?_,hp⟩
 unfold takeF
 split
 ·
  rename_i hg
  split
  ·
   split
   ·
    rename_i hc
    obtain ⟨l1,l2,l3⟩:=sub (left_sub (t:=t) (h:=p.h))
    have hS:=List.Pairwise.sublist (left_sub (t:=t) (h:=p.h)) hs
    refine ⟨?_,asc_srtG (srt_insG hS),fun g hg'=>?_⟩
    ·
     have hr:=hc.2.2
     unfold roomG at hr
     rcases Bool.or_eq_true .. ▸ hr with hr | hr
     ·
      unfold hasG at hr
      obtain ⟨y,hy,e⟩:=List.any_eq_true.1 hr
      rw [Ord.insS_len_of G.keyV _ _ hS ⟨y,hy,by unfold G.keyV newG; rw [eqT_iff.1 e]⟩]
      exact l1
     have:=Ord.insS_len G.keyV (newG t p) (leftG t p.h gs)
     have:=of_decide_eq_true hr
     show (Ord.insS G.keyV (newG t p) (leftG t p.h gs)).length≤40
     omega
    rcases Ord.insS_mem G.keyV _ _ g hg' with rfl | hg'
    ·
     unfold TakeP.good at hg
     simp only [Bool.and_eq_true] at hg
     unfold P.timeB inB at ht
     simp only [Bool.and_eq_true,decide_eq_true_eq] at ht
     have hu:inB (t+32) 0 (t+32)=true:=by
      unfold inB
      simp only [Bool.and_eq_true,decide_eq_true_eq]
      omega
     unfold P.grantB newG
     simp only [hg.1,hg.2.1,hg.2.2.1,hg.2.2.2,hu,Bool.and_true]
    exact l3 g hg'
   exact ⟨g40,gA,gB⟩
  split
  · exact sub (by unfold backG; exact List.filter_sublist)
  exact ⟨g40,gA,gB⟩
 exact ⟨g40,gA,gB⟩
theorem takeF_stay {t:Int} {gs:List G.GrantD} {ps:List P.PlaceD} {p:TakeP} (hs:G.Srt gs) {g h:G.GrantD} (hg:g∈gs) (hh:h∈(takeF t gs ps p).1) (e:h.h=g.h) (hu:t < g.u):h.b=g.b∧h.c=g.c:=by
 have one:h∈gs→h.b=g.b∧h.c=g.c:=fun hm=>by rw [srtG_one hs hg hm e]; exact ⟨rfl,rfl⟩
 unfold takeF at hh
 split at hh
 ·
  split at hh
  ·
   split at hh
   ·
    rename_i hc
    rcases Ord.insS_mem G.keyV _ _ h hh with rfl | hm
    ·
     have hM:=hc.2.1
     rw [may_of hs hg (show g.h=p.h from e.symm)] at hM
     have ho:overG t g=false:=by
      unfold overG
      exact decide_eq_false (by omega)
     rw [ho,Bool.false_or] at hM
     unfold mineG at hM
     simp only [Bool.and_eq_true] at hM
     exact ⟨(eqT_iff.1 hM.1).symm,(eqT_iff.1 hM.2.1).symm⟩
    exact one (left_sub.subset hm)
   exact one hh
  split at hh
  · exact one (by unfold backG at hh; exact (List.mem_filter.1 hh).1)
  exact one hh
 exact one hh
theorem tick_ok {t t':Int} {gs gs':List G.GrantD} {ps qs:List P.PlaceD} {ds:List Pc.PcD} (h:P.LandSay t gs ps) (hT:TickSay t gs ps t' gs' qs ds):P.LandSay t' gs' qs:=by
 rcases hT with ⟨n,-⟩ | ⟨-,rfl,hl,hT⟩
 · exact (n h).elim
 refine (P.like_says hl).2 ?_
 rcases hT with ⟨-,rfl,-⟩ | ⟨h2,rfl,-⟩
 · exact h
 obtain ⟨ht,⟨g1,g2,g3⟩,hp⟩:=h
 unfold P.timeB inB at ht
 simp only [Bool.and_eq_true,decide_eq_true_eq] at ht
 refine ⟨?_,⟨g1,g2,fun g hg=>?_⟩,hp⟩
 ·
  unfold P.timeB inB
  simp only [Bool.and_eq_true,decide_eq_true_eq]
  omega
 have:=g3 g hg
 unfold P.grantB inB at this ⊢
 simp only [Bool.and_eq_true,decide_eq_true_eq] at this ⊢
 obtain ⟨a1,a2,a3,a4,a5,a6⟩:=this
 exact ⟨a1,a2,a3,a4,a5,by omega⟩
theorem takeL_ok {t t':Int} {gs gs':List G.GrantD} {ps qs:List P.PlaceD} {p:TakeP} {ds:List Pc.PcD} (h:P.LandSay t gs ps) (hT:TakeLSay t gs ps p t' gs' qs ds):P.LandSay t' gs' qs:=by
 rcases hT with ⟨n,-⟩ | ⟨-,rfl,hl,rfl,-⟩
 · exact (n h).elim
 exact (P.like_says hl).2 (takeF_ok h)
theorem takeL_again {t t1 t2:Int} {gs g1 g2:List G.GrantD} {ps q1 q1' q2:List P.PlaceD} {p:TakeP} {d1 d2:List Pc.PcD} (h:P.LandSay t gs ps) (h1:TakeLSay t gs ps p t1 g1 q1 d1) (hl:P.Like q1' q1) (h2:TakeLSay t1 g1 q1' p t2 g2 q2 d2):t2=t1∧g2=g1∧P.Like q2 q1∧Pc.Like d2 d1:=by
 have ok:=takeL_ok h h1
 rcases h1 with ⟨n,-⟩ | ⟨-,rfl,l1,rfl,e1⟩
 · exact (n h).elim
 rcases h2 with ⟨n,-⟩ | ⟨-,rfl,l2,rfl,e2⟩
 · exact (n ((P.like_says hl).2 ok)).elim
 have hs:=G.srt_asc h.2.1.2.1
 have e:takeF t2 (takeF t2 gs ps p).1 q1' p=takeF t2 gs ps p:=by
  rw [takeF_like (hl.trans l1),takeF_again hs]
 refine ⟨rfl,by rw [e],l2.trans hl, ?_⟩
 unfold Pc.Like
 rw [e1,e2,e]
theorem put_ok {t t':Int} {gs gs':List G.GrantD} {ps qs:List P.PlaceD} {b:ByteArray} {ws:List W.WantD} {code:Int} (h:PutSay t gs ps b ws t' gs' qs code):code=1∨P.LandSay t' gs' qs:=by
 rcases h with ⟨-,-,-,-,rfl⟩ | ⟨y,rfl,rfl,⟨-,l,rfl⟩ | ⟨-,-,l,rfl⟩ | ⟨-,k,l,rfl⟩⟩
 · exact Or.inl rfl
 · exact Or.inr ((P.like_says l).2 y)
 · exact Or.inr ((P.like_says l).2 y)
 exact Or.inr ((P.like_says l).2 k)
theorem takeL_none {t t':Int} {gs gs':List G.GrantD} {ps qs:List P.PlaceD} {p:TakeP} {ds:List Pc.PcD} (h:¬ P.LandSay t gs ps) (hT:TakeLSay t gs ps p t' gs' qs ds):ds=[]:=by
 rcases hT with ⟨-,-,-,-,rfl⟩ | ⟨y,-⟩
 · rfl
 exact (h y).elim
theorem takeL_stay {t t':Int} {gs gs':List G.GrantD} {ps qs:List P.PlaceD} {p:TakeP} {ds:List Pc.PcD} (h:P.LandSay t gs ps) (hT:TakeLSay t gs ps p t' gs' qs ds) {g x:G.GrantD} (hg:g∈gs) (hx:x∈gs') (e:x.h=g.h) (hu:t < g.u):x.b=g.b∧x.c=g.c:=by
 rcases hT with ⟨n,-⟩ | ⟨-,rfl,-,rfl,-⟩
 · exact (n h).elim
 exact takeF_stay (G.srt_asc h.2.1.2.1) hg hx e hu
def sameW (c h c2 h2:ByteArray) (v p s d g v2 p2 s2 d2 g2:Int):Bool:=c2.toList == c.toList && (v2 == v && (h2.toList == h.toList && (p2 == p && (s2 == s && (d2 == d && g2 == g)))))
theorem eql_want (c h c2 h2:ByteArray) (v p s d g v2 p2 s2 d2 g2:Int) (w:World):Sem.run Tryz.prog (binOp .eql 56 (.agg #[.string c2,.int .i64 v2,.string h2,.int .i64 p2,.int .i64 s2,.int .i64 d2,.int .i64 g2]) (.agg #[.string c,.int .i64 v,.string h,.int .i64 p,.int .i64 s,.int .i64 d,.int .i64 g])) w=.ok (.bool (sameW c h c2 h2 v p s d g v2 p2 s2 d2 g2)) w:=by
 unfold sameW
 rw [run_eql_struct,run_equalIn_agg _ _ _ _ _ (by kernel_rfl) (by kernel_rfl)]
 simp only [Program.fieldsOf,Tryz.underlying56,Op.eqFields]
 simp [go_sem,Tryz.underlying9,Tryz.underlying3]
 (repeat' split) <;> simp_all
theorem neq_want (c h c2 h2:ByteArray) (v p s d g v2 p2 s2 d2 g2:Int) (w:World):Sem.run Tryz.prog (binOp .neq 56 (.agg #[.string c2,.int .i64 v2,.string h2,.int .i64 p2,.int .i64 s2,.int .i64 d2,.int .i64 g2]) (.agg #[.string c,.int .i64 v,.string h,.int .i64 p,.int .i64 s,.int .i64 d,.int .i64 g])) w=.ok (.bool (!sameW c h c2 h2 v p s d g v2 p2 s2 d2 g2)) w:=by
 have hq:=eql_want c h c2 h2 v p s d g v2 p2 s2 d2 g2 w
 rw [run_eql_struct] at hq
 rw [run_neq_struct]
 cases hr:(Op.equalIn 10000 56 (.agg #[.string c2,.int .i64 v2,.string h2,.int .i64 p2,.int .i64 s2,.int .i64 d2,.int .i64 g2]) (.agg #[.string c,.int .i64 v,.string h,.int .i64 p,.int .i64 s,.int .i64 d,.int .i64 g])).run Tryz.prog w with
 | ok b w1=>rw [hr] at hq; simp at hq ⊢; obtain ⟨rfl,rfl⟩:=hq; simp
 | halt x w1=>rw [hr] at hq; simp [Result.andThen] at hq
theorem bl_dnW {k:Nat} {w w':World} (h:Below k w w') {n:Nat}:Below k w (w'.drewN n):=⟨h.os,h.tape,h.output,h.size,h.block⟩
set_option maxHeartbeats 1000000 in
theorem W.wEqRows (b1 n1 b2 n2:Nat) (xs:List W.WantD) (w:World) (h1:W.RowsAt w b1 0 xs) (h2:W.RowsAt w b2 0 xs) (hl:xs.length≤1048576) :
  Calls Tryz.prog 29 #[.slice (some ⟨b1,0,none⟩) xs.length n1,.slice (some ⟨b2,0,none⟩) xs.length n2] w fun e w'=>e=.returned (.bool true)∧Below w.heap.size w w':=by
 go_enter Tryz.func29,Tryz.ntmps29
 go_wp2
 go_loopw [5] (fun i wx=>∃ (k:Nat),k≤xs.length∧i=.int .i64 k∧Hid (Below w.heap.size w wx)∧(∀ a,wx.cell? a=w.cell? a)) (fun i _=>xs.length - (intOf i).toNat)
 case atStart=>exact ⟨0,Nat.zero_le _,rfl,Below.refl _ _,fun _=>rfl⟩
 case round =>
  obtain ⟨k,hk,rfl,HB,hc⟩:=hrel
  by_cases hlt:k < xs.length
  ·
   obtain ⟨r,hr⟩:∃ r,xs[k]?=some r:=⟨xs[k],List.getElem?_eq_getElem hlt⟩
   have g1:W.RowsAt wr b1 0 xs:=fun j q hj i v hv=>(hc _).trans (h1 j q hj i v hv)
   have g2:W.RowsAt wr b2 0 xs:=fun j q hj i v hv=>(hc _).trans (h2 j q hj i v hv)
   obtain ⟨c0,c1,c2,c3,c4,c5,c6⟩:=g1.at hr
   obtain ⟨d0,d1,d2,d3,d4,d5,d6⟩:=g2.at hr
   simp only [Nat.zero_add] at c0 c1 c2 c3 c4 c5 c6 d0 d1 d2 d3 d4 d5 d6
   have HC:=hidP hc
   have i0:(0:Int)≤(k:Int):=by omega
   have i1:(k:Int) < (xs.length:Int):=by omega
   have hn:∀ y:World,Sem.run Tryz.prog (binOp .neq 56 (.agg #[.string r.c,.int .i64 r.v,.string r.h,.int .i64 r.p,.int .i64 r.s,.int .i64 r.d,.int .i64 r.g]) (.agg #[.string r.c,.int .i64 r.v,.string r.h,.int .i64 r.p,.int .i64 r.s,.int .i64 r.d,.int .i64 r.g])) y=.ok (.bool false) y:=fun y=>by rw [neq_want]; simp [sameW]
   clear hr hc g1 g2
   go_wp2_with fail
   go_quiet (fail)
   go_wp2
   exact ⟨⟨k+1,by omega,by go_num,bl_dnW HB.out,fun a=>by rw [← HC.out a]; simp⟩,by simp [intOf]; omega⟩
  go_wp2
  go_ret
  exact ⟨rfl,HB.out⟩
theorem W.wEq_zero (a1 a2:Option Addr) (c1 c2:Nat) (w:World) :
  Calls Tryz.prog 29 #[.slice a1 0 c1,.slice a2 0 c2] w fun e w'=>e=.returned (.bool true)∧w'=w:=by
 go_enter Tryz.func29,Tryz.ntmps29
 go_wp2
 refine wp_loop_rounds 1 ?_
 rw [rounds_succ]
 go_wp2
 go_ret
 exact ⟨rfl,rfl⟩
theorem W.wEq {w:World} {v1 v2:Value} {l:List W.WantD} {B1 B2:Nat} (h1:W.Sl w v1 l B1) (h2:W.Sl w v2 l B2) (hl:l.length≤1048576) :
  Calls Tryz.prog 29 #[v1,v2] w fun e w'=>e=.returned (.bool true)∧Below w.heap.size w w':=by
 have z:∀ (a1 a2:Option Addr) (c1 c2:Nat),Calls Tryz.prog 29 #[.slice a1 0 c1,.slice a2 0 c2] w fun e w'=>e=.returned (.bool true)∧Below w.heap.size w w':=fun a1 a2 c1 c2=>(W.wEq_zero a1 a2 c1 c2 w).mono (by rintro e w' ⟨rfl,rfl⟩; exact ⟨rfl,Below.refl _ _⟩)
 rcases h1 with ⟨rfl,rfl⟩ | ⟨g1,cap1,rfl,-,k2,k3,-⟩
 ·
  rcases h2 with ⟨rfl,-⟩ | ⟨g2,cap2,rfl,-,m2,m3,-⟩
  · exact z _ _ _ _
  exact z _ _ _ _
 ·
  rcases h2 with ⟨rfl,rfl⟩ | ⟨g2,cap2,rfl,-,m2,m3,-⟩
  · exact z _ _ _ _
  exact W.wEqRows g1 cap1 g2 cap2 l w k3 m3 hl
theorem wm_c {w w':World} {O Z:Array Value} {t:TypeId} (hb:Below ((w.alloc (.cells O t)).alloc (.cells Z t)).heap.size ((w.alloc (.cells O t)).alloc (.cells Z t)) w'):(∀ k,w'.cell? ⟨w.heap.size,k,none⟩=O[k]?)∧∀ k,w'.cell? ⟨w.heap.size+1,k,none⟩=Z[k]?:=by
 refine ⟨fun k=>?_,fun k=>?_⟩
 ·
  rw [hb.cell (p:=⟨w.heap.size,k,none⟩) (by simp; omega)]
  simp [go_sem]
 rw [hb.cell (p:=⟨w.heap.size+1,k,none⟩) (by simp)]
 simp [go_sem]
theorem eql_grant (x0 x1 x2:ByteArray) (x3 x4:Int) (w:World):Sem.run Tryz.prog (binOp .eql 40 (.agg #[.string x0,.string x1,.string x2,.int .i64 x3,.int .i64 x4]) (.agg #[.string x0,.string x1,.string x2,.int .i64 x3,.int .i64 x4])) w=.ok (.bool true) w:=by
 rw [run_eql_struct,run_equalIn_agg _ _ _ _ _ (by kernel_rfl) (by kernel_rfl)]
 simp only [Program.fieldsOf,Tryz.underlying40,Op.eqFields]
 simp [go_sem,Tryz.underlying3,Tryz.underlying9]
theorem neq_grant (x0 x1 x2:ByteArray) (x3 x4:Int) (w:World):Sem.run Tryz.prog (binOp .neq 40 (.agg #[.string x0,.string x1,.string x2,.int .i64 x3,.int .i64 x4]) (.agg #[.string x0,.string x1,.string x2,.int .i64 x3,.int .i64 x4])) w=.ok (.bool false) w:=by
 have hq:=eql_grant x0 x1 x2 x3 x4 w
 rw [run_eql_struct] at hq
 rw [run_neq_struct]
 cases hr:(Op.equalIn 10000 40 (.agg #[.string x0,.string x1,.string x2,.int .i64 x3,.int .i64 x4]) (.agg #[.string x0,.string x1,.string x2,.int .i64 x3,.int .i64 x4])).run Tryz.prog w with
 | ok b w1=>rw [hr] at hq; simp at hq ⊢; obtain ⟨rfl,rfl⟩:=hq; simp
 | halt x w1=>rw [hr] at hq; simp [Result.andThen] at hq
theorem G.Sl.atW {y:World} {a:Option Addr} {n c B k:Nat} {l:List G.GrantD} {r:G.GrantD} (h:G.Sl y (.slice a n c) l B) (hr:l[k]?=some r):∃ g,a=some ⟨g,0,none⟩∧(y.cell? ⟨g,k * 5,none⟩=some (.string r.h)∧y.cell? ⟨g,k * 5+1,none⟩=some (.string r.b)∧y.cell? ⟨g,k * 5+2,none⟩=some (.string r.c)∧y.cell? ⟨g,k * 5+3,none⟩=some (.int .i64 r.t)∧y.cell? ⟨g,k * 5+4,none⟩=some (.int .i64 r.u)):=by
 rcases h with ⟨-,e⟩ | ⟨g,cap,e,-,-,h3,-⟩
 · rw [e] at hr; simp at hr
 cases e
 have:=h3.at hr
 simp only [Nat.zero_add] at this
 exact ⟨g,rfl,this⟩
theorem PlO.atW {y:World} {B n c k:Nat} {qs:List P.PlaceD} {a:Option Addr} {p:P.PlaceD} (h:PlO y B qs (.slice a n c)) (hp:qs[k]?=some p):∃ g,a=some ⟨g,0,none⟩∧g < y.heap.size∧(y.cell? ⟨g,k * 3,none⟩=some (.string p.b)∧y.cell? ⟨g,k * 3+1,none⟩=some (.int .i64 p.s)∧y.cell? ⟨g,k * 3+2,none⟩=some (.slice p.a p.ws.length p.c)):=by
 rcases h.o with ⟨-,e⟩ | ⟨g,cap,e,-,h2,h3,-⟩
 · rw [List.map_eq_nil_iff] at e; rw [e] at hp; simp at hp
 cases e
 have:=h3.at (k:=k) (r:=Pr.raw p) (by rw [List.getElem?_map,hp]; rfl)
 simp only [Nat.zero_add] at this
 exact ⟨g,rfl,h2,this⟩
set_option maxRecDepth 4000 in
set_option maxHeartbeats 4000000 in
theorem wLand_same (t:Int) (gs:List G.GrantD) (ps qs:List P.PlaceD) (a1 a2 b1 b2:Option Addr) (c1 c2 d1 d2 B1 B2:Nat) (w:World) (h1:LdO w B1 gs ps (.slice a1 gs.length c1) (.slice a2 ps.length c2)) (h2:LdO w B2 gs qs (.slice b1 gs.length d1) (.slice b2 ps.length d2)) (hk:P.Like qs ps) (hgl:gs.length≤1048576) (hpl:ps.length≤1048576) (hln:P.Lns ps) :
  Calls Tryz.prog 7 #[.agg #[.int .i64 t,.slice a1 gs.length c1,.slice a2 ps.length c2],.agg #[.int .i64 t,.slice b1 gs.length d1,.slice b2 ps.length d2]] w fun e w'=>e=.returned (.bool true)∧Below w.heap.size w w':=by
 obtain ⟨W1,hW1⟩:∃ W1,W1=(w.alloc (.cells #[.int .i64 t,.slice a1 gs.length c1,.slice a2 ps.length c2] 26)).alloc (.cells #[.int .i64 t,.slice b1 gs.length d1,.slice b2 ps.length d2] 26):=⟨_,rfl⟩
 have HW1:=hidP hW1
 have HB:Hid (Below w.heap.size w W1):=by rw [hW1]; exact bl_alloc (bl_alloc bR _) _
 have KA:Hid (∀ y,Below W1.heap.size W1 y→(∀ k,y.cell? ⟨w.heap.size,k,none⟩=(#[.int .i64 t,.slice a1 gs.length c1,.slice a2 ps.length c2]:Array Value)[k]?)∧∀ k,y.cell? ⟨w.heap.size+1,k,none⟩=(#[.int .i64 t,.slice b1 gs.length d1,.slice b2 ps.length d2]:Array Value)[k]?):=fun y hy=>wm_c (by rw [hW1] at hy; exact hy)
 have H1:Hid (∀ y,Below W1.heap.size W1 y→LdO y B1 gs ps (.slice a1 gs.length c1) (.slice a2 ps.length c2)):=fun y hy=>h1.keep (bl_trans HB.out hy)
 have H2:Hid (∀ y,Below W1.heap.size W1 y→LdO y B2 gs qs (.slice b1 gs.length d1) (.slice b2 ps.length d2)):=fun y hy=>h2.keep (bl_trans HB.out hy)
 have HK:=hidP hk
 have HLN:=hidP hln
 clear h1 h2 hk hW1 hln
 obtain ⟨k1,k2⟩:=KA.out W1 bR
 have x0:=k1 0
 have x1:=k1 1
 have x2:=k1 2
 have y0:=k2 0
 have y1:=k2 1
 have y2:=k2 2
 clear k1 k2
 go_enter Tryz.func7,Tryz.ntmps7
 go_wp2_with fail
 rw [← HW1.out]
 go_wp2_with fail
 clear x0 x1 x2 y0 y1 y2
 go_loopw [5] (fun i wx=>∃ (k:Nat),k≤gs.length∧i=.int .i64 (k:Int)∧Hid (Below W1.heap.size W1 wx)) (fun i _=>gs.length - (intOf i).toNat)
 case atStart=>exact ⟨0,by omega,rfl,Below.refl _ _⟩
 case round =>
  obtain ⟨k,hk,rfl,HX⟩:=hrel
  obtain ⟨k1,k2⟩:=KA.out wr HX.out
  have x1:=k1 1
  have x2:=k1 2
  have y1:=k2 1
  have y2:=k2 2
  clear k1 k2
  by_cases hlt:k < gs.length
  ·
   have hkk:(k:Int) < (gs.length:Int):=by omega
   obtain ⟨r,hr⟩:∃ r,gs[k]?=some r:=⟨gs[k],List.getElem?_eq_getElem hlt⟩
   obtain ⟨g1,rfl,p0,p1,p2,p3,p4⟩:=(H1.out wr HX.out).g.atW hr
   obtain ⟨g2,rfl,q0,q1,q2,q3,q4⟩:=(H2.out wr HX.out).g.atW hr
   have hn:∀ y:World,_:=neq_grant r.h r.b r.c r.t r.u
   clear hr
   go_wp2_with fail
   go_quiet (fail)
   go_wp2_with fail
   exact ⟨⟨k+1,by omega,by go_num,bl_dnW HX.out⟩,by simp [intOf]; omega⟩
  have hkk:¬ ((k:Int) < (gs.length:Int)):=by omega
  go_wp2_with fail
  clear x1 x2 y1 y2
  go_loopw [6] (fun i wx=>∃ (k:Nat),k≤ps.length∧i=.int .i64 (k:Int)∧Hid (Below W1.heap.size W1 wx)) (fun i _=>ps.length - (intOf i).toNat)
  case atStart=>exact ⟨0,by omega,rfl,HX.out⟩
  obtain ⟨m,hm,rfl,HY⟩:=hrel
  obtain ⟨k1,k2⟩:=KA.out wr HY.out
  have x2:=k1 2
  have y2:=k2 2
  clear k1 k2
  by_cases hlm:m < ps.length
  ·
   have hmm:(m:Int) < (ps.length:Int):=by omega
   obtain ⟨q,hq⟩:∃ q,qs[m]?=some q:=⟨_,List.getElem?_eq_getElem (show m < qs.length by rw [HK.out.len]; exact hlm)⟩
   obtain ⟨p,hp,e1,e2,e3⟩:=HK.out.get hq
   obtain ⟨g1,rfl,z1,p0,p1,p2⟩:=(H1.out wr HY.out).p.atW hp
   obtain ⟨g2,rfl,z2,q0,q1,q2⟩:=(H2.out wr HY.out).p.atW hq
   have w1:=(H1.out wr HY.out).p.k m p hp
   have w2:=(H2.out wr HY.out).p.k m q hq
   have hlw:=HLN.out p (List.mem_of_getElem? hp)
   rw [e1] at q0
   rw [e2] at q1
   rw [e3] at q2 w2
   have S1:=hidP w1
   have S2:=hidP w2
   have KS:Hid (∀ y,Below wr.heap.size wr y→y.cell? ⟨w.heap.size,2,none⟩=some (.slice (some ⟨g1,0,none⟩) ps.length c2)∧y.cell? ⟨w.heap.size+1,2,none⟩=some (.slice (some ⟨g2,0,none⟩) ps.length d2)∧(y.cell? ⟨g1,m * 3,none⟩=some (.string p.b)∧y.cell? ⟨g1,m * 3+1,none⟩=some (.int .i64 p.s)∧y.cell? ⟨g1,m * 3+2,none⟩=some (.slice p.a p.ws.length p.c))∧y.cell? ⟨g2,m * 3,none⟩=some (.string p.b)∧y.cell? ⟨g2,m * 3+1,none⟩=some (.int .i64 p.s)∧y.cell? ⟨g2,m * 3+2,none⟩=some (.slice q.a p.ws.length q.c)):=by
    intro y hy
    obtain ⟨k1,k2⟩:=KA.out y (bl_trans HY.out hy)
    exact ⟨k1 2,k2 2,⟨(hy.cell (p:=⟨g1,_,none⟩) z1).trans p0,(hy.cell (p:=⟨g1,_,none⟩) z1).trans p1,(hy.cell (p:=⟨g1,_,none⟩) z1).trans p2⟩,(hy.cell (p:=⟨g2,_,none⟩) z2).trans q0,(hy.cell (p:=⟨g2,_,none⟩) z2).trans q1,(hy.cell (p:=⟨g2,_,none⟩) z2).trans q2⟩
   clear hq hp e1 e2 e3 w1 w2 p0 p1 p2 q0 q1 q2
   go_wp2_with fail
   go_region_held3 (fun y=>y.cell? ⟨w.heap.size,2,none⟩=some (.slice (some ⟨g1,0,none⟩) ps.length c2)∧y.cell? ⟨w.heap.size+1,2,none⟩=some (.slice (some ⟨g2,0,none⟩) ps.length d2)∧(y.cell? ⟨g1,m * 3,none⟩=some (.string p.b)∧y.cell? ⟨g1,m * 3+1,none⟩=some (.int .i64 p.s)∧y.cell? ⟨g1,m * 3+2,none⟩=some (.slice p.a p.ws.length p.c))∧y.cell? ⟨g2,m * 3,none⟩=some (.string p.b)∧y.cell? ⟨g2,m * 3+1,none⟩=some (.int .i64 p.s)∧y.cell? ⟨g2,m * 3+2,none⟩=some (.slice q.a p.ws.length q.c))
    (first | exact KS.out _ bD | exact KS.out _ (bl_trans bD hx))
    (first | (go_at_call 29; refine (W.wEq (S1.out.keep bD) (S2.out.keep bD) hlw).mono ?_; rintro e y' ⟨rfl,hx⟩))
   go_wp2_with fail
   exact ⟨⟨m+1,by omega,by go_num,bl_trans HY.out (bl_trans bD hx)⟩,by simp [intOf]; omega⟩
  have hmm:¬ ((m:Int) < (ps.length:Int)):=by omega
  go_wp2_with fail
  go_ret
  exact ⟨rfl,bl_trans HB.out HY.out⟩
end Go.Proofs.YtcjhlhijdacinaaGreatDoor
