import Derived.Test.YtcjhlhijdacinaaGreatDoorJ19
import Derived.Test.YtcjhlhijdacinaaGreatDoorJ20
import Derived.Test.YtcjhlhijdacinaaGreatDoorJ05
import Derived.Test.YtcjhlhijdacinaaGreatDoorJ16
import Derived.Test.YtcjhlhijdacinaaGreatDoorJ07
import Derived.Test.YtcjhlhijdacinaaGreatDoorJ06
import Derived.Deep.RegionLaw
import Derived.Deep.DeepCutAuto
import Derived.Laws.Rows
namespace Go.Proofs.YtcjhlhijdacinaaGreatDoor
open Go.RowKit Go.Maps Go.WideMaps
set_option linter.unusedVariables false
structure P.LandZ (w:World) (gs:List G.GrantD) (ps:List P.PlaceD) (a1 a2:Option Addr) (c1:Nat):Prop where
 g:G.SrcG w a1 c1 gs
 p:P.GvP w a2 ps
 k:∀ r∈ps,W.Src w r.a r.c r.ws
 c:Cps ps
theorem P.LandZ.keep {w w':World} {gs:List G.GrantD} {ps:List P.PlaceD} {a1 a2:Option Addr} {c1:Nat} (h:P.LandZ w gs ps a1 a2 c1) (hb:Below w.heap.size w w'):P.LandZ w' gs ps a1 a2 c1 :=
 ⟨h.g.keep hb,h.p.keep hb,fun r hr=>(h.k r hr).keep hb,h.c⟩
theorem P.LandZ.x {w:World} {gs:List G.GrantD} {ps:List P.PlaceD} {a1 a2:Option Addr} {c1:Nat} (h:P.LandZ w gs ps a1 a2 c1):P.LandX w gs ps a1 a2:=⟨h.g.gv,h.p,h.k⟩
theorem P.implLandOk_z (t:Int) (gs:List G.GrantD) (ps:List P.PlaceD) (a1 a2:Option Addr) (c1 c2:Nat) (w:World) (hA:P.LandZ w gs ps a1 a2 c1) (hF:P.Fit gs ps) :
  Calls Tryz.prog 12 #[.agg #[.int .i64 t,.slice a1 gs.length c1,.slice a2 ps.length c2]] w fun e w'=>(∃ q:Bool,e=.returned (.bool q)∧P.SaysL q t gs ps)∧Below w.heap.size w w' :=
 P.implLandOk_x t gs ps a1 a2 c1 c2 w hA.x hA.c hF
theorem P.specLandOk_z (t:Int) (gs:List G.GrantD) (ps:List P.PlaceD) (a1 a2:Option Addr) (c1 c2:Nat) (w:World) (hA:P.LandZ w gs ps a1 a2 c1) (hF:P.Fit gs ps) :
  Calls Tryz.prog 11 #[.agg #[.int .i64 t,.slice a1 gs.length c1,.slice a2 ps.length c2]] w fun e w'=>(∃ q:Bool,e=.returned (.bool q)∧P.SaysL q t gs ps)∧Below w.heap.size w w' :=
 P.specLandOk_x t gs ps a1 a2 c1 c2 w hA.x hF
theorem l6Copy_caps_z (t:Int) (gs:List G.GrantD) (ps:List P.PlaceD) (a1 a2:Option Addr) (c1 c2:Nat) (w:World) (hA:P.LandZ w gs ps a1 a2 c1) (hgl:gs.length≤1048576) (hpl:ps.length≤1048576) (hln:P.Lns ps) :
  Calls Tryz.prog 24 #[.agg #[.int .i64 t,.slice a1 gs.length c1,.slice a2 ps.length c2]] w fun e w'=>(∃ qs s1 s2,e=.returned (.agg #[.int .i64 t,s1,s2])∧P.Like qs ps∧LdO w' w.heap.size gs qs s1 s2∧CapOk s2∧CapOk s1)∧Below w.heap.size w w' :=
 (l6Copy_z t gs ps a1 a2 c1 c2 w hA.g hA.p hA.k hgl hpl hln).mono (by rintro e w' ⟨⟨qs,s1,s2,h1,h2,h3,h5,h6,-⟩,h4⟩; exact ⟨⟨qs,s1,s2,h1,h2,h3,h5,h6⟩,h4⟩)
theorem l6Copy_c0_z (t:Int) (gs:List G.GrantD) (ps:List P.PlaceD) (a1 a2:Option Addr) (c1 c2:Nat) (w:World) (hA:P.LandZ w gs ps a1 a2 c1) (hgl:gs.length≤1048576) (hpl:ps.length≤1048576) (hln:P.Lns ps) :
  Calls Tryz.prog 24 #[.agg #[.int .i64 t,.slice a1 gs.length c1,.slice a2 ps.length c2]] w fun e w'=>(∃ qs s1 s2,e=.returned (.agg #[.int .i64 t,s1,s2])∧P.Like qs ps∧LdO w' w.heap.size gs qs s1 s2∧C0 gs s1)∧Below w.heap.size w w' :=
 (l6Copy_z t gs ps a1 a2 c1 c2 w hA.g hA.p hA.k hgl hpl hln).mono (by rintro e w' ⟨⟨qs,s1,s2,h1,h2,h3,h5,h6,-,-,h7⟩,h4⟩; exact ⟨⟨qs,s1,s2,h1,h2,h3,h7⟩,h4⟩)
theorem l6Copy_k0_z (t:Int) (gs:List G.GrantD) (ps:List P.PlaceD) (a1 a2:Option Addr) (c1 c2:Nat) (w:World) (hA:P.LandZ w gs ps a1 a2 c1) (hgl:gs.length≤1048576) (hpl:ps.length≤1048576) (hln:P.Lns ps) :
  Calls Tryz.prog 24 #[.agg #[.int .i64 t,.slice a1 gs.length c1,.slice a2 ps.length c2]] w fun e w'=>(∃ qs s1 s2,e=.returned (.agg #[.int .i64 t,s1,s2])∧P.Like qs ps∧LdO w' w.heap.size gs qs s1 s2∧CapOk s2∧C0 gs s1)∧Below w.heap.size w w' :=
 (l6Copy_z t gs ps a1 a2 c1 c2 w hA.g hA.p hA.k hgl hpl hln).mono (by rintro e w' ⟨⟨qs,s1,s2,h1,h2,h3,h5,h6,-,-,h7⟩,h4⟩; exact ⟨⟨qs,s1,s2,h1,h2,h3,h5,h7⟩,h4⟩)
theorem l6Copy_any_z (t:Int) (gs:List G.GrantD) (ps:List P.PlaceD) (a1 a2:Option Addr) (c1 c2:Nat) (w:World) (hA:P.LandZ w gs ps a1 a2 c1) (hgl:gs.length≤1048576) (hpl:ps.length≤1048576) (hln:P.Lns ps) :
  Calls Tryz.prog 24 #[.agg #[.int .i64 t,.slice a1 gs.length c1,.slice a2 ps.length c2]] w fun e w'=>(∃ qs s1 s2,e=.returned (.agg #[.int .i64 t,s1,s2])∧P.Like qs ps∧LdO w' w.heap.size gs qs s1 s2)∧Below w.heap.size w w' :=
 (l6Copy_caps_z t gs ps a1 a2 c1 c2 w hA hgl hpl hln).mono (by rintro e w' ⟨⟨qs,s1,s2,h1,h2,h3,-⟩,h4⟩; exact ⟨⟨qs,s1,s2,h1,h2,h3⟩,h4⟩)
theorem bookOf_zm (t:Int) (gs:List G.GrantD) (ps:List P.PlaceD) (a1 a2:Option Addr) (c1 c2:Nat) (w:World) (hA:P.LandZ w gs ps a1 a2 c1) (hF:P.Fit gs ps) (s1:G.Srt gs) (s2:Pr.Srt (ps.map Pr.raw)) :
  Calls Tryz.prog 47 #[.agg #[.int .i64 t,.slice a1 gs.length c1,.slice a2 ps.length c2]] w fun e w'=>(∃ d m1 m2,e=.returned (.pointer (some ⟨d,0,none⟩))∧(w.heap.size≤d∧w.heap.size≤m1∧w.heap.size≤m2∧d≠m1∧d≠m2)∧Book w' d t m1 m2 gs (ps.map Pr.raw)∧(∃ n,n≤1048576∧w'.ownsMap Tryz.prog 9 Pr.RV m2 n (Pr.dec (ps.map Pr.raw)))∧∃ n,n≤1048576∧w'.ownsMap Tryz.prog 9 G.RV m1 n (G.dec gs))∧Below w.heap.size w w':=by
 have h:=bookOf_z t gs (ps.map Pr.raw) a1 a2 c1 c2 w hA.g.gv hA.p.raw (fun r hr=>(hF.g r hr).1) (fun r hr=>by obtain ⟨p,hp,rfl⟩:=List.mem_map.1 hr; exact (hF.p p hp).1) hF.gl (by rw [List.length_map]; exact hF.pl) s1 s2
 rw [List.length_map] at h
 exact h
theorem bookOf_zn (t:Int) (gs:List G.GrantD) (ps:List P.PlaceD) (a1 a2:Option Addr) (c1 c2:Nat) (w:World) (hA:P.LandZ w gs ps a1 a2 c1) (hF:P.Fit gs ps) (s1:G.Srt gs) (s2:Pr.Srt (ps.map Pr.raw)) :
  Calls Tryz.prog 47 #[.agg #[.int .i64 t,.slice a1 gs.length c1,.slice a2 ps.length c2]] w fun e w'=>(∃ d m1 m2,e=.returned (.pointer (some ⟨d,0,none⟩))∧(w.heap.size≤d∧w.heap.size≤m1∧w.heap.size≤m2∧d≠m1∧d≠m2)∧Book w' d t m1 m2 gs (ps.map Pr.raw)∧∃ n,n≤1048576∧w'.ownsMap Tryz.prog 9 Pr.RV m2 n (Pr.dec (ps.map Pr.raw)))∧Below w.heap.size w w' :=
 (bookOf_zm t gs ps a1 a2 c1 c2 w hA hF s1 s2).mono (by rintro e w' ⟨⟨d,m1,m2,h1,h2,h3,h5,-⟩,h4⟩; exact ⟨⟨d,m1,m2,h1,h2,h3,h5⟩,h4⟩)
theorem bookOf_za (t:Int) (gs:List G.GrantD) (ps:List P.PlaceD) (a1 a2:Option Addr) (c1 c2:Nat) (w:World) (hA:P.LandZ w gs ps a1 a2 c1) (hF:P.Fit gs ps) (s1:G.Srt gs) (s2:Pr.Srt (ps.map Pr.raw)) :
  Calls Tryz.prog 47 #[.agg #[.int .i64 t,.slice a1 gs.length c1,.slice a2 ps.length c2]] w fun e w'=>(∃ d m1 m2,e=.returned (.pointer (some ⟨d,0,none⟩))∧(w.heap.size≤d∧w.heap.size≤m1∧w.heap.size≤m2∧d≠m1∧d≠m2)∧Book w' d t m1 m2 gs (ps.map Pr.raw))∧Below w.heap.size w w' :=
 (bookOf_zm t gs ps a1 a2 c1 c2 w hA hF s1 s2).mono (by rintro e w' ⟨⟨d,m1,m2,h1,h2,h3,-⟩,h4⟩; exact ⟨⟨d,m1,m2,h1,h2,h3⟩,h4⟩)
theorem rows_raw {w:World} {b off:Nat} {ps:List P.PlaceD} (h:Pr.RowsAt w b off (ps.map Pr.raw)):P.RowsAt w b off ps:=by
 intro k r hk
 exact h k (Pr.raw r) (by rw [List.getElem?_map,hk]; rfl)
theorem LdO.z {w:World} {B:Nat} {gs:List G.GrantD} {qs:List P.PlaceD} {a1 a2:Option Addr} {n1 n2 c1 c2:Nat} (h:LdO w B gs qs (.slice a1 n1 c1) (.slice a2 n2 c2)):P.LandZ w gs qs a1 a2 c1:=by
 refine ⟨?_, ?_,fun r hr=>?_,h.p.c⟩
 ·
  rcases h.g with ⟨h1,h2⟩ | ⟨g,cap,h0,h1,h2,h3,h4⟩
  · cases h1; exact Or.inl ⟨rfl,rfl,h2⟩
  cases h0; exact Or.inr ⟨g,rfl,h2,h3⟩
 ·
  rcases h.p.o with ⟨h1,h2⟩ | ⟨g,cap,h0,h1,h2,h3,h4⟩
  · exact Or.inl (List.map_eq_nil_iff.1 h2)
  cases h0; exact Or.inr ⟨g,rfl,h2,rows_raw h3⟩
 obtain ⟨k,hk⟩:=List.getElem?_of_mem hr
 exact (h.p.k k r hk).src
theorem wanted_if {c:Bool} {p q:Prop} (h:c=true) (hp:p):if c=true then p else q:=by rw [if_pos h]; exact hp
theorem heap_new {y:World} {o:Obj} {z:Nat} (hz:z=y.heap.size):(y.alloc o).heap[z]?=some o:=by
 subst hz
 show (y.heap.push o)[y.heap.size]?=some o
 simp
theorem heap_old {y:World} {o o':Obj} {z:Nat} (h:y.heap[z]?=some o):(y.alloc o').heap[z]?=some o:=by
 have hz:z < y.heap.size:=by
  rcases Nat.lt_or_ge z y.heap.size with h' | h'
  · exact h'
  rw [Array.getElem?_eq_none h'] at h; cases h
 show (y.heap.push o')[z]?=some o
 rw [Array.getElem?_push_lt hz,← h,Array.getElem?_eq_getElem hz]
theorem heap_drew {y:World} {o:Obj} {z:Nat} (h:y.heap[z]?=some o):(y.drew).heap[z]?=some o:=h
theorem grown_heap {x y:World} {z:Nat} (hg:x.grownBy y (some z)):∀ j o,x.heap[j]?=some o→j≠z→y.heap[j]?=some o:=by
 intro j o h hne
 have hz:j < x.heap.size:=by
  rcases Nat.lt_or_ge j x.heap.size with h' | h'
  · exact h'
  rw [Array.getElem?_eq_none h'] at h; cases h
 rw [hg.block j hz (fun e=>hne (Option.some.inj e))]; exact h
theorem own_empty {y:World} {z size:Nat} {t:TypeId} (h:y.heap[z]?=some (.cells #[] t)):y.ownsRow z t size (.slice (some ⟨z,0,none⟩) 0 0) 0 [] :=
 ⟨by simp,Or.inr ⟨z,0,#[],rfl,Nat.le_refl _,h,Nat.le_refl _,Nat.zero_le _,by simp,by simp⟩⟩
theorem cells_blk {y:World} {u:Nat} {C:Array Value} {t:TypeId} (h:y.heap[u]?=some (.cells C t)):∀ j v,C.toList[j]?=some v→y.cell? ((⟨u,0,none⟩:Addr).add j)=some v:=by
 intro j v hj
 rw [Addr.add_mid]
 rw [cell_of_row y u _ C _ (0,0) h,Nat.zero_add]
 simpa using hj
theorem ownsE {x y:World} {base k:Nat} {e:TypeId} {size:Nat} {v:Value} {n:Nat} {xs:List Value} (h:x.ownsRow base e size v n xs) (he:Ex k x y) (hk:k < base):y.ownsRow base e size v n xs :=
 ⟨h.1,h.2.imp id (fun ⟨g,cap,cur,h1,h2,h3,h4⟩=>⟨g,cap,cur,h1,h2,by
  have hg:g < x.heap.size:=by
   rcases Nat.lt_or_ge g x.heap.size with h' | h'
   · exact h'
   rw [Array.getElem?_eq_none h'] at h3; cases h3
  rw [he.block g hg (by omega)]; exact h3,h4⟩)⟩
theorem ownsShape {x:World} {base:Nat} {e:TypeId} {size:Nat} {v:Value} {n:Nat} {xs:List Value} (h:x.ownsRow base e size v n xs):∃ a p,v=.slice a n p:=by
 rcases h.2 with ⟨h1,h2⟩ | ⟨g,cap,cur,h1,-⟩
 · subst h2; exact ⟨none,0,h1⟩
 exact ⟨_,_,h1⟩
theorem W.one_cells (r:W.WantD):∀ u∈r.cells,u.oneCell'=true:=by
 intro u hu
 exact W.flatR_one [r] u (by simpa [W.flatR] using hu)
theorem W.step1 {o:Oper} {a:Act} {Y:World} {K:Act→World→Prop} {Q:Exit→Act→World→Prop} (z:Nat) (s x:Operand)
  (ho:o.op=.call { callee:=.builtin .append,args:=#[s,x],argTypes:=#[27,27] }) (l:List W.WantD) (ad:Option Addr) (c:Nat)
  (hs:a.eval s=.slice (some ⟨z,0,none⟩) 0 0) (hz:Y.heap[z]?=some (.cells #[] 56)) (hx:a.eval x=.slice ad l.length c) (hsrc:W.Src Y ad c l) (hl:l.length≤1048576)
  (h:∀ s' w',w'.ownsRow z 56 7 s' l.length (W.flatR l)→Y.grownBy w' (some z)→K (a.put o.dst s') w'):o.wp Tryz.prog a Y K Q:=by
 obtain ⟨i0,hi,hz0,hz1,hz2⟩:=info_parts W.infoR
 have hown:Y.ownsRow z 56 7 (.slice (some ⟨z,0,none⟩) 0 0) 0 []:=own_empty hz
 have hzl:z < Y.heap.size:=by
  rcases Nat.lt_or_ge z Y.heap.size with h' | h'
  · exact h'
  rw [Array.getElem?_eq_none h'] at hz; cases hz
 rcases hsrc with ⟨rfl,rfl,rfl⟩ | ⟨g,rfl,hg,hr⟩
 ·
  have hrun:=run_append_owned_none (P:=Tryz.prog) (w:=Y) z 27 o.type 56 i0 7 Tryz.underlying27 hi _ 0 [] hown
  unfold Oper.wp
  simp [execOp,ho,resolve,invoke,builtin,hs,hx,hrun,Result.andThen]
  exact h _ _ hown ⟨rfl,rfl,rfl,Nat.le_refl _,fun _ _ _=>rfl⟩
 ·
  refine wp_append_own _ s x 27 ho z 56 i0 _ 7 72 Tryz.underlying27 hi hz0 hz1 hz2 rfl (by decide) _ 0 [] hs hown ⟨g,0,none⟩ l.length c (W.flatR l) hx (W.flatR_len _) (W.flat_cells hr) (W.flatR_one _) (by unfold maxLen; omega) (by omega) (by omega) ?_
  intro s' w' ho' hg' hn'
  exact h s' w' (by simpa using ho') hg'
theorem W.step2 {o:Oper} {a:Act} {Y:World} {K:Act→World→Prop} {Q:Exit→Act→World→Prop} (B z:Nat) (s x:Operand)
  (ho:o.op=.call { callee:=.builtin .append,args:=#[s,x],argTypes:=#[27,27] }) (l:List W.WantD) (r:W.WantD) (v:Value)
  (hs:a.eval s=v) (hown:Y.ownsRow B 56 7 v l.length (W.flatR l)) (hB:B≤Y.heap.size) (hx:a.eval x=.slice (some ⟨z,0,none⟩) 1 1) (hz:Y.heap[z]?=some (.cells r.cells.toArray 56)) (hl:l.length≤1048576)
  (h:∀ s' w',w'.ownsRow B 56 7 s' (l.length+1) (W.flatR (l++[r]))→Y.grownBy w' v.ownBlock→K (a.put o.dst s') w'):o.wp Tryz.prog a Y K Q:=by
 obtain ⟨i0,hi,hz0,hz1,hz2⟩:=info_parts W.infoR
 refine wp_append_own _ s x 27 ho B 56 i0 _ 7 72 Tryz.underlying27 hi hz0 hz1 hz2 rfl (by decide) v l.length _ hs hown ⟨z,0,none⟩ 1 1 r.cells hx rfl (fun j u hj=>cells_blk hz j u (by simpa using hj)) (W.one_cells r) (by unfold maxLen; omega) (by omega) hB ?_
 intro s' w' ho' hg' hn'
 refine h s' w' ?_ hg'
 have e:W.flatR (l++[r])=W.flatR l++r.cells:=by simp [W.flatR]
 rw [e]; exact ho'
theorem W.wantsOk_snoc (ws:List W.WantD) (r:W.WantD) (a:Option Addr) (p B:Nat) (y:World) (h:y.ownsRow B 56 7 (.slice a (ws.length+1) p) (ws.length+1) (W.flatR (ws++[r]))) (hf:∀ x∈ws,x.fits) (hr:r.fits) (hl:ws.length≤1000) :
  Calls Tryz.prog 44 #[.slice a (ws.length+1) p] y fun e y'=>(∃ q,e=.returned (.bool q))∧Below y.heap.size y y':=by
 have e:ws.length+1=(ws++[r]).length:=by simp
 rw [e] at h ⊢
 refine (W.specWantsOk_gv a p (ws++[r]) y (W.Sl.of_owns h).gv (fun x hx=>?_) (by simp; omega)).mono ?_
 ·
  rcases List.mem_append.1 hx with h1 | h1
  · exact hf x h1
  rw [List.mem_singleton.1 h1]; exact hr
 ·
  rintro e y' ⟨⟨q,rfl,-⟩,hb⟩
  exact ⟨⟨q,rfl⟩,hb⟩
theorem fits_snoc {rs:List W.WantD} {r:W.WantD} (h:∀ x∈rs,x.fits) (hr:r.fits):∀ x∈rs++[r],x.fits:=by
 intro x hx
 rcases List.mem_append.1 hx with h1 | h1
 · exact h x h1
 rw [List.mem_singleton.1 h1]; exact hr
theorem box7 {w3 y:World} {C:Array Value} (hb:Below (w3.alloc (.cells C 56)).heap.size (w3.alloc (.cells C 56)) y):∀ j,y.cell? ⟨w3.heap.size,j,none⟩=C[j]?:=by
 intro j
 rw [hb.cell (p:=⟨w3.heap.size,j,none⟩) (by simp)]
 simp [go_sem]
set_option maxRecDepth 4000 in
set_option maxHeartbeats 4000000 in
theorem wantsQ (kr:Nat) (q:Int) (w:World) (hr:Rq w kr q) (hq:q < 700000) :
  Calls Tryz.prog 39 #[.pointer (some ⟨kr,0,none⟩)] w fun e w'=>∃ ws v,e=.returned v∧w'.ownsRow w.heap.size 56 7 v ws.length (W.flatR ws)∧ws.length≤4∧(∀ x∈ws,x.fits)∧Rq w' kr (q+100)∧Ex kr w w':=by
 obtain ⟨i0,hi,hz0,hz1,hz2⟩:=info_parts W.infoR
 have hkr:=hr.lt
 have nbw:=build0w
 have HR:=hidP hr
 clear hr
 go_enter Tryz.func39,Tryz.ntmps39
 go_wp2_with fail
 go_loopw [3,4] (fun v i wx=>∃ (k:Nat) (ws:List W.WantD),k≤4∧i=.int .i64 k∧ws.length≤k∧Hid (∀ x∈ws,x.fits)∧Hid (wx.ownsRow w.heap.size 56 7 v ws.length (W.flatR ws))∧Hid (Rq wx kr (q+23 * k))∧Hid (Ex kr w wx)) (fun _ i _=>4 - (intOf i).toNat)
 case atStart=>exact ⟨0,[],by omega,rfl,Nat.le_refl _,(fun x hx=>by cases hx),own_empty (heap_new rfl),(HR.out.below (bl_alloc bR (.cells #[] 56))).up (by omega),Ex.of_below (bl_alloc bR _)⟩
 case round =>
  obtain ⟨k,ws,hk,rfl,hws,HF,HO,HQ,HE⟩:=hrel
  by_cases hlt:k < 4
  ·
   go_wp2_with fail
   refine (pickQ kr _ 2 _ HQ.out (by omega) (by omega) (by omega)).mono ?_
   rintro e w1 ⟨m,rfl,m0,m1,r1,e1⟩
   have O1:=hidP (ownsE HO.out e1 hkr)
   have E1:=hidP (HE.out.trans e1)
   have R1:=hidP r1
   clear HO HE HQ r1 e1
   by_cases hm:m=0
   ·
    subst hm
    go_wp2_with fail
    refine (dec_small k (by omega) (by omega) _).mono ?_
    rintro e w2 ⟨x,rfl,hx,b2⟩
    have R2:=hidP (R1.out.below b2)
    have E2:=hidP (E1.out.then_below b2)
    have O2:=hidP (owns_below O1.out b2)
    clear b2 R1 E1 O1
    go_wp2_with fail
    refine (drawWantQ kr _ _ _ R2.out (by omega)).mono ?_
    rintro e w3 ⟨h,v1,p1,s,d,g,rfl,hh,r3,e3⟩
    have O3:=hidP (ownsE O2.out e3 hkr)
    have E3:=hidP (E2.out.trans e3)
    have R3:=hidP r3
    have hxs:({ data:=#[99] }++x).size≤maxLen:=by rw [size_front,hx]; unfold maxLen; omega
    have hz3:=E3.out.size
    clear r3 e3 O2 E2 R2
    go_wp2_with fail
    obtain ⟨a3,p3,hs3⟩:=ownsShape O3.out
    subst hs3
    have HS:=hidP ((W.Sl.of_owns O3.out).src)
    have HW:Hid ((⟨{ data:=#[99] }++x,h,v1,p1,s,d,g⟩:W.WantD).fits):=⟨hxs,by show h.size≤maxLen; unfold maxLen; omega⟩
    have kx:=box7 (C:=#[.string ({ data:=#[99] }++x),.int .i64 v1,.string h,.int .i64 p1,.int .i64 s,.int .i64 d,.int .i64 g]) (Below.refl (w3.alloc (.cells #[.string ({ data:=#[99] }++x),.int .i64 v1,.string h,.int .i64 p1,.int .i64 s,.int .i64 d,.int .i64 g] 56)).heap.size (w3.alloc (.cells #[.string ({ data:=#[99] }++x),.int .i64 v1,.string h,.int .i64 p1,.int .i64 s,.int .i64 d,.int .i64 g] 56)))
    go_cut [25] (fun v wx=>(∃ b,v=.bool b)∧Below (w3.alloc (.cells #[.string ({ data:=#[99] }++x),.int .i64 v1,.string h,.int .i64 p1,.int .i64 s,.int .i64 d,.int .i64 g] 56)).heap.size (w3.alloc (.cells #[.string ({ data:=#[99] }++x),.int .i64 v1,.string h,.int .i64 p1,.int .i64 s,.int .i64 d,.int .i64 g] 56)) wx)
    case first =>
     have cB:Below (w3.alloc (.cells #[.string ({ data:=#[99] }++x),.int .i64 v1,.string h,.int .i64 p1,.int .i64 s,.int .i64 d,.int .i64 g] 56)).heap.size (w3.alloc (.cells #[.string ({ data:=#[99] }++x),.int .i64 v1,.string h,.int .i64 p1,.int .i64 s,.int .i64 d,.int .i64 g] 56)) (w3.alloc (.cells #[.string ({ data:=#[99] }++x),.int .i64 v1,.string h,.int .i64 p1,.int .i64 s,.int .i64 d,.int .i64 g] 56)):=Below.refl _ _
     go_region_law (first
      | (refine wanted_if (by rfl) ?_; refine W.step1 _ (.tmp 19) (.tmp 20) rfl ws a3 p3 rfl (by first | exact heap_drew (heap_new (by simp)) | exact heap_drew (heap_old (heap_new (by simp))) | exact heap_new (by simp) | exact heap_old (heap_new (by simp))) rfl (HS.out.keep (bl_trans (bl_alloc bR _) (by repeat (first | exact cB | refine bl_alloc ?_ _ | refine bl_drew ?_)))) (by omega) ?_; intro s1 y1 ho1 hg1; have hp1:=grown_heap hg1; have hs1:=hg1.size; have cB1:Below (w3.alloc (.cells #[.string ({ data:=#[99] }++x),.int .i64 v1,.string h,.int .i64 p1,.int .i64 s,.int .i64 d,.int .i64 g] 56)).heap.size (w3.alloc (.cells #[.string ({ data:=#[99] }++x),.int .i64 v1,.string h,.int .i64 p1,.int .i64 s,.int .i64 d,.int .i64 g] 56)) y1:=Below.grown (by repeat (first | exact cB | refine bl_alloc ?_ _ | refine bl_drew ?_)) hg1 (by have h9:=cB.size; first | omega | (simp at h9 ⊢; done) | (simp at h9 ⊢; omega)) (fun j hj=>by cases hj; first | (simp; done) | (simp; omega)); clear cB hg1; have cB:=cB1; clear cB1; have kx:=box7 cB)
      | (refine wanted_if (by rfl) ?_; refine W.step2 _ _ (.tmp 21) (.tmp 23) rfl ws (⟨{ data:=#[99] }++x,h,v1,p1,s,d,g⟩:W.WantD) _ rfl (by first | exact ho1 | exact owns_below ho1 (bl_alloc bR _)) (by have h9:=hs1; first | (simp at h9 ⊢; done) | (simp at h9 ⊢; omega)) rfl (by first | exact hp1 _ _ (by first | exact heap_drew (heap_new (by simp)) | exact heap_drew (heap_old (heap_new (by simp))) | exact heap_new (by simp) | exact heap_old (heap_new (by simp))) (by simp) | first | exact heap_drew (heap_new (by simp)) | exact heap_drew (heap_old (heap_new (by simp))) | exact heap_new (by simp) | exact heap_old (heap_new (by simp))) (by omega) ?_; intro s2 y2 ho2 hg2; have cB2:Below (w3.alloc (.cells #[.string ({ data:=#[99] }++x),.int .i64 v1,.string h,.int .i64 p1,.int .i64 s,.int .i64 d,.int .i64 g] 56)).heap.size (w3.alloc (.cells #[.string ({ data:=#[99] }++x),.int .i64 v1,.string h,.int .i64 p1,.int .i64 s,.int .i64 d,.int .i64 g] 56)) y2:=Below.grown (by repeat (first | exact cB | refine bl_alloc ?_ _ | refine bl_drew ?_)) hg2 (by have h9:=cB.size; first | omega | (simp at h9 ⊢; done) | (simp at h9 ⊢; omega)) (fun j hj=>by have h1:=owns_ge ho1 j hj; first | (simp at h1 ⊢; done) | (simp at h1 ⊢; omega)); clear cB hg2; have cB:=cB2; clear cB2; obtain ⟨a9,p9,hs9⟩:=ownsShape ho2; subst hs9)
      | (go_simp; go_at_call 44; refine (W.wantsOk_snoc ws (⟨{ data:=#[99] }++x,h,v1,p1,s,d,g⟩:W.WantD) a9 p9 _ _ ho2 HF.out HW.out (by omega)).mono ?_; rintro e y3 ⟨⟨qq,rfl⟩,hb3⟩; have cB3:=bl_trans cB hb3; clear cB hb3; have cB:=cB3; clear cB3; go_wp2_with fail))
     all_goals (go_wp2_with fail; go_meet; exact ⟨⟨_,rfl⟩,cB⟩)
    obtain ⟨⟨b,rfl⟩,c4⟩:=hcut
    have Bz:Hid (Below w3.heap.size w3 wc):=bl_trans (bl_alloc bR _) c4
    clear kx
    have kx:=box7 c4
    have hz4:w3.heap.size < wc.heap.size:=Nat.lt_of_lt_of_le (by simp) c4.size
    clear c4
    cases b
    ·
     go_wp2
     exact ⟨⟨k+1,ws,by omega,by go_num,by omega,HF.out,owns_below O3.out Bz.out,(R3.out.below Bz.out).up (by omega),E3.out.then_below Bz.out⟩,by simp [intOf]; omega⟩
    go_wp2_with (at_builtin; refine wpList_append_own _ rfl _ _ 27 rfl w.heap.size 56 i0 _ 7 72 Tryz.underlying27 hi hz0 hz1 hz2 rfl (by decide) (.slice a3 ws.length p3) ws.length _ rfl (by exact owns_below O3.out (bl_alloc Bz.out _)) ⟨_,0,none⟩ 1 1 (⟨{ data:=#[99] }++x,h,v1,p1,s,d,g⟩:W.WantD).cells rfl rfl (new_cells _ _ (by simp) _ _ _ rfl) (W.one_cells _) (by unfold maxLen; omega) (by omega) (by have:=(bl_alloc Bz.out (.cells #[] 56)).size; simp at this ⊢; omega) ?_; intro v' w5 ho hg hn)
    refine ⟨⟨k+1,ws++[(⟨{ data:=#[99] }++x,h,v1,p1,s,d,g⟩:W.WantD)],by omega,by go_num,by simp; omega,fits_snoc HF.out HW.out, ?_,((R3.out.below (bl_alloc Bz.out _)).grown hg (fun j hj=>Nat.lt_of_lt_of_le hkr (owns_ge O3.out j hj))).up (by omega),(E3.out.then_below (bl_alloc Bz.out _)).grown hg (fun j hj=>owns_ge O3.out j hj)⟩,by simp [intOf]; omega⟩
    show w5.ownsRow _ _ _ _ (ws++[(⟨{ data:=#[99] }++x,h,v1,p1,s,d,g⟩:W.WantD)]).length _
    rw [List.length_append]
    simpa [W.flatR] using ho
   go_wp2
   exact ⟨⟨k+1,ws,by omega,by go_num,by omega,HF.out,O1.out,R1.out.up (by omega),E1.out⟩,by simp [intOf]; omega⟩
  go_wp2
  go_ret
  have hk4:k=4:=by omega
  subst hk4
  exact ⟨ws,_,rfl,HO.out,by omega,HF.out,HQ.out.up (by omega),HE.out⟩
def W.Ow (w:World) (v:Value) (l:List W.WantD) (B:Nat):Prop:=w.ownsRow B 56 7 v l.length (W.flatR l)
theorem W.Ow.sl {w:World} {v:Value} {l:List W.WantD} {B:Nat} (h:W.Ow w v l B):W.Sl w v l B:=W.Sl.of_owns h
theorem W.Ow.grown {w w':World} {v:Value} {l:List W.WantD} {B:Nat} {row:Option Nat} (h:W.Ow w v l B) (hg:w.grownBy w' row) (hne:v.ownBlock=none∨v.ownBlock≠row):W.Ow w' v l B :=
 ⟨h.1,h.2.imp id (fun ⟨g,cap,cur,h1,h2,h3,h4⟩=>⟨g,cap,cur,h1,h2,by
  have hl:g < w.heap.size:=by
   rcases Nat.lt_or_ge g w.heap.size with h' | h'
   · exact h'
   rw [Array.getElem?_eq_none h'] at h3; cases h3
  have hn:some g≠row:=by subst h1; simpa [Value.ownBlock] using hne
  rw [hg.block g hl hn]; exact h3,h4⟩)⟩
theorem W.Ow.keep {w w':World} {v:Value} {l:List W.WantD} {B:Nat} (h:W.Ow w v l B) (hb:Below w.heap.size w w'):W.Ow w' v l B:=W.owns_below h hb
theorem W.Ow.lt {w:World} {v:Value} {l:List W.WantD} {B:Nat} (h:W.Ow w v l B):∀ g,v.ownBlock=some g→B≤g∧g < w.heap.size:=W.Sl.lt (W.Ow.sl h)
theorem W.Ow.shape {w:World} {v:Value} {l:List W.WantD} {B:Nat} (h:W.Ow w v l B):∃ a p,v=.slice a l.length p:=W.Sl.shape (W.Ow.sl h)
theorem W.Ow.low {w:World} {v:Value} {l:List W.WantD} {B B':Nat} (h:W.Ow w v l B) (hB:B'≤B):W.Ow w v l B' :=
 ⟨h.1,h.2.imp id (fun ⟨g,cap,cur,h1,h2,h3,h4⟩=>⟨g,cap,cur,h1,Nat.le_trans hB h2,h3,h4⟩)⟩
theorem W.Ow.of_owns {w:World} {v:Value} {l:List W.WantD} {B:Nat} (h:w.ownsRow B 56 7 v l.length (W.flatR l)):W.Ow w v l B:=h
theorem heap_putQ {w:World} {b i:Nat} {cur:Array Value} {e:TypeId} (h:w.heap[b]?=some (.cells cur e (0,0))) (v:Value):(w.setCell ⟨b,i,none⟩ v).heap[b]?=some (.cells (cur.setIfInBounds i v) e (0,0)):=heap_setCell_same w b i cur e v h
theorem owns_setQ {x:World} {B size g n c:Nat} {e:TypeId} {xs:List Value} (h:x.ownsRow B e size (.slice (some ⟨g,0,none⟩) n c) n xs) (p:Nat) (hp:p < xs.length) (v:Value):(x.setCell ⟨g,p,none⟩ v).ownsRow B e size (.slice (some ⟨g,0,none⟩) n c) n (xs.set p v):=by
 obtain ⟨hl,⟨h1,-⟩ | ⟨g',cap,cur,h1,h2,h3,h4,h5,h6,h7⟩⟩:=h
 · cases h1
 cases h1
 refine ⟨by simpa using hl,Or.inr ⟨g,c,cur.setIfInBounds p v,rfl,h2,heap_putQ h3 v,h4,h5,by simpa using h6, ?_⟩⟩
 rw [Array.toList_setIfInBounds,List.take_set,h7]
theorem owns_cellsQ {B size g n c:Nat} {e:TypeId}:∀ (vs:List Value) (p:Nat) (x:World) (xs:List Value),x.ownsRow B e size (.slice (some ⟨g,0,none⟩) n c) n xs→p+vs.length≤xs.length→(x.setCells g p vs).ownsRow B e size (.slice (some ⟨g,0,none⟩) n c) n (xs.take p++(vs++xs.drop (p+vs.length)))
 | [],p,x,xs,h,hl=>by simpa [World.setCells] using h
 | v :: r,p,x,xs,h,hl=>by
  simp only [List.length_cons] at hl
  have h1:=owns_cellsQ r (p+1) _ _ (owns_setQ h p (by omega) v) (by simp; omega)
  have e1:(xs.set p v).take (p+1)++(r++(xs.set p v).drop (p+1+r.length))=xs.take p++(v :: r++xs.drop (p+(v :: r).length)):=by
   rw [List.drop_set_of_lt (by omega),List.take_add_one,List.getElem?_set_self (by omega)]
   rw [List.take_set_of_le (Nat.le_refl _)]
   simp only [Option.toList_some,List.append_assoc,List.cons_append,List.nil_append,List.length_cons]
   have e2:p+1+r.length=p+(r.length+1):=by omega
   rw [e2]
  rw [e1] at h1
  exact h1
theorem flatW_consQ (r:W.WantD) (rs:List W.WantD):W.flatR (r :: rs)=r.cells++W.flatR rs:=by simp [W.flatR]
theorem flatW_putQ:∀ (rs:List W.WantD) (i:Nat) (r:W.WantD),i < rs.length→W.flatR (rs.set i r)=(W.flatR rs).take (i * 7)++(r.cells++(W.flatR rs).drop (i * 7+r.cells.length))
 | [],i,r,h=>by simp at h
 | q :: rs,0,r,h=>by
  rw [List.set_cons_zero,flatW_consQ,flatW_consQ,Nat.zero_mul,List.take_zero,List.nil_append,Nat.zero_add]
  have e:(q.cells++W.flatR rs).drop r.cells.length=W.flatR rs:=List.drop_left' (show q.cells.length=r.cells.length from rfl)
  rw [e]
 | q :: rs,i+1,r,h=>by
  have ih:=flatW_putQ rs i r (by simpa using h)
  have hq:q.cells.length=7:=rfl
  have e1:(i+1) * 7=q.cells.length+i * 7:=by rw [hq]; omega
  have e2:(i+1) * 7+r.cells.length=q.cells.length+(i * 7+r.cells.length):=by rw [hq]; omega
  rw [List.set_cons_succ,flatW_consQ,flatW_consQ,ih,e2,e1,List.take_length_add_append,List.drop_length_add_append,List.append_assoc]
theorem W.Ow.putQ {x:World} {g n c B i:Nat} {rs:List W.WantD} (r:W.WantD) (h:W.Ow x (.slice (some ⟨g,0,none⟩) n c) rs B) (hi:i < rs.length):W.Ow (x.setCells g (i * 7) r.cells) (.slice (some ⟨g,0,none⟩) n c) (rs.set i r) B:=by
 have hn:n=rs.length:=by
  obtain ⟨a,p,e⟩:=h.shape
  cases e; rfl
 subst hn
 have h1:=owns_cellsQ r.cells (i * 7) x _ h (by rw [W.flatR_len]; show i * 7+7≤_; omega)
 rw [← flatW_putQ rs i r hi] at h1
 show World.ownsRow _ _ _ _ _ (rs.set i r).length _
 rw [List.length_set]
 exact h1
end Go.Proofs.YtcjhlhijdacinaaGreatDoor
