import Derived.Test.YtcjhlhijdacinaaGreatDoorJ46
import Derived.HandedShaped
import Derived.ChangeMaps5
import Derived.Shelf.Vars
import Derived.Test.YtcjhlhijdacinaaGreatDoorCards
import Derived.Test.YtcjhlhijdacinaaGreatDoorTie
import Derived.ChangeOld
import Derived.LaidMore
import Derived.LaidOnce
import Derived.SevenTiedAt
import Derived.Stop.LaidErr
import Derived.Stop.Joined
import Derived.OpenVars
import Derived.ProofKit
import Derived.OpenShut
namespace Go.Proofs.YtcjhlhijdacinaaGreatDoor.fnLand
open Go.ChangeShapes Go.WideShapes Go.ChangeAt Go.RowKit Go.ChangeMaps
set_option linter.unusedVariables false
theorem own:ownKnob Tryz.prog.godebug=none:=by kernel_rfl
theorem laidOut:laidOutB Tryz.prog=true:=by kernel_rfl
def IsRow (k:IntKind) (w:World) (a:Option Addr) (len cap:Nat) (zs:List Int):Prop :=
 (a=none∧len=0∧cap=0∧zs=[]) ∨
 ∃ x,a=some x∧len≤cap∧cap≤maxLen∧zs.length=cap∧(∀ i,i < zs.length→w.cell? (x.add i)=some (.int k (zs.getD i 0)))∧∀ n∈zs,(Lit.int k n).wf=true
theorem code_in {w:World} {a:Option Addr} {len cap:Nat} {zs:List Int} (h:IsRow .u8 w a len cap zs):CodeIn w a len zs∧len≤cap∧cap≤maxLen:=by
 rcases h with ⟨rfl,rfl,rfl,rfl⟩ | ⟨x,rfl,hl,hm,hz,hcell,hwz⟩
 · exact ⟨Or.inl rfl,Nat.le_refl _,Nat.zero_le _⟩
 refine ⟨?_,hl,hm⟩
 by_cases h0:len=0
 · exact Or.inl h0
 obtain ⟨b,off,spot⟩:=x
 have hc:=hcell 0 (by omega)
 have hspot:spot=none:=by simpa [Addr.add] using World.cell?_spot hc
 subst hspot
 refine Or.inr ⟨b,off,rfl, ?_,fun i hi=>?_⟩
 · exact World.block_lt_of_cell? w _ hc
 have h1:=hcell i (by omega)
 rw [Addr.add_mid] at h1
 refine ⟨h1, ?_⟩
 have hmem:zs.getD i 0∈zs:=by
  rw [List.getD_eq_getElem?_getD,List.getElem?_eq_getElem (by omega)]
  exact List.getElem_mem _
 have:=hwz _ hmem
 simpa [Lit.wf,IntKind.min,IntKind.max,IntKind.signed,IntKind.bits] using this
theorem wrap {H:Type} {enc:TypeId × Value→H} {a:Assume} {C:Checked} {os:Os} {f:FuncId} {fn:Func} {s:ChangeSpec} {conds:List PathCond} {apart fresh handsOn again:Bool} {X:World→Array Value→Prop}
  (hX:∀ (w w':World) (args:Array Value),w.heap=w'.heap→X w args→X w' args)
  (own:ownKnob C.prog.godebug=none) (started:os.Started) (noInit:C.prog.inits.idxOf? f=none) (hfn:C.prog.funcs[f]?=some fn)
  (witness:∃ (w:World) (tape:Tape) (i:Input),w.os=os∧(w.forCall tape i).Shaped C.prog∧i.vars=[]∧Input.okWide C.prog (w.forCall tape i) .any w.heap.size f i ∧
   ((s.pre enc C.prog fn conds apart (w.forCall tape i).memory i.args∧X (w.forCall tape i).memory i.args)∧sizedMet enc C.prog fn (OpenSpec.ofChange s) apart (w.forCall tape i).memory i.args)∧a.holds C.prog (lone (Frame.enter C.prog f i.args .normal) [] (w.forCall tape i)))
  (contract:∀ (W:World) (base:Nat) (args:Array Value) (ds gs:List (DataW H)) (before:List MemPlace),
   (∀ (j:Nat) t v,fn.params[j]?=some t→args[j]?=some v→Value.okWide C.prog W .any base t v) →
   DataW.Whole enc C.prog fn.params.toList s.vars apart W args.toList ds gs before →
   X W args→W.ShapedOpen C.prog →
   Calls C.prog f args W fun e W'=>∃ v,e=.returned v∧s.post enc C.prog fn apart fresh handsOn again W args v W') :
  ReturnsInHanded a C os f .any (fun w args=>(s.pre enc C.prog fn conds apart w args∧X w args)∧sizedMet enc C.prog fn (OpenSpec.ofChange s) apart w args) (s.post enc C.prog fn apart fresh handsOn again):=by
 refine returnsInHanded_of_calls own started noInit witness ?_
 intro w tape i _ hsh _ hok hpre _
 obtain ⟨_,_,_,fn',hfn',_,_,_,_,hval⟩:=hok
 obtain rfl:fn'=fn:=Option.some.inj (hfn'.symm.trans hfn)
 obtain ⟨⟨⟨ds,gs,before,hw,-⟩,hx⟩,-⟩:=hpre
 refine (contract (w.forCall tape i) w.heap.size i.args ds gs before hval (DataW.Whole.of_heap (w':=w.forCall tape i) (by rfl) hw) (hX _ _ _ (by rfl) hx) hsh).mono ?_
 rintro e W' ⟨v,rfl,hp⟩
 exact ChangeSpec.post_blind hp
set_option maxRecDepth 100000 in
theorem door_met (os:Os) (args:Array Value):laidMetH Tryz.prog Rows.fnLandRow.laid ((World.doorLaid Tryz.prog 180 os).forCall (fun _ _=>0) ⟨#[],args,[]⟩).memory :=
 laidMetH_of_parts3 (fuel:=8) (laidMet_of_run' 8 (by kernel_rfl) (by kernel_rfl)) (by kernel_rfl) (by kernel_rfl)
set_option maxRecDepth 100000 in
theorem lifted (os:Os) (started:os.Started) (H:Type) (enc:TypeId × Value→H) :
  ReturnsInHanded {} Tryz.checked os 3 .any (fun w args=>(Rows.fnLandSpec.pre enc Tryz.prog Tryz.f3 [] false w args∧laidMetH Tryz.prog Rows.fnLandRow.laid w)∧sizedMet enc Tryz.prog Tryz.f3 (OpenSpec.ofChange Rows.fnLandSpec) false w args) (Rows.fnLandSpec.post enc Tryz.prog Tryz.f3 false true false false):=by
 refine wrap (C:=Tryz.checked) (X:=fun w _=>laidMetH Tryz.prog Rows.fnLandRow.laid w) (fun _ _ _ hh h=>h.of_heap hh) own started (by kernel_rfl) Tryz.func3
  (ChangeSpec.witness_shaped (enc:=enc) (C:=Tryz.checked) (os:=os) (X:=fun w _=>laidMetH Tryz.prog Rows.fnLandRow.laid w) false (World.doorLaid Tryz.prog 180 os) #[.slice none 0 0] 8 rfl (World.shaped_of_RefB (by kernel_rfl) (by kernel_rfl)) (by kernel_rfl) (by kernel_rfl) (by kernel_rfl) (door_met os _)) ?_
 intro W base args ds gs before hval0 hW hL hsh
 have hval:∀ (j:Nat) t v,Tryz.f3.params[j]?=some t→args[j]?=some v→Value.okWide Tryz.prog W .any base t v:=hval0
 have hW':=hW
 obtain ⟨pp,q,hA0,hV,rfl,hfz,hnd⟩:=hW
 have hA:DataW.TrodAll enc Tryz.prog W 0 (fun _=>true) true Tryz.f3.params.toList args.toList ds pp:=hA0
 rw [Tryz.params3] at hA hval
 obtain ⟨v0,vs0,d0,ds0,p0,q0,hargs,rfl,rfl,h0,r0⟩:=trodAll_cons hA
 obtain ⟨rfl,rfl,rfl⟩:=trodAll_nil r0
 obtain rfl:args=#[v0]:=by cases args; simp_all
 obtain ⟨a0,len0,cap0,rfl⟩:=okWide_slice Tryz.underlying22 (hval 0 22 v0 rfl rfl)
 have k0:=h0
 have lt0:∀ x∈p0,x.block < W.heap.size:=by obtain ⟨m,hm⟩:=k0; exact DataW.trod_lt m _ _ _ hm
 obtain ⟨z0,w0⟩:∃ zs,IsRow .u8 W a0 len0 cap0 zs:=by
  obtain ⟨fuel,hf⟩:=h0
  rcases open_ints Tryz.underlying22 Tryz.underlying5 (by kernel_rfl) hf with ⟨hcs,_⟩ | ⟨x,l,c,zs,hcs,_,hl,hm,hz,_,hcell,hwz⟩
  ·
   simp [Value.cells] at hcs
   obtain ⟨rfl,rfl,rfl⟩:=hcs
   exact ⟨[],.inl ⟨rfl,rfl,rfl,rfl⟩⟩
  simp [Value.cells] at hcs
  obtain ⟨rfl,rfl,rfl⟩:=hcs
  exact ⟨zs,.inr ⟨_,rfl,hl,hm,by simpa using hz,hcell,hwz⟩⟩
 clear hA0 hval0
 have hv2 : DataW.TrodVars enc Tryz.prog W (fun _ => true) ["loop.example/wharfmate/impl.errNoParcel", "loop.example/wharfmate/impl.errNotToLand", "loop.example/wharfmate/impl.errNotWanted", "loop.example/wharfmate/impl.errTaken", "loop.example/wharfmate/impl.errFull", "loop.example/wharfmate/impl.errNotOk", "loop.example/wharfmate/impl.errTimeOver", "loop.example/wharfmate/impl.errNoPlace", "loop.example/wharfmate/impl.errTooMuch"] gs q := hV
 have hv3:=fun W' (bel:Below W.heap.size W W')=>Below.trodVars laidOut bel (by kernel_rfl) hv2
 have hgs:∃ g1 g2 g3 g4 g5 g6 g7 g8 g9,gs=[g1,g2,g3,g4,g5,g6,g7,g8,g9]:=by
  rcases gs with _ | ⟨g1,gs⟩
  · simp [DataW.TrodVars] at hv2
  obtain ⟨_,_,_,_,_,_,_,_,_,_,hv2,_⟩:=hv2
  rcases gs with _ | ⟨g2,gs⟩
  · simp [DataW.TrodVars] at hv2
  obtain ⟨_,_,_,_,_,_,_,_,_,_,hv2,_⟩:=hv2
  rcases gs with _ | ⟨g3,gs⟩
  · simp [DataW.TrodVars] at hv2
  obtain ⟨_,_,_,_,_,_,_,_,_,_,hv2,_⟩:=hv2
  rcases gs with _ | ⟨g4,gs⟩
  · simp [DataW.TrodVars] at hv2
  obtain ⟨_,_,_,_,_,_,_,_,_,_,hv2,_⟩:=hv2
  rcases gs with _ | ⟨g5,gs⟩
  · simp [DataW.TrodVars] at hv2
  obtain ⟨_,_,_,_,_,_,_,_,_,_,hv2,_⟩:=hv2
  rcases gs with _ | ⟨g6,gs⟩
  · simp [DataW.TrodVars] at hv2
  obtain ⟨_,_,_,_,_,_,_,_,_,_,hv2,_⟩:=hv2
  rcases gs with _ | ⟨g7,gs⟩
  · simp [DataW.TrodVars] at hv2
  obtain ⟨_,_,_,_,_,_,_,_,_,_,hv2,_⟩:=hv2
  obtain ⟨_,_,_,_,_,_,_,_,_,_,_,_,rfl,-⟩:=trodVars_two hv2
  exact ⟨_,_,_,_,_,_,_,_,_,rfl⟩
 obtain ⟨g1,g2,g3,g4,g5,g6,g7,g8,g9,rfl⟩:=hgs
 obtain ⟨hc,hcl,hcm⟩:=code_in w0
 obtain ⟨hE6,y0,y1,hEs⟩:=er9_of hL
 obtain ⟨r0',r1',r2',hE3⟩:=er3_of hL
 refine (lawFnLand G.keysSay G.sortedSay Pr.keysSay Pr.sortedSay a0 len0 cap0 z0 W hc hcl hE6 y0 y1 hEs r0' r1' r2' hE3).mono fun e W' ⟨he,bel⟩=>?_
 subst he
 exact ⟨_,rfl,_,_,_,[],_,_,hW',trodAll_mk1 (shut_bool Tryz.underlying4 _),(trodAll_cons_mk (Below.trod laidOut (by kernel_rfl) (of_decide_eq_true (by kernel_rfl)) k0 bel lt0) trodAll_mk0),hv3 W' bel,bel.frame _,fun h=>by cases h⟩
theorem over:Rows.fnLandRow.holds Tryz.pinned (OpenSpec.ofChange Rows.fnLandSpec) :=
 OpenClaim.holds_of_wide 3 Tryz.f3 rfl rfl rfl rfl rfl rfl rfl ⟨rfl,rfl,rfl,rfl,rfl⟩ rfl rfl rfl rfl rfl (by kernel_rfl) Tryz.func3 (by kernel_rfl)
  (of_decide_eq_true (by kernel_rfl)) (by unfold Func.isWrapper; first | (rw [if_pos (by decide +kernel)]; kernel_rfl) | (rw [if_neg (by decide +kernel)]; exact ⟨rfl,rfl⟩))
  (fun os started H enc _=>lifted os started H enc)
theorem card:Claim7.holds Tryz.pinned (.plain (OpenSpec.ofChange Rows.fnLandSpec)) Rows.fnLandCard :=
 Claim7.holds_tied_plain_at .later [] [.sentinel, .sentinel, .sentinel, .sentinel, .sentinel, .sentinel, .sentinel, .sentinel, .sentinel] true (true, "8bf85f1ec11b5e47792f4ce65e12115d5a6542481f10986f1b7106cfc57baffc") true
  over (fun _ h=>by cases h) (by kernel_rfl) (fun _ h=>by cases h) fnLand_row_tie rfl ⟨rfl,rfl⟩ (by kernel_rfl) rfl
  (fun f fn hf hfn=>by
   obtain rfl : f = 3 := Option.some.inj ((show Tryz.prog.funcNamed "loop.example/wharfmate/laws.FnLand" = some 3 by kernel_rfl).symm.trans hf) |>.symm
   obtain rfl:fn=Tryz.f3:=(Option.some.inj (Tryz.func3.symm.trans hfn)).symm
   exact ⟨by kernel_rfl,fun j t ht=>by
    rw [Tryz.params3] at ht
    have hm:t∈[22]:=by simpa using Array.mem_of_getElem? ht
    have hall:([22].all fun u=>!Tryz.prog.wantsStandIn u)=true:=by kernel_rfl
    exact (show Tryz.prog.wantsStandIn t=false by simpa using List.all_eq_true.1 hall t hm)⟩)
  (by kernel_rfl)
end Go.Proofs.YtcjhlhijdacinaaGreatDoor.fnLand
namespace Go.Proofs.YtcjhlhijdacinaaGreatDoor
theorem FnLandCard_holds:Rows.FnLandCardSaid:=fnLand.card
#print axioms FnLandCard_holds
end Go.Proofs.YtcjhlhijdacinaaGreatDoor
