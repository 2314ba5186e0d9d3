import Derived.Test.YtcjhlhijdacinaaGreatDoorJ01
import Derived.WalkKit
import Derived.LaidEql
import Derived.Stop.Asserts
import Derived.RowKitTokens
import Derived.Test.YtcjhlhijdacinaaGreatDoorJ23
namespace Go.Proofs.YtcjhlhijdacinaaGreatDoor
open Go.RowKit Go.Extern.Stop Go.Stop Go.Extern
set_option linter.unusedVariables false
theorem lit_type (v:Value) (w:World):(Extern.ReflectliteType.typeOf #[.iface 173 v]).run Tryz.prog w=.ok (.iface 133 (.agg #[.pointer (some ⟨9,173,none⟩)])) w:=by kernel_rfl
def compF : Array Value → Sem Value := Extern.ReflectliteType.method fun t => do Go.Extern.Rtype.noPackHeld "Comparable" t; pure (.bool (← typeInfo t).comparable)
theorem lit_comp (w:World):(compF #[.agg #[.pointer (some ⟨9,173,none⟩)]]).run Tryz.prog w=.ok (.bool true) w:=by kernel_rfl
theorem lit_meth (v : Value) (w : World) : (Go.method 310 133 v "Comparable").run Tryz.prog w = .ok (147, v) w := by kernel_rfl
theorem err_comp:(Tryz.prog.info? 173).map (·.comparable)=some true:=by kernel_rfl
theorem err_size:(Tryz.prog.info? 198).map (·.size)=some 1:=by kernel_rfl
theorem no_is (v:Value) (xT:TypeId) (w:World):(Instr.typeAssert (.iface 173 v) xT 135 true).run Tryz.prog w=.ok (.tuple #[.nilIface,.bool false]) w:=run_typeAssert_lacksB Tryz.underlying135 (by kernel_rfl) (by kernel_rfl) v xT w
theorem no_unwrap (v:Value) (xT:TypeId) (w:World):(Instr.typeAssert (.iface 173 v) xT 138 true).run Tryz.prog w=.ok (.tuple #[.nilIface,.bool false]) w:=run_typeAssert_lacksB Tryz.underlying138 (by kernel_rfl) (by kernel_rfl) v xT w
theorem no_unwraps (v:Value) (xT:TypeId) (w:World):(Instr.typeAssert (.iface 173 v) xT 140 true).run Tryz.prog w=.ok (.tuple #[.nilIface,.bool false]) w:=run_typeAssert_lacksB Tryz.underlying140 (by kernel_rfl) (by kernel_rfl) v xT w
theorem is_self (a:Addr) (w:World):Calls Tryz.prog 70 #[.iface 173 (.pointer (some a)),.iface 173 (.pointer (some a))] w fun e w'=>e=.returned (.bool true)∧w'=w:=by
 obtain ⟨i,hi,hc⟩:=Option.map_eq_some_iff.1 err_comp
 obtain ⟨j,hj,-⟩:=Option.map_eq_some_iff.1 err_size
 have x1:=@run_callFunc_extern Tryz.prog 85 _ Extern.ReflectliteType.typeOf Tryz.func85 (by kernel_rfl) (by kernel_rfl) (by kernel_rfl) (by kernel_rfl)
 have x2:=@run_callFunc_extern Tryz.prog 147 _ compF Tryz.func147 (by kernel_rfl) (by kernel_rfl) (by kernel_rfl) (by kernel_rfl)
 have y1:=lit_type
 have y2:=lit_comp
 have y3:=lit_meth
 have q:=run_eql_iface_ptr_same (P:=Tryz.prog) w a Tryz.underlying59 Tryz.underlying173 hi hc hj
 go_enter Tryz.func70,Tryz.ntmps70
 go_wp2
 refine wp_loop_rounds 1 ?_
 rw [rounds_succ]
 go_wp2
 go_ret
 exact ⟨rfl,rfl⟩
theorem is_none (b:Addr) (w:World):Calls Tryz.prog 70 #[.nilIface,.iface 173 (.pointer (some b))] w fun e w'=>e=.returned (.bool false)∧w'=w:=by
 have q:=run_eql_iface_nil_left (P:=Tryz.prog) w 173 (.pointer (some b)) Tryz.underlying59
 go_enter Tryz.func70,Tryz.ntmps70
 go_wp2
 go_ret
 exact ⟨rfl,rfl⟩
theorem is_apart (a b:Addr) (ca cb:Array Value) (ta tb:TypeId) (w:World) (hne:a≠b) (ha:w.heap[a.block]?=some (.cells ca ta (0,0))) (hb:w.heap[b.block]?=some (.cells cb tb (0,0))) :
  Calls Tryz.prog 70 #[.iface 173 (.pointer (some a)),.iface 173 (.pointer (some b))] w fun e w'=>e=.returned (.bool false)∧w'=w:=by
 obtain ⟨i,hi,hc⟩:=Option.map_eq_some_iff.1 err_comp
 obtain ⟨j,hj,hs⟩:=Option.map_eq_some_iff.1 err_size
 have x1:=@run_callFunc_extern Tryz.prog 85 _ Extern.ReflectliteType.typeOf Tryz.func85 (by kernel_rfl) (by kernel_rfl) (by kernel_rfl) (by kernel_rfl)
 have x2:=@run_callFunc_extern Tryz.prog 147 _ compF Tryz.func147 (by kernel_rfl) (by kernel_rfl) (by kernel_rfl) (by kernel_rfl)
 have y1:=lit_type
 have y2:=lit_comp
 have y3:=lit_meth
 have n1:=no_is
 have n2:=no_unwrap
 have n3:=no_unwraps
 have q:=run_eql_iface_ptr_other (P:=Tryz.prog) w Tryz.underlying59 Tryz.underlying173 hi hc hj (by rw [hs]; decide) hne ha hb
 go_enter Tryz.func70,Tryz.ntmps70
 go_wp2
 refine wp_loop_rounds 1 ?_
 rw [rounds_succ]
 go_wp2
 go_ret
 exact ⟨rfl,rfl⟩
structure Er3 (w:World) (a0 a1 a2:Addr):Prop where
 c0:w.cell? ⟨0,0,none⟩=some (.iface 173 (.pointer (some a0)))
 z0:0 < w.heap.size
 h0:∃ c t,w.heap[a0.block]?=some (.cells c t (0,0))
 c1:w.cell? ⟨4,0,none⟩=some (.iface 173 (.pointer (some a1)))
 z1:4 < w.heap.size
 h1:∃ c t,w.heap[a1.block]?=some (.cells c t (0,0))
 c2:w.cell? ⟨5,0,none⟩=some (.iface 173 (.pointer (some a2)))
 z2:5 < w.heap.size
 h2:∃ c t,w.heap[a2.block]?=some (.cells c t (0,0))
 n01:a0≠a1
 n02:a0≠a2
 n12:a1≠a2
theorem Er3.keep {w w':World} {a0 a1 a2:Addr} (h:Er3 w a0 a1 a2) (hb:Below w.heap.size w w'):Er3 w' a0 a1 a2:=by
 have k:∀ {a:Addr},(∃ c t,w.heap[a.block]?=some (.cells c t (0,0)))→∃ c t,w'.heap[a.block]?=some (.cells c t (0,0)):=by
  rintro a ⟨c,t,h⟩
  exact ⟨c,t,(hb.block _ (Array.getElem?_eq_some_iff.1 h).1).trans h⟩
 exact ⟨(hb.cell (p:=⟨0,0,none⟩) h.z0).trans h.c0,Nat.lt_of_lt_of_le h.z0 hb.size,k h.h0,(hb.cell (p:=⟨4,0,none⟩) h.z1).trans h.c1,Nat.lt_of_lt_of_le h.z1 hb.size,k h.h1,(hb.cell (p:=⟨5,0,none⟩) h.z2).trans h.c2,Nat.lt_of_lt_of_le h.z2 hb.size,k h.h2,h.n01,h.n02,h.n12⟩
theorem code_none {w:World} {a0 a1 a2:Addr} (h:Er3 w a0 a1 a2):Calls Tryz.prog 43 #[.nilIface] w fun e w'=>e=.returned (.int .i64 0)∧w'=w:=by
 have c0:=h.c0
 have c1:=h.c1
 have c2:=h.c2
 obtain ⟨x0,y0,h0⟩:=h.h0
 obtain ⟨x1,y1,h1⟩:=h.h1
 obtain ⟨x2,y2,h2⟩:=h.h2
 have N:Hid (a0≠a1∧a0≠a2∧a1≠a2):=⟨h.n01,h.n02,h.n12⟩
 have H0:=hidP h0
 have H1:=hidP h1
 have H2:=hidP h2
 clear h h0 h1 h2
 go_enter Tryz.func43,Tryz.ntmps43
 go_wp2_with fail
 refine (is_none a0 w).mono ?_
 rintro e w' ⟨rfl,hw⟩
 have hw2:=hw.symm
 subst hw2
 clear hw
 go_wp2_with fail
 refine (is_none a1 w).mono ?_
 rintro e w' ⟨rfl,hw⟩
 have hw2:=hw.symm
 subst hw2
 clear hw
 go_wp2_with fail
 refine (is_none a2 w).mono ?_
 rintro e w' ⟨rfl,hw⟩
 have hw2:=hw.symm
 subst hw2
 clear hw
 go_wp2
 go_ret
 exact ⟨rfl,rfl⟩
theorem code_0 {w:World} {a0 a1 a2:Addr} (h:Er3 w a0 a1 a2):Calls Tryz.prog 43 #[.iface 173 (.pointer (some a0))] w fun e w'=>e=.returned (.int .i64 1)∧w'=w:=by
 have c0:=h.c0
 have c1:=h.c1
 have c2:=h.c2
 obtain ⟨x0,y0,h0⟩:=h.h0
 obtain ⟨x1,y1,h1⟩:=h.h1
 obtain ⟨x2,y2,h2⟩:=h.h2
 have N:Hid (a0≠a1∧a0≠a2∧a1≠a2):=⟨h.n01,h.n02,h.n12⟩
 have H0:=hidP h0
 have H1:=hidP h1
 have H2:=hidP h2
 clear h h0 h1 h2
 go_enter Tryz.func43,Tryz.ntmps43
 go_wp2_with fail
 refine (is_self a0 w).mono ?_
 rintro e w' ⟨rfl,hw⟩
 have hw2:=hw.symm
 subst hw2
 clear hw
 go_wp2
 go_ret
 exact ⟨rfl,rfl⟩
theorem code_1 {w:World} {a0 a1 a2:Addr} (h:Er3 w a0 a1 a2):Calls Tryz.prog 43 #[.iface 173 (.pointer (some a1))] w fun e w'=>e=.returned (.int .i64 2)∧w'=w:=by
 have c0:=h.c0
 have c1:=h.c1
 have c2:=h.c2
 obtain ⟨x0,y0,h0⟩:=h.h0
 obtain ⟨x1,y1,h1⟩:=h.h1
 obtain ⟨x2,y2,h2⟩:=h.h2
 have N:Hid (a0≠a1∧a0≠a2∧a1≠a2):=⟨h.n01,h.n02,h.n12⟩
 have H0:=hidP h0
 have H1:=hidP h1
 have H2:=hidP h2
 clear h h0 h1 h2
 go_enter Tryz.func43,Tryz.ntmps43
 go_wp2_with fail
 refine (is_apart a1 a0 _ _ _ _ w (fun e=>N.out.1 e.symm) H1.out H0.out).mono ?_
 rintro e w' ⟨rfl,hw⟩
 have hw2:=hw.symm
 subst hw2
 clear hw
 go_wp2_with fail
 refine (is_self a1 w).mono ?_
 rintro e w' ⟨rfl,hw⟩
 have hw2:=hw.symm
 subst hw2
 clear hw
 go_wp2
 go_ret
 exact ⟨rfl,rfl⟩
theorem code_2 {w:World} {a0 a1 a2:Addr} (h:Er3 w a0 a1 a2):Calls Tryz.prog 43 #[.iface 173 (.pointer (some a2))] w fun e w'=>e=.returned (.int .i64 3)∧w'=w:=by
 have c0:=h.c0
 have c1:=h.c1
 have c2:=h.c2
 obtain ⟨x0,y0,h0⟩:=h.h0
 obtain ⟨x1,y1,h1⟩:=h.h1
 obtain ⟨x2,y2,h2⟩:=h.h2
 have N:Hid (a0≠a1∧a0≠a2∧a1≠a2):=⟨h.n01,h.n02,h.n12⟩
 have H0:=hidP h0
 have H1:=hidP h1
 have H2:=hidP h2
 clear h h0 h1 h2
 go_enter Tryz.func43,Tryz.ntmps43
 go_wp2_with fail
 refine (is_apart a2 a0 _ _ _ _ w (fun e=>N.out.2.1 e.symm) H2.out H0.out).mono ?_
 rintro e w' ⟨rfl,hw⟩
 have hw2:=hw.symm
 subst hw2
 clear hw
 go_wp2_with fail
 refine (is_apart a2 a1 _ _ _ _ w (fun e=>N.out.2.2 e.symm) H2.out H1.out).mono ?_
 rintro e w' ⟨rfl,hw⟩
 have hw2:=hw.symm
 subst hw2
 clear hw
 go_wp2_with fail
 refine (is_self a2 w).mono ?_
 rintro e w' ⟨rfl,hw⟩
 have hw2:=hw.symm
 subst hw2
 clear hw
 go_wp2
 go_ret
 exact ⟨rfl,rfl⟩
end Go.Proofs.YtcjhlhijdacinaaGreatDoor
namespace Go.Proofs.YtcjhlhijdacinaaGreatDoor
open Go.RowKit Go.Maps Go.WideMaps
set_option linter.unusedVariables false
theorem src_off {w y z:World} {a:Option Addr} {c m2:Nat} {l:List W.WantD} (h:W.Src w a c l) (hb:Below w.heap.size w y) (ho:Off (fun j=>j=m2) y z) (hm:w.heap.size≤m2):W.Src z a c l:=by
 rcases h with h | ⟨g,h1,h2,h3⟩
 · exact Or.inl h
 have hgy:g < y.heap.size:=Nat.lt_of_lt_of_le h2 hb.size
 have hne:¬ (g=m2):=by omega
 refine Or.inr ⟨g,h1,Nat.lt_of_lt_of_le hgy ho.size,fun k r hr j v hj=>?_⟩
 exact (ho.cell (p:=⟨g,0+k * 7+j,none⟩) hgy hne).trans ((h3.keep h2 hb) k r hr j v hj)
theorem cell_off {w y z:World} {g m2:Nat} {v:Value} (h:w.cell? ⟨g,0,none⟩=some v) (hz:g < w.heap.size) (hb:Below w.heap.size w y) (ho:Off (fun j=>j=m2) y z) (hm:w.heap.size≤m2):z.cell? ⟨g,0,none⟩=some v :=
 (ho.cell (p:=⟨g,0,none⟩) (Nat.lt_of_lt_of_le hz hb.size) (by show ¬ (g=m2); omega)).trans ((hb.cell (p:=⟨g,0,none⟩) hz).trans h)
def CodeOf (a0 a1 a2:Addr) (er:Value) (code:Int):Prop :=
 (er=.nilIface∧code=0)∨(er=.iface 173 (.pointer (some a0))∧code=1)∨(er=.iface 173 (.pointer (some a1))∧code=2)∨(er=.iface 173 (.pointer (some a2))∧code=3)
theorem code_any {w:World} {a0 a1 a2:Addr} {er:Value} {code:Int} (h:Er3 w a0 a1 a2) (hc:CodeOf a0 a1 a2 er code):Calls Tryz.prog 43 #[er] w fun e w'=>e=.returned (.int .i64 code)∧w'=w:=by
 rcases hc with ⟨rfl,rfl⟩ | ⟨rfl,rfl⟩ | ⟨rfl,rfl⟩ | ⟨rfl,rfl⟩
 · exact code_none h
 · exact code_0 h
 · exact code_1 h
 exact code_2 h
end Go.Proofs.YtcjhlhijdacinaaGreatDoor
