import Derived.Test.YtlfnpjcjapljpaaGreatDoorJ29
import Derived.Test.YtlfnpjcjapljpaaGreatDoorJ30
import Derived.Test.YtlfnpjcjapljpaaGreatDoorJ28
import Derived.Test.YtlfnpjcjapljpaaGreatDoorJ25
import Derived.Test.YtlfnpjcjapljpaaGreatDoorJ24
namespace Go.Proofs.YtlfnpjcjapljpaaGreatDoor
open Go.Maps Go.Proofs.Tryz Go.RowKit Go.WideMaps
set_option linter.unusedVariables false
structure WE where
 w0:World
 mb:Nat
 sb:Nat
 d:Nat
 m1:Nat
 m2:Nat
 m3:Nat
 m4:Nat
 O:Array Value
 nm:ByteArray
 ws:List W.ay
structure WD where
 rs:List aw
 qs:List A.aC
 gs:List A.aC
 cs:List Pc.bP
structure WD.ok(D:WD):Prop where
 s2:dx D.rs
 s3:A.dx D.qs
 s4:A.dx D.gs
 f2:∀r∈D.rs,r.fits
 f3:∀r∈D.qs,r.fits
 f4:∀r∈D.gs,r.fits
 l2:D.rs.length<=1000
 l3:D.qs.length<=1000
 l4:D.gs.length<=1000
 l5:D.cs.length<=1000
structure Wk(E:WE)(N:Nat)(D:WD)(v:Value)(x:World):Prop where
 dk:Dk x E.d E.O E.m1 E.m2 E.m3 E.m4 N E.ws D.rs D.qs D.gs
 bn:x.cell? ⟨E.mb,0,none⟩=some (.string E.nm)
 sn:x.cell? ⟨E.sb,0,none⟩=some v
 ow:x.ownsRow (E.d+1) 43 7 v D.cs.length (Pc.aA D.cs)
 sf:x.frozen? ⟨E.sb,0,none⟩=false
 bl:Below E.w0.heap.size E.w0 x
 od:E.w0.heap.size<=E.sb/\E.mb<E.sb/\E.sb<E.m1/\E.m1<E.m2/\E.m2<E.m3/\E.m3<E.m4/\E.m4<E.d
 s1:W.dx E.ws
 f1:∀r∈E.ws,r.fits
 l1:E.ws.length<=1000
theorem Wk.keep{E:WE}{N:Nat}{D:WD}{v:Value}{x y:World}(h:Wk E N D v x)(hb:Below x.heap.size x y):Wk E N D v y:=by have hd:=h.dk.l;have hod:=h.od;exact⟨h.dk.keep hb,(hb.cell (p:=⟨E.mb,0,none⟩) (by show E.mb<_;omega)).trans h.bn,(hb.cell (p:=⟨E.sb,0,none⟩) (by show E.sb<_;omega)).trans h.sn,Pc.aN h.ow hb,(hb.frozen (p:=⟨E.sb,0,none⟩) (by show E.sb<_;omega)).trans h.sf,af h.bl hb,h.od,h.s1,h.f1,h.l1⟩
theorem Wk.more{E:WE}{N M:Nat}{D:WD}{v:Value}{x:World}(h:Wk E N D v x)(hM:N<=M):Wk E M D v x:=⟨h.dk.more hM,h.bn,h.sn,h.ow,h.sf,h.bl,h.od,h.s1,h.f1,h.l1⟩
theorem Wk.SE{E:WE}{N n:Nat}{D:WD}{v:Value}{x y:World}(h:Wk E N D v x)(he:Ex E.m2 x y){l:List aw}(hn:n<=N+1)(ho:y.ownsMap prog 9 RV E.m2 n (dec l)):Wk E (N+1) {D with rs:=l} v y:=by have hd:=h.dk.l;have hod:=h.od;obtain⟨n1,b1,o1⟩:=h.dk.o1;obtain⟨n2,b2,o2⟩:=h.dk.o2;obtain⟨n3,b3,o3⟩:=h.dk.o3;obtain⟨n4,b4,o4⟩:=h.dk.o4;exact⟨⟨fun k=>(he.cell (p:=⟨E.d,k,none⟩) hd (by show E.d≠_;omega)).trans (h.dk.c k),fun k=>(he.frozen (p:=⟨E.d,k,none⟩) hd (by show E.d≠_;omega)).trans (h.dk.f k),Nat.lt_of_lt_of_le hd he.size,⟨n1,by omega,cU o1 he (by omega)⟩,⟨n,hn,ho⟩,⟨n3,by omega,cU o3 he (by omega)⟩,⟨n4,by omega,cU o4 he (by omega)⟩⟩,(he.cell (p:=⟨E.mb,0,none⟩) (by show E.mb<_;omega) (by show E.mb≠_;omega)).trans h.bn,(he.cell (p:=⟨E.sb,0,none⟩) (by show E.sb<_;omega) (by show E.sb≠_;omega)).trans h.sn,fU h.ow he (by omega),(he.frozen (p:=⟨E.sb,0,none⟩) (by show E.sb<_;omega) (by show E.sb≠_;omega)).trans h.sf,Ex.mono h.bl he (by omega),h.od,h.s1,h.f1,h.l1⟩
theorem Wk.SF{E:WE}{N n:Nat}{D:WD}{v:Value}{x y:World}(h:Wk E N D v x)(he:Ex E.m3 x y){l:List A.aC}(hn:n<=N+1)(ho:y.ownsMap prog 9 A.RV E.m3 n (A.dec l)):Wk E (N+1) {D with qs:=l} v y:=by have hd:=h.dk.l;have hod:=h.od;obtain⟨n1,b1,o1⟩:=h.dk.o1;obtain⟨n2,b2,o2⟩:=h.dk.o2;obtain⟨n3,b3,o3⟩:=h.dk.o3;obtain⟨n4,b4,o4⟩:=h.dk.o4;exact⟨⟨fun k=>(he.cell (p:=⟨E.d,k,none⟩) hd (by show E.d≠_;omega)).trans (h.dk.c k),fun k=>(he.frozen (p:=⟨E.d,k,none⟩) hd (by show E.d≠_;omega)).trans (h.dk.f k),Nat.lt_of_lt_of_le hd he.size,⟨n1,by omega,cU o1 he (by omega)⟩,⟨n2,by omega,cU o2 he (by omega)⟩,⟨n,hn,ho⟩,⟨n4,by omega,cU o4 he (by omega)⟩⟩,(he.cell (p:=⟨E.mb,0,none⟩) (by show E.mb<_;omega) (by show E.mb≠_;omega)).trans h.bn,(he.cell (p:=⟨E.sb,0,none⟩) (by show E.sb<_;omega) (by show E.sb≠_;omega)).trans h.sn,fU h.ow he (by omega),(he.frozen (p:=⟨E.sb,0,none⟩) (by show E.sb<_;omega) (by show E.sb≠_;omega)).trans h.sf,Ex.mono h.bl he (by omega),h.od,h.s1,h.f1,h.l1⟩
theorem Wk.Vs{E:WE}{N n:Nat}{D:WD}{v:Value}{x y:World}(h:Wk E N D v x)(he:Ex E.m4 x y){l:List A.aC}(hn:n<=N+1)(ho:y.ownsMap prog 9 A.RV E.m4 n (A.dec l)):Wk E (N+1) {D with gs:=l} v y:=by have hd:=h.dk.l;have hod:=h.od;obtain⟨n1,b1,o1⟩:=h.dk.o1;obtain⟨n2,b2,o2⟩:=h.dk.o2;obtain⟨n3,b3,o3⟩:=h.dk.o3;obtain⟨n4,b4,o4⟩:=h.dk.o4;exact⟨⟨fun k=>(he.cell (p:=⟨E.d,k,none⟩) hd (by show E.d≠_;omega)).trans (h.dk.c k),fun k=>(he.frozen (p:=⟨E.d,k,none⟩) hd (by show E.d≠_;omega)).trans (h.dk.f k),Nat.lt_of_lt_of_le hd he.size,⟨n1,by omega,cU o1 he (by omega)⟩,⟨n2,by omega,cU o2 he (by omega)⟩,⟨n3,by omega,cU o3 he (by omega)⟩,⟨n,hn,ho⟩⟩,(he.cell (p:=⟨E.mb,0,none⟩) (by show E.mb<_;omega) (by show E.mb≠_;omega)).trans h.bn,(he.cell (p:=⟨E.sb,0,none⟩) (by show E.sb<_;omega) (by show E.sb≠_;omega)).trans h.sn,fU h.ow he (by omega),(he.frozen (p:=⟨E.sb,0,none⟩) (by show E.sb<_;omega) (by show E.sb≠_;omega)).trans h.sf,Ex.mono h.bl he (by omega),h.od,h.s1,h.f1,h.l1⟩
theorem Wk.Dd{E:WE}{N:Nat}{D:WD}{v:Value}{x:World}(h:Wk E N D v x)(hN:N<=2000000)(hs:dx D.rs)(r:aw)(hz:r.c.size<=maxLen):
  ∃y,Sem.run prog (Instr.mapUpdate 105 (.map (some E.m2)) (.string r.c) (.agg (aL r.c r.v r.h r.p r.s r.d r.g r.a r.b r.i r.u))) x=.ok () y/\Ex E.m2 x y/\Wk E (N+1) {D with rs:=Ord.cJ aM r D.rs} v y:=by
 obtain⟨n,hn,ho⟩:=h.dk.o2;obtain⟨y,h1,h2,h3⟩:=eD E.m2 n D.rs r ho (by unfold maxLen;omega) hz;rw[Ord.ly aM r _ hs]at h2;exact⟨y,h1,Ex.di h3,h.SE (Ex.di h3) (by omega) h2⟩
theorem Wk.P6{E:WE}{N:Nat}{D:WD}{v:Value}{x:World}(h:Wk E N D v x)(s:ByteArray)(hz:s.size<=maxLen):
  ∃y,(Builtin.delete_ #[105,9] 0 #[.map (some E.m2),.string s]).run prog x=.ok (.tuple #[]) y/\Ex E.m2 x y/\Wk E (N+1) {D with rs:=Ord.out aM s.data.toList D.rs} v y:=by
 obtain⟨n,hn,ho⟩:=h.dk.o2;obtain⟨y,h1,h2,h3⟩:=ho.drop kV (t:=105) (e:=39) underlying105 (keyOf_string_mk underlying9 hz) 0;have e:(dec D.rs).del (Lit.string s.data.toList)=dec (Ord.out aM s.data.toList D.rs):=Ord.qz aM _ _;rw[e]at h2;exact⟨y,h1,Ex.iz h3,h.SE (Ex.iz h3) (by omega) h2⟩
theorem Wk.P7{E:WE}{N:Nat}{D:WD}{v:Value}{x:World}(h:Wk E N D v x)(hN:N<=2000000)(hs:A.dx D.qs)(r:A.aC)(hz:r.h.size<=maxLen):
  ∃y,Sem.run prog (Instr.mapUpdate 108 (.map (some E.m3)) (.string r.h) (.agg (cZ r.h r.c r.f r.t))) x=.ok () y/\Ex E.m3 x y/\Wk E (N+1) {D with qs:=Ord.cJ A.aM r D.qs} v y:=by
 obtain⟨n,hn,ho⟩:=h.dk.o3;obtain⟨y,h1,h2,h3⟩:=A.eD E.m3 n D.qs r ho (by unfold maxLen;omega) hz;rw[Ord.ly A.aM r _ hs]at h2;exact⟨y,h1,Ex.di h3,h.SF (Ex.di h3) (by omega) h2⟩
theorem Wk.Qa{E:WE}{N:Nat}{D:WD}{v:Value}{x:World}(h:Wk E N D v x)(s:ByteArray)(hz:s.size<=maxLen):
  ∃y,(Builtin.delete_ #[108,9] 0 #[.map (some E.m3),.string s]).run prog x=.ok (.tuple #[]) y/\Ex E.m3 x y/\Wk E (N+1) {D with qs:=Ord.out A.aM s.data.toList D.qs} v y:=by
 obtain⟨n,hn,ho⟩:=h.dk.o3;obtain⟨y,h1,h2,h3⟩:=ho.drop A.kV (t:=108) (e:=64) underlying108 (keyOf_string_mk underlying9 hz) 0;have e:(A.dec D.qs).del (Lit.string s.data.toList)=A.dec (Ord.out A.aM s.data.toList D.qs):=Ord.qz A.aM _ _;rw[e]at h2;exact⟨y,h1,Ex.iz h3,h.SF (Ex.iz h3) (by omega) h2⟩
theorem Wk.Qb{E:WE}{N:Nat}{D:WD}{v:Value}{x:World}(h:Wk E N D v x)(hN:N<=2000000)(hs:A.dx D.gs)(r:A.aC)(hz:r.h.size<=maxLen):
  ∃y,Sem.run prog (Instr.mapUpdate 108 (.map (some E.m4)) (.string r.h) (.agg (cZ r.h r.c r.f r.t))) x=.ok () y/\Ex E.m4 x y/\Wk E (N+1) {D with gs:=Ord.cJ A.aM r D.gs} v y:=by
 obtain⟨n,hn,ho⟩:=h.dk.o4;obtain⟨y,h1,h2,h3⟩:=A.eD E.m4 n D.gs r ho (by unfold maxLen;omega) hz;rw[Ord.ly A.aM r _ hs]at h2;exact⟨y,h1,Ex.di h3,h.Vs (Ex.di h3) (by omega) h2⟩
theorem uf{ws:List W.ay}{c:ByteArray}{q:W.ay}(e:cI ws c=some q):q∈ws/\q.c=c:=
 ⟨List.mem_of_find?_eq_some e,eU (by have:=List.find?_some e;simpa using this)⟩
theorem ug{ws:List W.ay}{c:ByteArray}(e:cI ws c=none):∀q∈ws,q.c≠c:=by intro a ha he;have:=List.find?_eq_none.1 e a ha;rw[he]at this;simp at this
theorem Wk.Bs{E:WE}{N:Nat}{D:WD}{v:Value}{x:World}(h:Wk E N D v x){c:ByteArray}{q:W.ay}(e:cI E.ws c=some q)(hz:c.size<=maxLen):
  Sem.run prog (Instr.lookup 102 (.map (some E.m1)) (.string c) true) x=.ok (.tuple #[.agg (aX q.c q.v q.h q.p q.s q.d q.g),.bool true]) x:=by
 obtain⟨n,hn,ho⟩:=h.dk.o1;obtain⟨h1,h2⟩:=uf e;rcases W.mM E.m1 n E.ws ho h.s1 c hz with⟨r,hr,e',hrun⟩|⟨hno,-⟩
 ·
  have:r=q:=Ord.same W.aM h.s1 hr h1 (by show r.c.data.toList=q.c.data.toList;rw[e',h2]);subst this;exact hrun
 ·exact absurd h2 (hno q h1)
theorem Wk.Ek{E:WE}{N:Nat}{D:WD}{v:Value}{x:World}(h:Wk E N D v x){c:ByteArray}(e:cI E.ws c=none)(hz:c.size<=maxLen):
  Sem.run prog (Instr.lookup 102 (.map (some E.m1)) (.string c) true) x=.ok (.tuple #[.agg (aX ⟨#[]⟩ 0 ⟨#[]⟩ 0 0 0 0),.bool false]) x:=by
 obtain⟨n,hn,ho⟩:=h.dk.o1;rcases W.mM E.m1 n E.ws ho h.s1 c hz with⟨r,hr,e',hrun⟩|⟨-,hrun⟩;·exact absurd e' (ug e r hr)
 ·exact hrun
theorem Wk.IE{E:WE}{N:Nat}{D:WD}{v:Value}{x:World}(h:Wk E N D v x)(hs:dx D.rs){c:ByteArray}(e:tJ D.rs c=false)(hz:c.size<=maxLen):
  Sem.run prog (Instr.lookup 105 (.map (some E.m2)) (.string c) true) x=.ok (.tuple #[.agg (aL ⟨#[]⟩ 0 ⟨#[]⟩ 0 0 0 0 0 0 0 0),.bool false]) x:=by
 obtain⟨n,hn,ho⟩:=h.dk.o2;exact gw E.m2 n D.rs ho hs c hz (fun r hr e'=>by have:=List.any_eq_false.1 e r hr;rw[e']at this;simp at this)
theorem Wk.len2{E:WE}{N:Nat}{D:WD}{v:Value}{x:World}(h:Wk E N D v x)(ty:TypeId):(Builtin.len_ #[105] ty #[.map (some E.m2)]).run prog x=.ok (.int .i64 (D.rs.length:Int)) x:=by obtain⟨n,hn,ho⟩:=h.dk.o2;have:=ho.len (t:=105) (e:=39) underlying105 ty;rw[show Maps.size (dec D.rs)=D.rs.length from Ord.fe aM _]at this;exact this
theorem Wk.oF{E:WE}{N:Nat}{D:WD}{v:Value}{x:World}(h:Wk E N D v x)(hs:A.dx D.qs){c:ByteArray}{r:A.aC}(e:bU D.qs c=some r)(hz:c.size<=maxLen):
  Sem.run prog (Instr.lookup 108 (.map (some E.m3)) (.string c) true) x=.ok (.tuple #[.agg (cZ r.h r.c r.f r.t),.bool true]) x:=by
 obtain⟨n,hn,ho⟩:=h.dk.o3;obtain⟨h1,rfl⟩:=dt e;exact A.fm E.m3 n D.qs ho hs r h1 hz
theorem Wk.sx{E:WE}{N:Nat}{D:WD}{v:Value}{x:World}(h:Wk E N D v x)(hs:A.dx D.qs){c:ByteArray}(e:bU D.qs c=none)(hz:c.size<=maxLen):
  Sem.run prog (Instr.lookup 108 (.map (some E.m3)) (.string c) true) x=.ok (.tuple #[.agg (cZ ⟨#[]⟩ ⟨#[]⟩ 0 0),.bool false]) x:=by
 obtain⟨n,hn,ho⟩:=h.dk.o3;exact A.gw E.m3 n D.qs ho hs c hz (kP e)
theorem Wk.Qc{E:WE}{N:Nat}{D:WD}{v:Value}{x:World}(h:Wk E N D v x)(ty:TypeId):(Builtin.len_ #[108] ty #[.map (some E.m3)]).run prog x=.ok (.int .i64 (D.qs.length:Int)) x:=by obtain⟨n,hn,ho⟩:=h.dk.o3;have:=ho.len (t:=108) (e:=64) underlying108 ty;rw[show Maps.size (A.dec D.qs)=D.qs.length from Ord.fe A.aM _]at this;exact this
theorem Wk.uh{E:WE}{N:Nat}{D:WD}{v:Value}{x:World}(h:Wk E N D v x)(hs:A.dx D.gs){c:ByteArray}{r:A.aC}(e:bU D.gs c=some r)(hz:c.size<=maxLen):
  Sem.run prog (Instr.lookup 108 (.map (some E.m4)) (.string c) true) x=.ok (.tuple #[.agg (cZ r.h r.c r.f r.t),.bool true]) x:=by
 obtain⟨n,hn,ho⟩:=h.dk.o4;obtain⟨h1,rfl⟩:=dt e;exact A.fm E.m4 n D.gs ho hs r h1 hz
theorem Wk.wC{E:WE}{N:Nat}{D:WD}{v:Value}{x:World}(h:Wk E N D v x)(hs:A.dx D.gs){c:ByteArray}(e:bU D.gs c=none)(hz:c.size<=maxLen):
  Sem.run prog (Instr.lookup 108 (.map (some E.m4)) (.string c) true) x=.ok (.tuple #[.agg (cZ ⟨#[]⟩ ⟨#[]⟩ 0 0),.bool false]) x:=by
 obtain⟨n,hn,ho⟩:=h.dk.o4;exact A.gw E.m4 n D.gs ho hs c hz (kP e)
theorem Wk.Qd{E:WE}{N:Nat}{D:WD}{v:Value}{x:World}(h:Wk E N D v x)(ty:TypeId):(Builtin.len_ #[108] ty #[.map (some E.m4)]).run prog x=.ok (.int .i64 (D.gs.length:Int)) x:=by obtain⟨n,hn,ho⟩:=h.dk.o4;have:=ho.len (t:=108) (e:=64) underlying108 ty;rw[show Maps.size (A.dec D.gs)=D.gs.length from Ord.fe A.aM _]at this;exact this
set_option maxHeartbeats 2000000
set_option maxRecDepth 4000
def gQ(h:ByteArray)(l:List A.aC):Bool:=jj l h||decide (l.length<40)
def oG(a:A.aC)(l:List A.aC):List A.aC:=if gQ a.h l=true then Ord.cJ A.aM a l else l
theorem sy{l:List A.aC}{h:ByteArray}{a:A.aC}(e:bU l h=some a):jj l h=true:=by obtain⟨h1,rfl⟩:=dt e;exact List.any_eq_true.2 ⟨a,h1,by simp⟩
theorem sA{l:List A.aC}{h:ByteArray}(e:bU l h=none):jj l h=false:=
 List.any_eq_false.2 (fun a ha=>by have:=kP e a ha;simp;exact fun e=>this (eU e))
abbrev Up(E:WE)(x y:World):Prop:=Off (fun k=>k<=E.d) x y
theorem Up.ex{E:WE}{x y:World}{k:Nat}(h:Ex k x y)(hk:k<=E.d):Up E x y:=⟨h.os,h.tape,h.output,h.size,fun i hi hn=>h.block i hi (fun e=>hn (by rw[e];exact hk))⟩
theorem ui{E:WE}{N:Nat}{D:WD}{v:Value}{x:World}(h:Wk E N D v x)(hs:A.dx D.qs)(hl:D.qs.length<=1000)(s:ByteArray)(hz:s.size<=maxLen):
  Calls prog 151 #[.map (some E.m3),.string s] x fun e y=>e=.returned (.bool (gQ s D.qs))/\Below x.heap.size x y:=by
 have HW:=ah h;cases e:bU D.qs s with
 |some a=>
  have hr:gQ s D.qs=true:=by unfold gQ;rw[sy e];rfl
  have hrun:=h.oF hs e hz;rw[hr];clear h hs e hr;go_enter func151,ntmps151
  go_wp2
  go_ret
  exact⟨rfl,ae bR _⟩
 |none=>
  have hr:gQ s D.qs=decide (D.qs.length<40):=by unfold gQ;rw[sA e];rfl
  have hrun:=h.sx hs e hz;have hb:Below x.heap.size x (x.alloc (.cells (cZ ⟨#[]⟩ ⟨#[]⟩ 0 0) 64)):=ae bR _;have hlen:=(h.keep hb).Qc;rw[hr];clear h hs e hr hb;obtain⟨n,hn⟩:∃n,n=D.qs.length:=⟨_,rfl⟩
  rw[<-hn]at hlen hl ⊢;clear hn;by_cases hc:(n:Int)<40
  ·
   have hc2:n<40:=(by omega);rw[decide_eq_true hc2];clear hc2;go_enter func151,ntmps151
   go_wp2
   go_ret
   exact⟨rfl,ae bR _⟩
  have hc2:¬n<40:=by omega
  rw[decide_eq_false hc2];clear hc2;go_enter func151,ntmps151
  go_wp2
  go_ret
  exact⟨rfl,ae bR _⟩
theorem yv{E:WE}{N:Nat}{D:WD}{v:Value}{x:World}(h:Wk E N D v x)(hN:N<=2000000)(hs:A.dx D.qs)(hl:D.qs.length<=1000)(r:A.aC)(hz:r.h.size<=maxLen):
  Calls prog 114 #[.map (some E.m3),.agg (cZ r.h r.c r.f r.t)] x fun e y=>e=.returned (.tuple #[])/\Wk E (N+1) {D with qs:=oG r D.qs} v y/\Up E x y:=by
 have hb:Below x.heap.size x (x.alloc (.cells (cZ r.h r.c r.f r.t) 64)):=ae bR _;have H1:=ah (h.keep hb);have Hb:=ah hb;have HS:=ah hs;clear h hs hb;have hod:=H1.out.od;cases hq:gQ r.h D.qs
 ·
  go_enter func114,ntmps114
  go_wp2_with fail
  refine(ui H1.out HS.out hl r.h hz).mono ?_;rintro e y ⟨rfl,c⟩;rw[hq];go_wp2
  exact bodyPost_end (v:=.tuple #[]) (by simp[results,results114,go_sem]) rfl ⟨rfl,by unfold oG;rw[if_neg (by rw[hq];simp)];exact(H1.out.keep c).more (Nat.le_succ _),Off.of_below (af Hb.out c)⟩
 ·
  go_enter func114,ntmps114
  go_wp2_with fail
  refine(ui H1.out HS.out hl r.h hz).mono ?_;rintro e y ⟨rfl,c⟩;rw[hq];have H2:=ah (H1.out.keep c);have hk:=aJ c;obtain⟨y2,hrun,he,h2⟩:=H2.out.P7 hN HS.out r hz;have HE:=ah he;have HH:Hid (Wk E (N+1) {D with qs:=Ord.cJ A.aM r D.qs} v y2):=h2;have Hc:=ah (af Hb.out c);clear he h2 c;go_wp2
  exact bodyPost_end (v:=.tuple #[]) (by simp[results,results114,go_sem]) rfl ⟨rfl,by unfold oG;rw[if_pos hq];exact HH.out,(Off.of_below Hc.out).trans (Up.ex HE.out (by omega))⟩
theorem uj{E:WE}{N:Nat}{D:WD}{v:Value}{x:World}(h:Wk E N D v x)(hs:A.dx D.gs)(hl:D.gs.length<=1000)(s:ByteArray)(hz:s.size<=maxLen):
  Calls prog 151 #[.map (some E.m4),.string s] x fun e y=>e=.returned (.bool (gQ s D.gs))/\Below x.heap.size x y:=by
 have HW:=ah h;cases e:bU D.gs s with
 |some a=>
  have hr:gQ s D.gs=true:=by unfold gQ;rw[sy e];rfl
  have hrun:=h.uh hs e hz;rw[hr];clear h hs e hr;go_enter func151,ntmps151
  go_wp2
  go_ret
  exact⟨rfl,ae bR _⟩
 |none=>
  have hr:gQ s D.gs=decide (D.gs.length<40):=by unfold gQ;rw[sA e];rfl
  have hrun:=h.wC hs e hz;have hb:Below x.heap.size x (x.alloc (.cells (cZ ⟨#[]⟩ ⟨#[]⟩ 0 0) 64)):=ae bR _;have hlen:=(h.keep hb).Qd;rw[hr];clear h hs e hr hb;obtain⟨n,hn⟩:∃n,n=D.gs.length:=⟨_,rfl⟩
  rw[<-hn]at hlen hl ⊢;clear hn;by_cases hc:(n:Int)<40
  ·
   have hc2:n<40:=(by omega);rw[decide_eq_true hc2];clear hc2;go_enter func151,ntmps151
   go_wp2
   go_ret
   exact⟨rfl,ae bR _⟩
  have hc2:¬n<40:=by omega
  rw[decide_eq_false hc2];clear hc2;go_enter func151,ntmps151
  go_wp2
  go_ret
  exact⟨rfl,ae bR _⟩
theorem yw{E:WE}{N:Nat}{D:WD}{v:Value}{x:World}(h:Wk E N D v x)(hN:N<=2000000)(hs:A.dx D.gs)(hl:D.gs.length<=1000)(r:A.aC)(hz:r.h.size<=maxLen):
  Calls prog 114 #[.map (some E.m4),.agg (cZ r.h r.c r.f r.t)] x fun e y=>e=.returned (.tuple #[])/\Wk E (N+1) {D with gs:=oG r D.gs} v y/\Up E x y:=by
 have hb:Below x.heap.size x (x.alloc (.cells (cZ r.h r.c r.f r.t) 64)):=ae bR _;have H1:=ah (h.keep hb);have Hb:=ah hb;have HS:=ah hs;clear h hs hb;have hod:=H1.out.od;cases hq:gQ r.h D.gs
 ·
  go_enter func114,ntmps114
  go_wp2_with fail
  refine(uj H1.out HS.out hl r.h hz).mono ?_;rintro e y ⟨rfl,c⟩;rw[hq];go_wp2
  exact bodyPost_end (v:=.tuple #[]) (by simp[results,results114,go_sem]) rfl ⟨rfl,by unfold oG;rw[if_neg (by rw[hq];simp)];exact(H1.out.keep c).more (Nat.le_succ _),Off.of_below (af Hb.out c)⟩
 ·
  go_enter func114,ntmps114
  go_wp2_with fail
  refine(uj H1.out HS.out hl r.h hz).mono ?_;rintro e y ⟨rfl,c⟩;rw[hq];have H2:=ah (H1.out.keep c);have hk:=aJ c;obtain⟨y2,hrun,he,h2⟩:=H2.out.Qb hN HS.out r hz;have HE:=ah he;have HH:Hid (Wk E (N+1) {D with gs:=Ord.cJ A.aM r D.gs} v y2):=h2;have Hc:=ah (af Hb.out c);clear he h2 c;go_wp2
  exact bodyPost_end (v:=.tuple #[]) (by simp[results,results114,go_sem]) rfl ⟨rfl,by unfold oG;rw[if_pos hq];exact HH.out,(Off.of_below Hc.out).trans (Up.ex HE.out (by omega))⟩
def ik(h:ByteArray)(s:List A.aC×List A.aC):List A.aC×List A.aC:=
 match bU s.1 h with
 |none=>s
 |some a=>(Ord.out A.aM h.data.toList s.1,oG a s.2)
theorem yx{ck:Int}{qs gs:List A.aC}(h:QG ck qs gs)(s:ByteArray):ik s (qs,gs)=fR s (qs,gs):=by
 unfold ik fR;cases e:bU qs s with
 |none=>rfl
 |some a=>obtain⟨h1,rfl⟩:=dt e;have h2:=h.dj a h1;simp only[A.pI,oG,gQ,h2,Bool.false_or,decide_eq_true_eq]
theorem yz{E:WE}{N:Nat}{D:WD}{v:Value}{x:World}(h:Wk E N D v x)(hN:N<=1900000)(ok:D.ok)(c11:E.O[11]?=some (.map (some E.m3)))(c12:E.O[12]?=some (.map (some E.m4)))(s:ByteArray)(hz:s.size<=maxLen):
  Calls prog 112 #[.pointer (some ⟨E.d,0,none⟩),.string s] x fun e y=>e=.returned (.tuple #[])/\Wk E (N+2) {D with qs:=(ik s (D.qs,D.gs)).1,gs:=(ik s (D.qs,D.gs)).2} v y/\Up E x y:=by
 have kc:x.cell? ⟨E.d,11,none⟩=some (.map (some E.m3)):=(h.dk.c 11).trans c11;have HW:=ah h;have OK:=ah ok;have I3:=ah c12;have hod:=h.od;clear ok c12 c11;cases e:bU D.qs s with
 |none=>
  have hrun:=h.sx OK.out.s3 e hz;have HE:Hid (ik s (D.qs,D.gs)=(D.qs,D.gs)):=by show _=_;unfold ik;simp only[e]
  clear h e;go_enter func112,ntmps112
  go_wp2
  exact bodyPost_end (v:=.tuple #[]) (by simp[results,results112,go_sem]) rfl ⟨rfl,by rw[HE.out];exact(HW.out.keep (by repeat (first|exact bR|refine ae ?_ _))).more (by omega),Off.of_below (by repeat (first|exact bR|refine ae ?_ _))⟩
 |some r=>
  have hrun:=h.oF OK.out.s3 e hz;have hb:Below x.heap.size x (x.alloc (.cells (cZ r.h r.c r.f r.t) 64)):=ae bR _;have H1:=ah (h.keep hb);have hrz:r.h.size<=maxLen:=(OK.out.f3 r (dt e).1).1;have HE:Hid (ik s (D.qs,D.gs)=(Ord.out A.aM s.data.toList D.qs,oG r D.gs)):=by show _=_;unfold ik;simp only[e]
  obtain⟨y,hdel,he,h2⟩:=H1.out.Qa s hz;have E2:=ah he;have H2:Hid (Wk E (N+1) {D with qs:=Ord.out A.aM s.data.toList D.qs} v y):=h2;have kd:y.cell? ⟨E.d,12,none⟩=some (.map (some E.m4)):=(h2.dk.c 12).trans I3.out;have hxd:=h.dk.l;have kr:∀k,y.cell? ⟨x.heap.size,k,none⟩=(x.alloc (.cells (cZ r.h r.c r.f r.t) 64)).cell? ⟨x.heap.size,k,none⟩:=fun k=>he.cell (p:=⟨x.heap.size,k,none⟩) (by simp) (by show x.heap.size≠_;omega);clear h e he h2 hb;go_enter func112,ntmps112
  go_wp2_with fail
  have KS:Hid (∀(N':Nat)(D':WD)(z:World),Wk E N' D' v z->Up E y z->z.cell? ⟨E.d,12,none⟩=some (.map (some E.m4))/\Er z x.heap.size r.h r.c r.f r.t):=fun N' D' z hz ho=>by have hyz:x.heap.size<y.heap.size:=(by have:=E2.out.size;simp at this;omega);have e:∀k,z.cell? ⟨x.heap.size,k,none⟩=_:=fun k=>(ho.cell (p:=⟨x.heap.size,k,none⟩) hyz (by show ¬x.heap.size<=E.d;omega)).trans (kr k);exact⟨(hz.dk.c 12).trans I3.out,by rw[e 0];simp[go_sem],by rw[e 1];simp[go_sem],by rw[e 2];simp[go_sem],by rw[e 3];simp[go_sem]⟩
  have H3:Hid (Wk E (N+1) {D with qs:=Ord.out A.aM s.data.toList D.qs} v (World.drew y)):=H2.out.keep bD;clear kd kr hdel hrun;refine wp_region_noPanic ?_;refine wp_region_held_drew (S:=fun z=>z.cell? ⟨E.d,12,none⟩=some (.map (some E.m4))/\Er z x.heap.size r.h r.c r.f r.t) (by kernel_rfl) (KS.out _ _ _ H3.out (Off.of_below bD)) (fun hHeld=>?_);refine aF 0 ?_;refine aF 1 ?_;try simp only[sp]
  refine aF 2 ?_;try simp only[sp]
  refine aF 3 ?_;refine aF 4 ?_;try simp only[sp]
  refine dJ 5 (by kernel_rfl) rfl fun K hK=>?_
  go_simp
  refine(yw H3.out (by omega) OK.out.s4 OK.out.l4 r hrz).mono ?_;rintro e z ⟨rfl,h4,u4⟩;go_wp2_with fail
  refine hK.out _ _ (KS.out _ _ _ h4 ((Off.of_below bD).trans u4)) (fun cq=>?_);clear hK K hHeld;try simp only[sp]
  refine wpAnyH_done (by kernel_rfl) ?_ _;refine NoPanic.normal ?_;clear cq;go_wp2
  exact bodyPost_end (v:=.tuple #[]) (by simp[results,results112,go_sem]) rfl ⟨rfl,by rw[HE.out];exact h4,((Off.of_below (ae bR _)).trans (Up.ex E2.out (by omega))).trans ((Off.of_below bD).trans u4)⟩
structure DN(E:WE)(ck:Int)(kn:Bool)(se:Int):Prop where
 c2:E.O[2]?=some (.int .i64 ck)
 c3:E.O[3]?=some (.bool kn)
 c4:E.O[4]?=some (.int .i64 se)
 c9:E.O[9]?=some (.map (some E.m1))
 c10:E.O[10]?=some (.map (some E.m2))
 c11:E.O[11]?=some (.map (some E.m3))
 c12:E.O[12]?=some (.map (some E.m4))
structure cQ(ck:Int)(D:WD):Prop where
 rp:dV ck D.rs
 qg:QG ck D.qs D.gs
 ln:D.rs.length<=20
 lq:D.qs.length<=100
 lc:D.cs.length<=200
theorem jR{s:ByteArray}(h:cF s=true):s.size<=maxLen:=by simp only[cF,cA,Bool.and_eq_true,decide_eq_true_eq]at h;unfold maxLen;omega
theorem qt{s:ByteArray}(h:holdB s=true):s.size<=maxLen:=by simp only[holdB,Bool.and_eq_true]at h;exact jR h.1
theorem vN{s:ByteArray}(h:s.toList.isEmpty=true):s.size<=maxLen:=by rw[ByteArray.toList_eq,List.isEmpty_iff]at h;have:s.size=s.data.toList.length:=rfl;rw[this,h];exact Nat.zero_le _
theorem qi{c h:ByteArray}{v p s d g:Int}(hw:dc c h v p s d g=true):c.size<=maxLen/\h.size<=maxLen:=by
 simp only[dc,Bool.and_eq_true,Bool.or_eq_true]at hw;refine⟨jR hw.1,?_⟩;rcases hw.2.2.1 with h1|h1;·exact vN h1
 exact qt h1
theorem dN{ck:Int}{r:aw}(h:r.ok ck=true):r.fits:=by
 simp only[aw.ok,eL,Bool.and_eq_true]at h;obtain⟨h1,h2,h3,h4,h5,h6⟩:=h;obtain⟨k1,k2⟩:=qi h1;refine⟨k1,k2,?_,?_⟩
 ·
  unfold fK at h3;split at h3
  ·
   have:r.b=0:=(by simpa using h3);omega
  simp only[cA,Bool.and_eq_true,decide_eq_true_eq]at h3;omega
 simp only[cA,Bool.and_eq_true,decide_eq_true_eq]at h4;omega
theorem lL{ck:Int}{a:A.aC}(h:A.dR ck a=true):a.fits:=by simp only[A.dR,Bool.and_eq_true]at h;exact⟨qt h.1,jR h.2.1⟩
theorem cQ.ok{ck:Int}{D:WD}(h:cQ ck D):D.ok:=by have h1:=h.ln;have h2:=h.lq;have h3:=h.lc;have h4:=h.qg.l4;exact⟨gM.2 h.rp.2,h.qg.s3,h.qg.s4,fun r hr=>dN (h.rp.1 r hr),fun r hr=>lL (h.qg.v3 r hr),fun r hr=>lL (h.qg.v4 r hr),by omega,by omega,by omega,by omega⟩
theorem aG.off{P:Nat->Prop}{w w':World}{b o:Nat}{rs:List aw}(h:aG w b o rs)(hb:b<w.heap.size)(ho:Off P w w')(hn:¬P b):aG w' b o rs:=
 fun k r hk j v hj=>(ho.cell (p:=⟨b,o+k*11+j,none⟩) hb hn).trans (h k r hk j v hj)
theorem W.aG.off{P:Nat->Prop}{w w':World}{b o:Nat}{rs:List W.ay}(h:W.aG w b o rs)(hb:b<w.heap.size)(ho:Off P w w')(hn:¬P b):W.aG w' b o rs:=
 fun k r hk j v hj=>(ho.cell (p:=⟨b,o+k*7+j,none⟩) hb hn).trans (h k r hk j v hj)
theorem A.aG.off{P:Nat->Prop}{w w':World}{b o:Nat}{rs:List A.aC}(h:A.aG w b o rs)(hb:b<w.heap.size)(ho:Off P w w')(hn:¬P b):A.aG w' b o rs:=
 fun k r hk j v hj=>(ho.cell (p:=⟨b,o+k*4+j,none⟩) hb hn).trans (h k r hk j v hj)
def jV(ck:Int)(ws:List W.ay)(D:WD)(k:Nat):WD:=
 let st:=(D.rs.take k).foldl (cm ck ws) ([],D.qs,D.gs)
 ⟨st.1++D.rs.drop k,st.2.1,st.2.2,D.cs⟩
theorem Bt(ck:Int)(ws:List W.ay)(D:WD):jV ck ws D 0=D:=by simp[jV]
theorem tL(ck:Int)(ws:List W.ay)(D:WD):jV ck ws D D.rs.length=⟨(dr ck ws D.rs (D.qs,D.gs)).1,(dr ck ws D.rs (D.qs,D.gs)).2.1,(dr ck ws D.rs (D.qs,D.gs)).2.2,D.cs⟩:=by simp[jV,dr]
theorem yB{α:Type}{R:α->α->Prop}{l m:List α}{l':List α}(h:(l++m).Pairwise R)(hl:l'.Pairwise R)(hs:∀x∈l',∀y∈m,(∀z∈l,R z y)->R x y):(l'++m).Pairwise R:=by rw[List.pairwise_append]at h ⊢;exact⟨hl,h.2.1,fun x hx y hy=>hs x hx y hy (fun z hz=>h.2.2 z hz y hy)⟩
theorem iL{ck:Int}{ws:List W.ay}{D:WD}(h:cQ ck D)(k:Nat):cQ ck (jV ck ws D k):=by
 have h1:=oE (ck:=ck) (ws:=ws) (D.rs.take k) ([],D.qs,D.gs) h.qg;have h2:((D.rs.take k).foldl (cm ck ws) ([],D.qs,D.gs)).1=(D.rs.take k).filterMap (cX ck ws):=by rw[lH];rfl
 have hP:dV ck (D.rs.take k++D.rs.drop k):=by rw[List.take_append_drop];exact h.rp
 have Vz:dV ck (D.rs.take k):=⟨fun r hr=>hP.1 r (List.mem_append_left _ hr),(List.pairwise_append.1 hP.2).1⟩
 have hL:=Bf (ws:=ws) Vz;refine⟨?_,h1.1,?_,Nat.le_trans h1.2 h.lq,h.lc⟩
 ·
  show dV ck (_++_);rw[h2];refine⟨fun r hr=>?_,yB hP.2 hL.2 (fun x hx y hy hz=>?_)⟩
  ·
   rcases List.mem_append.1 hr with hr|hr;·exact hL.1 r hr
   exact hP.1 r (List.mem_append_right _ hr)
  obtain⟨z,hz1,e⟩:=List.mem_filterMap.1 hx;rw[iQ e];exact hz z hz1
 show List.length (_++_)<=20;rw[h2,List.length_append,List.length_drop];have:=List.length_filterMap_le (cX ck ws) (D.rs.take k);rw[List.length_take]at this;have:=h.ln;omega
theorem uv{α:Type}(key:α->List UInt8){r r':α}(e:key r'=key r):∀{l m:List α},(∀y∈l,bytesBefore (key y) (key r)=true)->Ord.cJ key r' (l++r::m)=l++r'::m
 |[],m,_=>by show Ord.cJ key r' (r::m)=_;rw[Ord.cJ,if_neg (by rw[e,WideAt.bytes_irrefl];simp),if_pos e.symm];rfl
 |y::l,m,h=>by show Ord.cJ key r' (y::(l++r::m))=_;rw[Ord.cJ,if_pos (by rw[e];exact h y (List.mem_cons_self ..)),uv key e (fun z hz=>h z (List.mem_cons_of_mem _ hz))];rfl
theorem Eo{α:Type}(key:α->List UInt8){r:α}{l m:List α}(h:Ord.dx key (l++r::m)):Ord.out key (key r) (l++r::m)=l++m:=by
 have h':=List.pairwise_append.1 h;have h2:=List.pairwise_cons.1 h'.2.1;unfold Ord.out;rw[List.filter_append,List.filter_cons_of_neg (by simp)];congr 1;·exact List.filter_eq_self.2 (fun y hy=>by simpa using Ord.dM (h'.2.2 y hy r (List.mem_cons_self ..)))
 exact List.filter_eq_self.2 (fun y hy=>by simpa using(Ord.dM (h2.1 y hy)).symm)
theorem qu{ck:Int}{ws:List W.ay}{D:WD}{k:Nat}{r:aw}(hr:D.rs[k]?=some r):∃l,(jV ck ws D k).rs=l++r::D.rs.drop (k+1)/\l=((D.rs.take k).foldl (cm ck ws) ([],D.qs,D.gs)).1:=by
 refine⟨_,?_,rfl⟩;have hlt:k<D.rs.length:=(List.getElem?_eq_some_iff.1 hr).1;have he:D.rs[k]=r:=by rw[List.getElem?_eq_getElem hlt]at hr;exact Option.some.inj hr
 show _++D.rs.drop k=_;rw[List.drop_eq_getElem_cons hlt,he]
theorem En{ck:Int}{ws:List W.ay}{D:WD}(h:cQ ck D){k:Nat}{r r':aw}(hr:D.rs[k]?=some r)(e:cX ck ws r=some r'):jV ck ws D (k+1)={jV ck ws D k with rs:=Ord.cJ aM r' (jV ck ws D k).rs}:=by obtain⟨l,h1,h2⟩:=qu (ck:=ck) (ws:=ws) hr;have hs:=gM.2 (iL (ws:=ws) h k).rp.2;rw[h1]at hs;have hs':=List.pairwise_append.1 hs;rw[h1,uv aM (r:=r) (by show r'.c.data.toList=_;rw[iQ e];rfl) (fun y hy=>hs'.2.2 y hy r (List.mem_cons_self ..))];unfold jV;rw[eG _ _ hr];generalize (D.rs.take k).foldl (cm ck ws) ([],D.qs,D.gs)=st at h2 ⊢;unfold cm;rw[e];simp[h2]
theorem IG{ck:Int}{ws:List W.ay}{D:WD}(h:cQ ck D){k:Nat}{r:aw}(hr:D.rs[k]?=some r)(e:cX ck ws r=none):jV ck ws D (k+1)={rs:=Ord.out aM r.c.data.toList (jV ck ws D k).rs,qs:=(ik r.h ((jV ck ws D k).qs,(jV ck ws D k).gs)).1,gs:=(ik r.h ((jV ck ws D k).qs,(jV ck ws D k).gs)).2,cs:=D.cs}:=by obtain⟨l,h1,h2⟩:=qu (ck:=ck) (ws:=ws) hr;have hg:=iL (ws:=ws) h k;have hs:=gM.2 hg.rp.2;rw[h1]at hs;rw[yx hg.qg,h1,show r.c.data.toList=aM r from rfl,Eo aM hs];unfold jV;rw[eG _ _ hr];generalize (D.rs.take k).foldl (cm ck ws) ([],D.qs,D.gs)=st at h2 ⊢;unfold cm;rw[e];simp[h2]
def wz(o:Option W.ay):W.ay:=o.getD ⟨⟨#[]⟩,⟨#[]⟩,0,0,0,0,0⟩
def rz(o:Option aw):aw:=o.getD ⟨⟨#[]⟩,⟨#[]⟩,0,0,0,0,0,0,0,0,0⟩
theorem Wk.want{E:WE}{N:Nat}{D:WD}{v:Value}{x:World}(h:Wk E N D v x){c:ByteArray}{q:W.ay}{b:Bool}(hq:wz (cI E.ws c)=q)(hb:(cI E.ws c).isSome=b)(hz:c.size<=maxLen):
  Sem.run prog (Instr.lookup 102 (.map (some E.m1)) (.string c) true) x=.ok (.tuple #[.agg (aX q.c q.v q.h q.p q.s q.d q.g),.bool b]) x:=by
 cases e:cI E.ws c with
 |none=>rw[e]at hq hb;subst hq hb;exact h.Ek e hz
 |some p=>rw[e]at hq hb;subst hq hb;exact h.Bs e hz
theorem gj(ws:List W.ay)(r:aw):eK ws r=((cI ws r.c).isSome&&pY r (wz (cI ws r.c))):=by unfold eK;cases cI ws r.c<;>rfl
theorem uk{ck:Int}{ws:List W.ay}{r:aw}{q:W.ay}{t:aw}{b b':Bool}(hf:r.fits)(hq:wz (cI ws r.c)=q)(hb:(cI ws r.c).isSome=b)(ht:rz (cX ck ws r)=t)(hb':(cX ck ws r).isSome=b')(w:World):
  Calls prog 111 #[.agg (aL r.c r.v r.h r.p r.s r.d r.g r.a r.b r.i r.u),.agg (aX q.c q.v q.h q.p q.s q.d q.g),.bool b,.int .i64 ck] w fun e w'=>e=.returned (.tuple #[.agg (aL t.c t.v t.h t.p t.s t.d t.g t.a t.b t.i t.u),.bool b'])/\Below w.heap.size w w':=by
 refine(qU r.c r.h q.c q.h r.v r.p r.s r.d r.g r.a r.b r.i r.u q.v q.p q.s q.d q.g ck b w hf.2.2.1 hf.2.2.2).mono ?_;rintro e w' ⟨rfl,hB⟩;refine⟨?_,hB⟩;have e1:(b&&fL r.c r.h q.c q.h r.v r.p r.s r.d r.g q.v q.p q.s q.d q.g)=eK ws r:=by rw[gj,hq,hb];rfl
 rw[e1];unfold cX at ht hb';cases hl:aW r.h r.s r.d r.g r.a r.b r.i r.u ck (eK ws r)with
 |none=>rw[hl]at ht hb';subst ht hb';rfl
 |some x=>rw[hl]at ht hb';subst ht hb';rfl
set_option maxHeartbeats 4000000
theorem hU{x y:World}{arr:Array Value}{t:TypeId}{vs:List Value}(hv:arr.toList=vs)(hb:Below (x.alloc (.cells arr t)).heap.size (x.alloc (.cells arr t)) y):y.rangeAt x.heap.size 0 vs:=by intro j u hj;subst hv;rw[Nat.zero_add,aJ hb j,World.cell?_alloc_new];simpa using hj
theorem wD{w:World}(o:Obj):Below (w.alloc o).heap.size (w.alloc o) (World.drew (w.alloc o)):=au bR
theorem vL{E:WE}{N:Nat}{D:WD}{v:Value}{x:World}{ck:Int}{kn:Bool}{se:Int}(h:Wk E N D v x)(hN:N<=1800000)(hG:cQ ck D)(hE:DN E ck kn se):
  Calls prog 75 #[.pointer (some ⟨E.d,0,none⟩)] x fun e y=>e=.returned (.tuple #[])/\Wk E (N+3*D.rs.length) ⟨(dr ck E.ws D.rs (D.qs,D.gs)).1,(dr ck E.ws D.rs (D.qs,D.gs)).2.1,(dr ck E.ws D.rs (D.qs,D.gs)).2.2,D.cs⟩ v y:=by
 have kc:x.cell? ⟨E.d,10,none⟩=some (.map (some E.m2)):=(h.dk.c 10).trans hE.c10;have H0:=ah h;have HG:=ah hG;have CE:=ah hE;have hod:=h.od;have hxd:E.d<x.heap.size:=h.dk.l;obtain⟨n2,hn2,o2⟩:=h.dk.o2;have O2:=ah o2;clear h hG hE o2;have hinfo:(prog.info? 39).map (·.size)=some 11:=by kernel_rfl
 have hrl:=HG.out.ln;go_enter func75,ntmps75
 go_wp2_with fail
 refine(eX fB dY E.m2 n2 D.rs x O2.out HG.out.ok.s2 (fun r hr=>(HG.out.ok.f2 r hr).1) (by omega)).mono ?_;rintro e x1 ⟨⟨s,rfl,hs⟩,c1⟩;have H1:Hid (Wk E N D v x1):=H0.out.keep c1;obtain⟨a,c,rfl⟩:=Sl.shape hs;have HS:=ah hs;clear hs c1 kc;go_wp2_with fail
 go_loopw [14] (fun i wx=>∃(k:Nat),k<=D.rs.length/\i=.int .i64 k/\Hid (Wk E (N+3*k) (jV ck E.ws D k) v wx)/\Hid (Up E x1 wx)) (fun i _=>D.rs.length-(intOf i).toNat)
 case atStart=>exact⟨0,Nat.zero_le _,rfl,by rw[Bt];exact H1.out,Off.refl _ _⟩
 case round=>
  obtain⟨k,hk,rfl,HW,HU⟩:=hrel;by_cases hlt:k<D.rs.length
  ·
   obtain⟨r,hr⟩:∃r,D.rs[k]?=some r:=⟨D.rs[k],List.getElem?_eq_getElem hlt⟩
   have Hr:=ah hr;have i1:(k:Int)<(D.rs.length:Int):=(by omega);have vB:Hid (r.ok ck=true):=HG.out.rp.1 r (List.mem_of_getElem? hr);rcases HS.out with⟨-,h⟩|⟨g,cap,h,hg1,hg2,hR,-⟩;·rw[h]at hr;simp at hr
   injection h with e1 e2 e3;subst e1 e3;have hgd:E.d<g:=(by have:=hxd;omega);have hR2:=aG.off hR hg2 HU.out (by show ¬g<=E.d;omega);have hg3:g<wr.heap.size:=Nat.lt_of_lt_of_le hg2 HU.out.size;obtain⟨c0,c1,c2,c3,c4,c5,c6,c7,c8,c9,c10⟩:=hR2.at hr;simp only[Nat.zero_add]at c0 c1 c2 c3 c4 c5 c6 c7 c8 c9 c10;have hcz:r.c.size<=maxLen:=(dN vB.out).1;have hhz:r.h.size<=maxLen:=(dN vB.out).2.1;have hwd:E.d<wr.heap.size:=HW.out.dk.l;obtain⟨q,hq⟩:∃q,wz (cI E.ws r.c)=q:=⟨_,rfl⟩
   obtain⟨b,hb⟩:∃b,(cI E.ws r.c).isSome=b:=⟨_,rfl⟩
   obtain⟨t,ht⟩:∃t,rz (cX ck E.ws r)=t:=⟨_,rfl⟩
   obtain⟨b',hb'⟩:∃b',(cX ck E.ws r).isSome=b':=⟨_,rfl⟩
   have HQ:=ah hq;have HB:=ah hb;have HT:=ah ht;have xY:Hid ((cX ck E.ws r).isSome=b'):=hb';have K3:Hid (∀y,Below (wr.alloc (.cells (aL r.c r.v r.h r.p r.s r.d r.g r.a r.b r.i r.u) 39)).heap.size (wr.alloc (.cells (aL r.c r.v r.h r.p r.s r.d r.g r.a r.b r.i r.u) 39)) y->y.cell? ⟨E.d,9,none⟩=some (.map (some E.m1))/\y.cell? ⟨wr.heap.size,0,none⟩=some (.string r.c)/\Sem.run prog (Instr.lookup 102 (.map (some E.m1)) (.string r.c) true) y=.ok (.tuple #[.agg (aX q.c q.v q.h q.p q.s q.d q.g),.bool b]) y):=fun y hy=>by have hw2:=(HW.out.keep (ae bR _)).keep hy;exact⟨(hw2.dk.c 9).trans CE.out.c9,by rw[aJ hy 0];simp[go_sem],hw2.want HQ.out HB.out hcz⟩
   clear hr hq hb ht hb' hR hR2
   go_upto_region 3 with(fail)
   go_cut [4,5] (fun v4 v5 wx=>∃b4,v4=.pointer (some ⟨b4,0,none⟩)/\v5=.bool b/\Hid (wx.rangeAt b4 0 (iT q.c q.v q.h q.p q.s q.d q.g))/\b4<wx.heap.size/\Hid (Below (wr.alloc (.cells (aL r.c r.v r.h r.p r.s r.d r.g r.a r.b r.i r.u) 39)).heap.size (wr.alloc (.cells (aL r.c r.v r.h r.p r.s r.d r.g r.a r.b r.i r.u) 39)) wx))
   case first=>
    refine wp_region_noPanic ?_;refine wp_region_held_drew (S:=fun y=>y.cell? ⟨E.d,9,none⟩=some (.map (some E.m1))/\y.cell? ⟨wr.heap.size,0,none⟩=some (.string r.c)/\Sem.run prog (Instr.lookup 102 (.map (some E.m1)) (.string r.c) true) y=.ok (.tuple #[.agg (aX q.c q.v q.h q.p q.s q.d q.g),.bool b]) y) (by kernel_rfl) (K3.out _ bD) (fun hHeld=>?_);refine aF 0 ?_;refine aF 1 ?_;try simp only[sp]
    refine aF 2 ?_;refine aF 3 ?_;try simp only[sp]
    refine aF 4 ?_;refine aF 5 ?_;try simp only[sp]
    refine aF 6 ?_;refine aF 7 ?_;try simp only[sp]
    refine aF 8 ?_;refine aF 9 ?_;try simp only[sp]
    refine aF 10 ?_;try simp only[sp]
    refine dJ 11 (by kernel_rfl) rfl fun K hK=>?_
    go_simp
    refine hK.out _ _ (K3.out _ (ae bD _)) (fun hH1=>?_);clear hK K;try simp only[sp]
    refine dJ 12 (by kernel_rfl) rfl fun K hK=>?_
    go_simp
    refine hK.out _ _ (K3.out _ (au (ae bR _))) (fun hH2=>?_);clear hK K;try simp only[sp]
    refine aF 13 ?_;try simp only[sp]
    refine wpAnyH_done (by kernel_rfl) ?_ _;refine NoPanic.normal ?_;clear hH1 hH2;go_wp2_with fail
    go_meet
    exact⟨_,rfl,rfl,by show World.rangeAt _ _ _ _;rw[show wr.heap.size+1=(wr.alloc (.cells (aL r.c r.v r.h r.p r.s r.d r.g r.a r.b r.i r.u) 39)).heap.size from by simp];exact hU rfl (wD _),by simp,au (ae bR _)⟩
   rename World=>w3
   obtain⟨b4,rfl,rfl,R4,l4,yJ⟩:=hcut;have hw3:wr.heap.size<w3.heap.size:=(by have:=yJ.out.size;simp at this;omega);have K4:Hid (∀y,Below w3.heap.size w3 y->y.cell? ⟨wr.heap.size,0,none⟩=some (.string r.c)/\y.cell? ⟨wr.heap.size,1,none⟩=some (.int .i64 r.v)/\y.cell? ⟨wr.heap.size,2,none⟩=some (.string r.h)/\y.cell? ⟨wr.heap.size,3,none⟩=some (.int .i64 r.p)/\y.cell? ⟨wr.heap.size,4,none⟩=some (.int .i64 r.s)/\y.cell? ⟨wr.heap.size,5,none⟩=some (.int .i64 r.d)/\y.cell? ⟨wr.heap.size,6,none⟩=some (.int .i64 r.g)/\y.cell? ⟨wr.heap.size,7,none⟩=some (.int .i64 r.a)/\y.cell? ⟨wr.heap.size,8,none⟩=some (.int .i64 r.b)/\y.cell? ⟨wr.heap.size,9,none⟩=some (.int .i64 r.i)/\y.cell? ⟨wr.heap.size,10,none⟩=some (.int .i64 r.u)/\y.cell? ⟨b4,0,none⟩=some (.string q.c)/\y.cell? ⟨b4,1,none⟩=some (.int .i64 q.v)/\y.cell? ⟨b4,2,none⟩=some (.string q.h)/\y.cell? ⟨b4,3,none⟩=some (.int .i64 q.p)/\y.cell? ⟨b4,4,none⟩=some (.int .i64 q.s)/\y.cell? ⟨b4,5,none⟩=some (.int .i64 q.d)/\y.cell? ⟨b4,6,none⟩=some (.int .i64 q.g)/\y.cell? ⟨E.d,2,none⟩=some (.int .i64 ck)):=fun y hy=>by
    have hb:=af yJ.out hy;have hw2:=(HW.out.keep (ae bR _)).keep hb;have e:∀j,y.cell? ⟨wr.heap.size,j,none⟩=(wr.alloc (.cells (aL r.c r.v r.h r.p r.s r.d r.g r.a r.b r.i r.u) 39)).cell? ⟨wr.heap.size,j,none⟩:=aJ hb;have e4:∀j u,(iT q.c q.v q.h q.p q.s q.d q.g)[j]?=some u->y.cell? ⟨b4,j,none⟩=some u:=fun j u hj=>by have:=ft R4.out l4 hy j u hj;rw[Nat.zero_add]at this;exact this
    exact⟨by rw[e 0];simp[go_sem],by rw[e 1];simp[go_sem],by rw[e 2];simp[go_sem],by rw[e 3];simp[go_sem],by rw[e 4];simp[go_sem],by rw[e 5];simp[go_sem],by rw[e 6];simp[go_sem],by rw[e 7];simp[go_sem],by rw[e 8];simp[go_sem],by rw[e 9];simp[go_sem],by rw[e 10];simp[go_sem],e4 0 _ rfl,e4 1 _ rfl,e4 2 _ rfl,e4 3 _ rfl,e4 4 _ rfl,e4 5 _ rfl,e4 6 _ rfl,(hw2.dk.c 2).trans CE.out.c2⟩
   clear c0 c1 c2 c3 c4 c5 c6 c7 c8 c9 c10
   go_upto_region 4 with(fail)
   go_cut [6,7] (fun v6 v7 wx=>∃b6,v6=.pointer (some ⟨b6,0,none⟩)/\v7=.bool b'/\Hid (wx.rangeAt b6 0 (ko t.c t.v t.h t.p t.s t.d t.g t.a t.b t.i t.u))/\b6<wx.heap.size/\E.d<b6/\Hid (Below w3.heap.size w3 wx))
   case first=>
    refine wp_region_noPanic ?_;refine wp_region_held_drew (S:=fun y=>y.cell? ⟨wr.heap.size,0,none⟩=some (.string r.c)/\y.cell? ⟨wr.heap.size,1,none⟩=some (.int .i64 r.v)/\y.cell? ⟨wr.heap.size,2,none⟩=some (.string r.h)/\y.cell? ⟨wr.heap.size,3,none⟩=some (.int .i64 r.p)/\y.cell? ⟨wr.heap.size,4,none⟩=some (.int .i64 r.s)/\y.cell? ⟨wr.heap.size,5,none⟩=some (.int .i64 r.d)/\y.cell? ⟨wr.heap.size,6,none⟩=some (.int .i64 r.g)/\y.cell? ⟨wr.heap.size,7,none⟩=some (.int .i64 r.a)/\y.cell? ⟨wr.heap.size,8,none⟩=some (.int .i64 r.b)/\y.cell? ⟨wr.heap.size,9,none⟩=some (.int .i64 r.i)/\y.cell? ⟨wr.heap.size,10,none⟩=some (.int .i64 r.u)/\y.cell? ⟨b4,0,none⟩=some (.string q.c)/\y.cell? ⟨b4,1,none⟩=some (.int .i64 q.v)/\y.cell? ⟨b4,2,none⟩=some (.string q.h)/\y.cell? ⟨b4,3,none⟩=some (.int .i64 q.p)/\y.cell? ⟨b4,4,none⟩=some (.int .i64 q.s)/\y.cell? ⟨b4,5,none⟩=some (.int .i64 q.d)/\y.cell? ⟨b4,6,none⟩=some (.int .i64 q.g)/\y.cell? ⟨E.d,2,none⟩=some (.int .i64 ck)) (by kernel_rfl) (K4.out _ bD) (fun hHeld=>?_);refine aF 0 ?_;refine aF 1 ?_;try simp only[sp]
    refine aF 2 ?_;refine aF 3 ?_;try simp only[sp]
    refine aF 4 ?_;refine aF 5 ?_;try simp only[sp]
    refine aF 6 ?_;refine aF 7 ?_;try simp only[sp]
    refine wpAnyH_ready (rs:=[8,12]) (by kernel_rfl) (by simp) ?_;refine AllReadyH.cons rfl (fun K hK=>?_) (AllReadyH.cons rfl (fun K hK=>?_) AllReadyH.nil)
    ·
     go_simp
     refine(uk (dN vB.out) HQ.out HB.out HT.out xY.out _).mono ?_;rintro e y5 ⟨rfl,c5⟩;go_wp2_with fail
     refine hK.out _ _ (K4.out _ (af bD c5)) (fun hH1=>?_);clear hK K;try simp only[sp]
     refine aF 9 ?_;refine aF 10 ?_;try simp only[sp]
     refine aF 11 ?_;try simp only[sp]
     refine dJ 12 (by kernel_rfl) rfl fun K hK=>?_
     go_simp
     refine hK.out _ _ (K4.out _ (ae (af bD c5) _)) (fun hH2=>?_);clear hK K;try simp only[sp]
     refine dJ 13 (by kernel_rfl) rfl fun K hK=>?_
     go_simp
     refine hK.out _ _ (K4.out _ (ae (af bD c5) _)) (fun hH3=>?_);clear hK K;try simp only[sp]
     refine aF 14 ?_;try simp only[sp]
     refine wpAnyH_done (by kernel_rfl) ?_ _;refine NoPanic.normal ?_;clear hH1 hH2 hH3;go_wp2_with fail
     go_meet
     exact⟨_,rfl,rfl,by show World.rangeAt _ _ _ _;exact hU rfl bR,by simp,by have:=c5.size;simp at this;omega,ae (af bD c5) _⟩
    go_simp
    refine hK.out _ _ (K4.out _ (ae bD _)) (fun hH1=>?_);clear hK K;try simp only[sp]
    refine dJ 8 (by kernel_rfl) rfl fun K hK=>?_
    go_simp
    refine(uk (dN vB.out) HQ.out HB.out HT.out xY.out _).mono ?_;rintro e y5 ⟨rfl,c5⟩;go_wp2_with fail
    have T5:Hid (y5.there w3.heap.size 0 11):=bd (x:=((World.drew w3).alloc (.cells (aL ⟨#[]⟩ 0 ⟨#[]⟩ 0 0 0 0 0 0 0 0) 39))) (fun j hj=>⟨by simp[go_sem];omega,by simp[go_sem]⟩) (by simp) c5;have B5:Hid (Below w3.heap.size w3 y5):=af (ae bD _) c5;refine hK.out _ _ (K4.out _ B5.out) (fun hH2=>?_);clear hK K;try simp only[sp]
    refine aF 9 ?_;refine aF 10 ?_;try simp only[sp]
    refine aF 11 ?_;try simp only[sp]
    refine dJ 13 (by kernel_rfl) rfl fun K hK=>?_;refine bF (by rfl) ?_;refine wp_store_mid 39 _ _ (by rfl) w3.heap.size 0 (aL t.c t.v t.h t.p t.s t.d t.g t.a t.b t.i t.u) (by rfl) (by rfl) (by exact T5.out) hinfo (by simp[Value.oneCell']) ?_;refine hK.out _ _ (K4.out _ (cL (Nat.le_refl _) _ _ _ B5.out)) (fun hH3=>?_);clear hK K;try simp only[sp]
    refine aF 14 ?_;try simp only[sp]
    refine wpAnyH_done (by kernel_rfl) ?_ _;refine NoPanic.normal ?_;clear hH1 hH2 hH3;go_wp2_with fail
    go_meet
    exact⟨_,rfl,rfl,World.rangeAt_setCells_same y5 w3.heap.size 0 (ko t.c t.v t.h t.p t.s t.d t.g t.a t.b t.i t.u) T5.out,by rw[ev];have:=c5.size;simp at this;omega,by have:=HW.out.dk.l;omega,cL (Nat.le_refl _) _ _ _ B5.out⟩
   rename World=>w5
   obtain⟨b6,rfl,rfl,R6,l6,hd6,BJ⟩:=hcut;have Fc:Hid (Below wr.heap.size wr w5):=af (ae bR _) (af yJ.out BJ.out);have ox:Hid (Below (wr.alloc (.cells (aL r.c r.v r.h r.p r.s r.d r.g r.a r.b r.i r.u) 39)).heap.size (wr.alloc (.cells (aL r.c r.v r.h r.p r.s r.d r.g r.a r.b r.i r.u) 39)) w5):=af yJ.out BJ.out;have H5:Hid (Wk E (N+3*k) (jV ck E.ws D k) v w5):=HW.out.keep Fc.out;have yL:Hid (cQ ck (jV ck E.ws D k)):=iL HG.out k;have U5:Hid (Up E x1 w5):=HU.out.trans (Off.of_below Fc.out);clear K3 K4 R4 yJ BJ HW HU;have EZ:wr.heap.size<w5.heap.size:=Nat.lt_of_lt_of_le (by simp) ox.out.size;have hx5:E.d<wr.heap.size:=hwd;have KR:Hid (∀y j,Up E w5 y->y.cell? ⟨wr.heap.size,j,none⟩=((aL r.c r.v r.h r.p r.s r.d r.g r.a r.b r.i r.u):Array Value)[j]?):=fun y j ho=>by rw[ho.cell (p:=⟨wr.heap.size,j,none⟩) EZ (by show ¬wr.heap.size<=E.d;omega),aJ ox.out j];simp[go_sem]
   have Em:Hid (Wk E (N+3*k) (jV ck E.ws D k) v (World.drew w5)):=H5.out.keep bD;cases b'
   ·
    have hlv:cX ck E.ws r=none:=by
     have:=xY.out;cases hx:cX ck E.ws r with
     |none=>rfl
     |some z=>rw[hx]at this;cases this
    have I6:=ah hlv;have KS:Hid (∀(M:Nat)(D':WD) y,Wk E M D' v y->Up E w5 y->y.cell? ⟨E.d,10,none⟩=some (.map (some E.m2))/\y.cell? ⟨wr.heap.size,0,none⟩=some (.string r.c)/\y.cell? ⟨wr.heap.size,2,none⟩=some (.string r.h)):=fun M D' y hy ho=>⟨(hy.dk.c 10).trans CE.out.c10,KR.out y 0 ho,KR.out y 2 ho⟩
    obtain⟨y6,hdel,BK,h6⟩:=Em.out.P6 r.c hcz;have Vt:=ah BK;have H6:Hid (Wk E (N+3*k+1) {jV ck E.ws D k with rs:=Ord.out aM r.c.data.toList (jV ck E.ws D k).rs} v y6):=h6;have U6:Hid (Up E w5 y6):=(Off.of_below bD).trans (Up.ex BK (by omega));clear BK h6 hlv HT R6;go_wp2_with fail
    refine wp_region_noPanic ?_;refine wp_region_held_drew (S:=fun y=>y.cell? ⟨E.d,10,none⟩=some (.map (some E.m2))/\y.cell? ⟨wr.heap.size,0,none⟩=some (.string r.c)/\y.cell? ⟨wr.heap.size,2,none⟩=some (.string r.h)) (by kernel_rfl) (KS.out _ _ _ Em.out (Off.of_below bD)) (fun hHeld=>?_);refine aF 0 ?_;refine aF 1 ?_;try simp only[sp]
    refine aF 2 ?_;refine aF 3 ?_;try simp only[sp]
    refine aF 4 ?_;refine aF 5 ?_;try simp only[sp]
    refine aF 6 ?_;try simp only[sp]
    refine dJ 7 (by kernel_rfl) rfl fun K hK=>?_
    go_simp
    refine hK.out _ _ (KS.out _ _ _ H6.out U6.out) (fun hH1=>?_);clear hK K;try simp only[sp]
    refine wpAnyH_done (by kernel_rfl) ?_ _;refine NoPanic.normal ?_;clear hH1 hdel;have k2:=(KS.out _ _ _ H6.out U6.out).2.2;have SG:WD.ok {jV ck E.ws D k with rs:=Ord.out aM r.c.data.toList (jV ck E.ws D k).rs}:=(by have o:=yL.out.ok;exact⟨List.Pairwise.filter _ o.s2,o.s3,o.s4,fun z hz=>o.f2 z (List.mem_filter.1 hz).1,o.f3,o.f4,Nat.le_trans (List.length_filter_le _ _) o.l2,o.l3,o.l4,o.l5⟩);have Vu:Hid (WD.ok {jV ck E.ws D k with rs:=Ord.out aM r.c.data.toList (jV ck E.ws D k).rs}):=SG;clear SG;go_wp2_with fail
    refine(yz H6.out (by omega) Vu.out CE.out.c11 CE.out.c12 r.h hhz).mono ?_;rintro e y7 ⟨rfl,h7,u7⟩;have H7:Hid (Wk E (N+3*(k+1)) (jV ck E.ws D (k+1)) v y7):=(by show Wk _ _ _ _ _;rw[IG HG.out Hr.out I6.out,show N+3*(k+1)=N+3*k+1+2 from by omega];exact h7);have U7:Hid (Up E w5 y7):=U6.out.trans u7;clear h7 u7;go_wp2_with fail
    exact⟨⟨k+1,by omega,by go_num,H7.out,U5.out.trans U7.out⟩,by simp[intOf];omega⟩
   have hlv:cX ck E.ws r=some t:=by
    have h1:=xY.out;have h2:=HT.out;cases hx:cX ck E.ws r with
    |none=>rw[hx]at h1;cases h1
    |some z=>rw[hx]at h2;rw[<-h2];rfl
   have I6:=ah hlv;have htc:t.c=r.c:=iQ hlv;have r6:=R6.out;rw[htc]at r6;have SI:Hid (w5.rangeAt b6 0 (ko r.c t.v t.h t.p t.s t.d t.g t.a t.b t.i t.u)):=r6;have KS:Hid (∀(M:Nat)(D':WD) y,Wk E M D' v y->Up E w5 y->y.cell? ⟨E.d,10,none⟩=some (.map (some E.m2))/\y.cell? ⟨wr.heap.size,0,none⟩=some (.string r.c)/\IJ y b6 r.c t.v t.h t.p t.s t.d t.g t.a t.b t.i t.u):=fun M D' y hy ho=>by
    have e:∀j u,(ko r.c t.v t.h t.p t.s t.d t.g t.a t.b t.i t.u)[j]?=some u->y.cell? ⟨b6,j,none⟩=some u:=fun j u hj=>by have:=SI.out j u hj;rw[Nat.zero_add]at this;rw[ho.cell (p:=⟨b6,j,none⟩) l6 (by show ¬b6<=E.d;omega)];exact this
    exact⟨(hy.dk.c 10).trans CE.out.c10,KR.out y 0 ho,e 0 _ rfl,e 1 _ rfl,e 2 _ rfl,e 3 _ rfl,e 4 _ rfl,e 5 _ rfl,e 6 _ rfl,e 7 _ rfl,e 8 _ rfl,e 9 _ rfl,e 10 _ rfl⟩
   obtain⟨y6,hput,BK,h6⟩:=Em.out.Dd (by omega) yL.out.ok.s2 t (by rw[htc];exact hcz);have Vt:=ah BK;have H6:Hid (Wk E (N+3*(k+1)) (jV ck E.ws D (k+1)) v y6):=(by show Wk _ _ _ _ _;rw[En HG.out Hr.out I6.out];exact h6.more (by omega));have U6:Hid (Up E w5 y6):=(Off.of_below bD).trans (Up.ex BK (by omega));rw[htc]at hput;clear BK h6 hlv htc HT R6 r6 SI;go_wp2_with fail
   refine wp_region_noPanic ?_;refine wp_region_held_drew (S:=fun y=>y.cell? ⟨E.d,10,none⟩=some (.map (some E.m2))/\y.cell? ⟨wr.heap.size,0,none⟩=some (.string r.c)/\IJ y b6 r.c t.v t.h t.p t.s t.d t.g t.a t.b t.i t.u) (by kernel_rfl) (KS.out _ _ _ Em.out (Off.of_below bD)) (fun hHeld=>?_);refine aF 0 ?_;refine aF 1 ?_;try simp only[sp]
   refine aF 2 ?_;refine aF 3 ?_;try simp only[sp]
   refine aF 4 ?_;refine aF 5 ?_;try simp only[sp]
   refine aF 6 ?_;refine aF 7 ?_;try simp only[sp]
   refine dJ 8 (by kernel_rfl) rfl fun K hK=>?_
   go_simp
   refine hK.out _ _ (KS.out _ _ _ H6.out U6.out) (fun hH1=>?_);clear hK K;try simp only[sp]
   refine wpAnyH_done (by kernel_rfl) ?_ _;refine NoPanic.normal ?_;clear hH1 hput;go_wp2_with fail
   exact⟨⟨k+1,by omega,by go_num,H6.out,U5.out.trans U6.out⟩,by simp[intOf];omega⟩
  have e:k=D.rs.length:=by omega
  subst e;go_wp2
  exact bodyPost_end (v:=.tuple #[]) (by simp[results,results75,go_sem]) rfl ⟨rfl,by have:=HW.out;rw[tL]at this;exact this⟩
def m7(ws:List W.ay)(D:WD)(k:Nat):WD:={D with rs:=(ws.take k).foldl cN D.rs}
theorem Bu(ws:List W.ay)(D:WD):m7 ws D ws.length={D with rs:=kL ws D.rs}:=by simp[m7,kL]
theorem oH{ws:List W.ay}{D:WD}{k:Nat}{q:W.ay}(h:ws[k]?=some q):m7 ws D (k+1)={m7 ws D k with rs:=cN (m7 ws D k).rs q}:=by unfold m7;rw[eG _ _ h]
theorem tM{ck:Int}{ws:List W.ay}{D:WD}(h:cQ ck D)(hw:∀q∈ws,q.ok=true)(k:Nat):cQ ck (m7 ws D k):=by have:=vH (ws.take k) D.rs (fun q hq=>hw q (List.mem_of_mem_take hq)) h.rp h.ln;exact⟨this.1,h.qg,this.2,h.lq,h.lc⟩
theorem Wk.run{E:WE}{N:Nat}{D:WD}{v:Value}{x:World}(h:Wk E N D v x)(hs:dx D.rs){c:ByteArray}{b:Bool}{r:aw}(hr:rz (D.rs.find? (fun r=>r.c.toList==c.toList))=r)(e:tJ D.rs c=b)(hz:c.size<=maxLen):
  Sem.run prog (Instr.lookup 105 (.map (some E.m2)) (.string c) true) x=.ok (.tuple #[.agg (aL r.c r.v r.h r.p r.s r.d r.g r.a r.b r.i r.u),.bool b]) x:=by
 cases f:D.rs.find? (fun r=>r.c.toList==c.toList)with
 |none=>rw[f]at hr;have hn:tJ D.rs c=false:=List.any_eq_false.2 (fun z hz=>List.find?_eq_none.1 f z hz);rw[hn]at e;subst hr e;exact h.IE hs hn hz
 |some z=>rw[f]at hr;have hn:tJ D.rs c=true:=List.any_eq_true.2 ⟨z,List.mem_of_find?_eq_some f,by have:=List.find?_some f;exact this⟩;rw[hn]at e;subst hr e;obtain⟨n,-,ho⟩:=h.dk.o2;have e1:z.c=c:=eU (by have:=List.find?_some f;simpa using this);subst e1;exact fm E.m2 n D.rs ho hs z (List.mem_of_find?_eq_some f) hz
theorem oI{E:WE}{N:Nat}{D:WD}{v:Value}{x:World}{ck:Int}{kn:Bool}{se:Int}(h:Wk E N D v x)(hN:N<=1800000)(hG:cQ ck D)(hE:DN E ck kn se)(hws:∀q∈E.ws,q.ok=true):
  Calls prog 76 #[.pointer (some ⟨E.d,0,none⟩)] x fun e y=>e=.returned (.tuple #[])/\Wk E (N+E.ws.length) {D with rs:=kL E.ws D.rs} v y:=by
 have kc:x.cell? ⟨E.d,9,none⟩=some (.map (some E.m1)):=(h.dk.c 9).trans hE.c9;have H0:=ah h;have HG:=ah hG;have CE:=ah hE;have Du:=ah hws;have hod:=h.od;have hxd:=h.dk.l;obtain⟨n1,hn1,o1⟩:=h.dk.o1;have O1:=ah o1;have hwl:=h.l1;clear h hG hE o1 hws;go_enter func76,ntmps76
 go_wp2_with fail
 refine(W.eX W.fB W.dY E.m1 n1 E.ws x O1.out H0.out.s1 (fun r hr=>(H0.out.f1 r hr).1) (by omega)).mono ?_;rintro e x1 ⟨⟨s,rfl,hs⟩,c1⟩;have H1:=ah (H0.out.keep c1);obtain⟨a,c,rfl⟩:=W.Sl.shape hs;have HS:=ah hs;clear hs c1 kc;go_wp2_with fail
 go_loopw [12] (fun i wx=>∃(k:Nat),k<=E.ws.length/\i=.int .i64 k/\Hid (Wk E (N+k) (m7 E.ws D k) v wx)/\Hid (Up E x1 wx)) (fun i _=>E.ws.length-(intOf i).toNat)
 case atStart=>exact⟨0,Nat.zero_le _,rfl,H1.out,Off.refl _ _⟩
 case round=>
  obtain⟨k,hk,rfl,HW,HU⟩:=hrel;by_cases hlt:k<E.ws.length
  ·
   obtain⟨q,hq⟩:∃q,E.ws[k]?=some q:=⟨E.ws[k],List.getElem?_eq_getElem hlt⟩
   have Hq:=ah hq;have i1:(k:Int)<(E.ws.length:Int):=(by omega);have HF:=ah (H1.out.f1 q (List.mem_of_getElem? hq));rcases HS.out with⟨-,h⟩|⟨g,cap,h,hg1,hg2,hR,-⟩;·rw[h]at hq;simp at hq
   injection h with e1 e2 e3;subst e1 e3;have hgd:E.d<g:=(by have:=hxd;omega);have hR2:=W.aG.off hR hg2 HU.out (by show ¬g<=E.d;omega);have hg3:g<wr.heap.size:=Nat.lt_of_lt_of_le hg2 HU.out.size;obtain⟨c0,c1,c2,c3,c4,c5,c6⟩:=hR2.at hq;simp only[Nat.zero_add]at c0 c1 c2 c3 c4 c5 c6;have hcz:=HF.out.1;have hwd:=HW.out.dk.l;have yL:=ah (tM HG.out Du.out k);obtain⟨b,hb⟩:∃b,tJ (m7 E.ws D k).rs q.c=b:=⟨_,rfl⟩
   have Qe:=ah hb;obtain⟨r,hr⟩:∃r,rz ((m7 E.ws D k).rs.find? (fun r=>r.c.toList==q.c.toList))=r:=⟨_,rfl⟩
   have oL:=ah hr;have K3:Hid (∀y,Below (wr.alloc (.cells (aX q.c q.v q.h q.p q.s q.d q.g) 37)).heap.size (wr.alloc (.cells (aX q.c q.v q.h q.p q.s q.d q.g) 37)) y->y.cell? ⟨E.d,10,none⟩=some (.map (some E.m2))/\y.cell? ⟨wr.heap.size,0,none⟩=some (.string q.c)/\Sem.run prog (Instr.lookup 105 (.map (some E.m2)) (.string q.c) true) y=.ok (.tuple #[.agg (aL r.c r.v r.h r.p r.s r.d r.g r.a r.b r.i r.u),.bool b]) y):=fun y hy=>by have hw2:=(HW.out.keep (ae bR _)).keep hy;exact⟨(hw2.dk.c 10).trans CE.out.c10,by rw[aJ hy 0];simp[go_sem],hw2.run yL.out.ok.s2 oL.out Qe.out hcz⟩
   clear hq hb hR hR2 hr
   go_upto_region 3 with(fail)
   go_cut [5] (fun v5 wx=>v5=.bool b/\Hid (Below (wr.alloc (.cells (aX q.c q.v q.h q.p q.s q.d q.g) 37)).heap.size (wr.alloc (.cells (aX q.c q.v q.h q.p q.s q.d q.g) 37)) wx))
   case first=>
    refine wp_region_noPanic ?_;refine wp_region_held_drew (S:=fun y=>y.cell? ⟨E.d,10,none⟩=some (.map (some E.m2))/\y.cell? ⟨wr.heap.size,0,none⟩=some (.string q.c)/\Sem.run prog (Instr.lookup 105 (.map (some E.m2)) (.string q.c) true) y=.ok (.tuple #[.agg (aL r.c r.v r.h r.p r.s r.d r.g r.a r.b r.i r.u),.bool b]) y) (by kernel_rfl) (K3.out _ bD) (fun hHeld=>?_);refine aF 0 ?_;refine aF 1 ?_;try simp only[sp]
    refine aF 2 ?_;refine aF 3 ?_;try simp only[sp]
    refine aF 4 ?_;refine aF 5 ?_;try simp only[sp]
    refine aF 6 ?_;refine aF 7 ?_;try simp only[sp]
    refine aF 8 ?_;refine aF 9 ?_;try simp only[sp]
    refine dJ 10 (by kernel_rfl) rfl fun K hK=>?_
    go_simp
    refine hK.out _ _ (K3.out _ (ae bD _)) (fun hH1=>?_);clear hK K;try simp only[sp]
    refine dJ 11 (by kernel_rfl) rfl fun K hK=>?_
    go_simp
    refine hK.out _ _ (K3.out _ (au (ae bR _))) (fun hH2=>?_);clear hK K;try simp only[sp]
    refine aF 12 ?_;try simp only[sp]
    refine wpAnyH_done (by kernel_rfl) ?_ _;refine NoPanic.normal ?_;clear hH1 hH2;go_wp2_with fail
    go_meet
    exact⟨rfl,au (ae bR _)⟩
   rename World=>w5
   obtain⟨rfl,ox⟩:=hcut;have Fc:Hid (Below wr.heap.size wr w5):=af (ae bR _) ox.out;have H5:=ah (HW.out.keep Fc.out);have U5:=ah (HU.out.trans (Off.of_below Fc.out));have EZ:wr.heap.size<w5.heap.size:=Nat.lt_of_lt_of_le (by simp) ox.out.size;have KR:Hid (∀y j,Up E w5 y->y.cell? ⟨wr.heap.size,j,none⟩=((aX q.c q.v q.h q.p q.s q.d q.g):Array Value)[j]?):=fun y j ho=>by rw[ho.cell (p:=⟨wr.heap.size,j,none⟩) EZ (by show ¬wr.heap.size<=E.d;omega),aJ ox.out j];simp[go_sem]
   clear K3 HW HU c0 c1 c2 c3 c4 c5 c6;cases b
   ·
    have hlen:=H5.out.len2;have kd:w5.cell? ⟨E.d,10,none⟩=some (.map (some E.m2)):=(H5.out.dk.c 10).trans CE.out.c10;obtain⟨n,hn⟩:∃n,n=(m7 E.ws D k).rs.length:=⟨_,rfl⟩
    have W4:=ah hn;have Vv:n<=20:=(by rw[hn];exact yL.out.ln);rw[<-hn]at hlen;by_cases hc:(n:Int)<20
    ·
     have hc2:(m7 E.ws D k).rs.length<20:=(by rw[<-hn];omega);clear hn;have hst:cN (m7 E.ws D k).rs q=Ord.cJ aM (newR q) (m7 E.ws D k).rs:=(by unfold cN;rw[if_pos ⟨by omega,Qe.out⟩]);have HST:Hid (m7 E.ws D (k+1)={m7 E.ws D k with rs:=Ord.cJ aM (newR q) (m7 E.ws D k).rs}):=(by show _=_;rw[oH Hq.out,hst]);have Em:Hid (Wk E (N+k) (m7 E.ws D k) v (World.drew w5)):=H5.out.keep bD;obtain⟨y6,hput,BK,h6⟩:=Em.out.Dd (by omega) yL.out.ok.s2 (newR q) hcz;have hput:Sem.run prog (Instr.mapUpdate 105 (.map (some E.m2)) (.string q.c) (.agg (aL q.c q.v q.h q.p q.s q.d q.g 1 q.p 0 0))) (World.drew w5)=.ok () y6:=hput;have H6:Hid (Wk E (N+(k+1)) (m7 E.ws D (k+1)) v y6):=(by show Wk _ _ _ _ _;rw[HST.out];exact h6);have U6:Hid (Up E w5 y6):=(Off.of_below bD).trans (Up.ex BK (by omega));have KS:Hid (∀(M:Nat)(D':WD) y,Wk E M D' v y->Up E w5 y->y.cell? ⟨E.d,10,none⟩=some (.map (some E.m2))/\yE y wr.heap.size q.c q.v q.h q.p q.s q.d q.g):=fun M D' y hy ho=>⟨(hy.dk.c 10).trans CE.out.c10,KR.out y 0 ho,KR.out y 1 ho,KR.out y 2 ho,KR.out y 3 ho,KR.out y 4 ho,KR.out y 5 ho,KR.out y 6 ho⟩
     clear BK h6 hst;go_wp2_with fail
     refine wp_region_noPanic ?_;refine wp_region_held_drew (S:=fun y=>y.cell? ⟨E.d,10,none⟩=some (.map (some E.m2))/\yE y wr.heap.size q.c q.v q.h q.p q.s q.d q.g) (by kernel_rfl) (KS.out _ _ _ Em.out (Off.of_below bD)) (fun hHeld=>?_);refine aF 0 ?_;refine aF 1 ?_;try simp only[sp]
     refine aF 2 ?_;refine aF 3 ?_;try simp only[sp]
     refine aF 4 ?_;refine aF 5 ?_;try simp only[sp]
     refine aF 6 ?_;refine aF 7 ?_;try simp only[sp]
     refine aF 8 ?_;refine aF 9 ?_;try simp only[sp]
     refine dJ 10 (by kernel_rfl) rfl fun K hK=>?_
     go_simp
     refine hK.out _ _ (KS.out _ _ _ H6.out U6.out) (fun hH1=>?_);clear hK K;try simp only[sp]
     refine wpAnyH_done (by kernel_rfl) ?_ _;refine NoPanic.normal ?_;clear hH1 hput;go_wp2_with fail
     exact⟨⟨k+1,by omega,by go_num,H6.out,U5.out.trans U6.out⟩,by simp[intOf];omega⟩
    have e:n=20:=(by omega);subst e;clear hc;have hx:¬(m7 E.ws D k).rs.length<20:=(by rw[<-hn];omega);clear hn;have HST:Hid (m7 E.ws D (k+1)=m7 E.ws D k):=(by show _=_;rw[oH Hq.out];unfold cN;rw[if_neg (fun h=>hx h.1)]);go_wp2_with fail
    exact⟨⟨k+1,by omega,by go_num,by rw[HST.out];exact H5.out.more (by omega),U5.out⟩,by simp[intOf];omega⟩
   have HST:Hid (m7 E.ws D (k+1)=m7 E.ws D k):=(by show _=_;rw[oH Hq.out];unfold cN;rw[if_neg (fun h=>by have:=Qe.out;rw[h.2]at this;cases this)]);go_wp2_with fail
   exact⟨⟨k+1,by omega,by go_num,by rw[HST.out];exact H5.out.more (by omega),U5.out⟩,by simp[intOf];omega⟩
  have e:k=E.ws.length:=by omega
  subst e;go_wp2
  exact bodyPost_end (v:=.tuple #[]) (by simp[results,results76,go_sem]) rfl ⟨rfl,by have:=HW.out;rw[Bu]at this;exact this⟩
end Go.Proofs.YtlfnpjcjapljpaaGreatDoor
namespace Go.Proofs.YtlfnpjcjapljpaaGreatDoor
open Go.Proofs.Tryz Go.RowKit
set_option linter.unusedVariables false
theorem mo(x:ByteArray)(l:List ByteArray):0<(gC x l).size:=by unfold gC;simp only[KG,List.foldl,ByteArray.size_append];have:({data:=#[10]}:ByteArray).size=1:=rfl;omega
theorem vD{s:ByteArray}(h:cF s=true):s.size<=20:=by unfold cF at h;simp only[Bool.and_eq_true,cA,decide_eq_true_eq]at h;omega
theorem Hy{s:ByteArray}(h:holdB s=true):s.size<=20:=by unfold holdB at h;simp only[Bool.and_eq_true]at h;exact vD h.1
theorem xD(nm:ByteArray)(r:Pc.bP)(w:World)(h:kH nm r)(hn:cF nm=true)(ht:Tab w):
  Calls prog 12 #[.agg (cw r.k r.b r.s (.slice none 0 0) r.h r.p r.t)] w fun e w'=>(∃s:ByteArray,e=.returned (.string s)/\0<s.size)/\Below w.heap.size w w':=by
 obtain⟨k,b,s,a,n,c,hh,p,t⟩:=r;obtain⟨e1,-,-,-,hk⟩:=h;simp only at e1 hk;subst e1;have hb:=vD hn;rcases hk with⟨hk,e2,h3,h4,h5,h6⟩|⟨e1,⟨h2,h3⟩,e4,e5,e6⟩
 ·
  have h7:=Hy h3;have h8:=vD h4;have hok:(jc b hh p t&&fb s 0)=true:=by simp[jc,fb,hn,h3,h4,e2,cA,h5,h6]
  rcases hk with e1|e1
  ·
   subst e1;refine(CS b s hh p t none 0 w ⟨by show b.size<=_;omega,by show hh.size<=_;omega,by show p.size<=_;omega,Nat.zero_le _⟩ ht hok).mono ?_;rintro e w' ⟨rfl,hB⟩;exact⟨⟨_,rfl,mo _ _⟩,hB⟩
  subst e1;refine(CU b s hh p t none 0 w ⟨by show b.size<=_;omega,by show hh.size<=_;omega,by show p.size<=_;omega,Nat.zero_le _⟩ ht hok).mono ?_;rintro e w' ⟨rfl,hB⟩;exact⟨⟨_,rfl,mo _ _⟩,hB⟩
 ·
  subst e1 e4 e5 e6;have hok:pN b ⟨#[]⟩ ⟨#[]⟩ s 0 0=true:=by simp[pN,kZ,hn,cA,h2,h3]
  refine(CV b s _ _ 0 none 0 w ⟨by show b.size<=_;omega,by show(0:Nat)<=_;omega,by show(0:Nat)<=_;omega,Nat.zero_le _⟩ ht hok).mono ?_;rintro e w' ⟨rfl,hB⟩;exact⟨⟨_,rfl,mo _ _⟩,hB⟩
end Go.Proofs.YtlfnpjcjapljpaaGreatDoor
