import Derived.Test.YtlfnpjcjapljpaaGreatDoorJ09
namespace Go.Proofs.YtlfnpjcjapljpaaGreatDoor
open Go.Proofs.Tryz Go.RowKit
set_option maxHeartbeats 2000000
set_option linter.unusedVariables false
theorem rI(c h c2 h2:ByteArray)(v p s d g a b i u v2 p2 s2 d2 g2 clock:Int)(w:World)(ha:bq a=false)(h6:(a != 6)=true):
  Calls prog 84 #[.agg (aL c v h p s d g a b i u),.agg (aX c2 v2 h2 p2 s2 d2 g2),.bool false,.int .i64 clock] w fun e w'=>e=.returned (.tuple #[.agg (aL ⟨#[]⟩ 0 ⟨#[]⟩ 0 0 0 0 0 0 0 0),.bool false])/\Below w.heap.size w w':=by
 go_enter func84,ntmps84
 go_wp2_with (first|(go_at_call 42;refine mr (aE c h v p s d g a b i u _) ?_))
 exact bodyPost_ret (v:=.tuple #[.agg (aL ⟨#[]⟩ 0 ⟨#[]⟩ 0 0 0 0 0 0 0 0),.bool false]) (by simp[results,results84,go_sem]) rfl ⟨rfl,by repeat (first|exact bR|refine ae ?_ _|refine au ?_)⟩
theorem rK(c h c2 h2:ByteArray)(v p s d g a b i u v2 p2 s2 d2 g2 clock:Int)(w:World)(ha:bq a=false)(h6:(a != 6)=true)(hne:∀w,Sem.run prog (binOp .neq 37 (.agg (aX c2 v2 h2 p2 s2 d2 g2)) (.agg (aX c v h p s d g))) w=.ok (.bool true) w):
  Calls prog 84 #[.agg (aL c v h p s d g a b i u),.agg (aX c2 v2 h2 p2 s2 d2 g2),.bool true,.int .i64 clock] w fun e w'=>e=.returned (.tuple #[.agg (aL ⟨#[]⟩ 0 ⟨#[]⟩ 0 0 0 0 0 0 0 0),.bool false])/\Below w.heap.size w w':=by
 go_enter func84,ntmps84
 go_wp2_with (first|(go_at_call 42;refine mr (aE c h v p s d g a b i u _) ?_))
 exact bodyPost_ret (v:=.tuple #[.agg (aL ⟨#[]⟩ 0 ⟨#[]⟩ 0 0 0 0 0 0 0 0),.bool false]) (by simp[results,results84,go_sem]) rfl ⟨rfl,by repeat (first|exact bR|refine ae ?_ _|refine au ?_)⟩
theorem pe(c h c2 h2:ByteArray)(v p s d g b i u v2 p2 s2 d2 g2 clock:Int)(w:World)(hb:b<=1):
  Calls prog 84 #[.agg (aL c v h p s d g 6 b i u),.agg (aX c2 v2 h2 p2 s2 d2 g2),.bool false,.int .i64 clock] w fun e w'=>e=.returned (.tuple #[.agg (aL ⟨#[]⟩ 0 ⟨#[]⟩ 0 0 0 0 0 0 0 0),.bool false])/\Below w.heap.size w w':=by
 go_enter func84,ntmps84
 go_wp2_with (first|(go_at_call 42;refine mr (aE c h v p s d g 6 b i u _) ?_))
 exact bodyPost_ret (v:=.tuple #[.agg (aL ⟨#[]⟩ 0 ⟨#[]⟩ 0 0 0 0 0 0 0 0),.bool false]) (by simp[results,results84,go_sem]) rfl ⟨rfl,by repeat (first|exact bR|refine ae ?_ _|refine au ?_)⟩
theorem po(c h c2 h2:ByteArray)(v p s d g b i u v2 p2 s2 d2 g2 clock:Int)(w:World)(hb:b<=1)(hne:∀w,Sem.run prog (binOp .neq 37 (.agg (aX c2 v2 h2 p2 s2 d2 g2)) (.agg (aX c v h p s d g))) w=.ok (.bool true) w):
  Calls prog 84 #[.agg (aL c v h p s d g 6 b i u),.agg (aX c2 v2 h2 p2 s2 d2 g2),.bool true,.int .i64 clock] w fun e w'=>e=.returned (.tuple #[.agg (aL ⟨#[]⟩ 0 ⟨#[]⟩ 0 0 0 0 0 0 0 0),.bool false])/\Below w.heap.size w w':=by
 go_enter func84,ntmps84
 go_wp2_with (first|(go_at_call 42;refine mr (aE c h v p s d g 6 b i u _) ?_))
 exact bodyPost_ret (v:=.tuple #[.agg (aL ⟨#[]⟩ 0 ⟨#[]⟩ 0 0 0 0 0 0 0 0),.bool false]) (by simp[results,results84,go_sem]) rfl ⟨rfl,by repeat (first|exact bR|refine ae ?_ _|refine au ?_)⟩
theorem pv(c h c2 h2:ByteArray)(v p s d g b i u v2 p2 s2 d2 g2 clock:Int)(w:World)(hb:b<=1)(hne:∀w,Sem.run prog (binOp .neq 37 (.agg (aX c2 v2 h2 p2 s2 d2 g2)) (.agg (aX c v h p s d g))) w=.ok (.bool false) w):
  Calls prog 84 #[.agg (aL c v h p s d g 6 b i u),.agg (aX c2 v2 h2 p2 s2 d2 g2),.bool true,.int .i64 clock] w fun e w'=>e=.returned (.tuple #[.agg (aL ⟨#[]⟩ 0 ⟨#[]⟩ 0 0 0 0 0 0 0 0),.bool false])/\Below w.heap.size w w':=by
 go_enter func84,ntmps84
 go_wp2_with (first|(go_at_call 42;refine mr (aE c h v p s d g 6 b i u _) ?_))
 exact bodyPost_ret (v:=.tuple #[.agg (aL ⟨#[]⟩ 0 ⟨#[]⟩ 0 0 0 0 0 0 0 0),.bool false]) (by simp[results,results84,go_sem]) rfl ⟨rfl,by repeat (first|exact bR|refine ae ?_ _|refine au ?_)⟩
theorem rQ(c h c2 h2:ByteArray)(v p s d g b i u v2 p2 s2 d2 g2 clock:Int)(w:World)(hb:b<=1)(hl:bj h u clock=true)(hne:∀w,Sem.run prog (binOp .neq 37 (.agg (aX c2 v2 h2 p2 s2 d2 g2)) (.agg (aX c v h p s d g))) w=.ok (.bool false) w):
  Calls prog 84 #[.agg (aL c v h p s d g 1 b i u),.agg (aX c2 v2 h2 p2 s2 d2 g2),.bool true,.int .i64 clock] w fun e w'=>e=.returned (.tuple #[.agg (aL c v h p s d g 3 s i u),.bool true])/\Below w.heap.size w w':=by
 go_enter func84,ntmps84
 go_wp2_with (first|(go_at_call 42;refine mr (aE c h v p s d g 1 b i u _) ?_)|(go_at_call 121;refine mr (jA c h v p s d g 1 b i u clock _ hl) ?_))
 exact bodyPost_ret (v:=.tuple #[.agg (aL c v h p s d g 3 s i u),.bool true]) (by simp[results,results84,go_sem]) rfl ⟨rfl,by repeat (first|exact bR|refine ae ?_ _|refine au ?_)⟩
theorem rR(c h c2 h2:ByteArray)(v p s d g b i u v2 p2 s2 d2 g2 clock:Int)(w:World)(hb:1<b)(hbb:b<=9223372036854775807)(hne:∀w,Sem.run prog (binOp .neq 37 (.agg (aX c2 v2 h2 p2 s2 d2 g2)) (.agg (aX c v h p s d g))) w=.ok (.bool false) w):
  Calls prog 84 #[.agg (aL c v h p s d g 5 b i u),.agg (aX c2 v2 h2 p2 s2 d2 g2),.bool true,.int .i64 clock] w fun e w'=>e=.returned (.tuple #[.agg (aL c v h p s d g 5 (b-1) i u),.bool true])/\Below w.heap.size w w':=by
 go_enter func84,ntmps84
 go_wp2_with (first|(go_at_call 42;refine mr (aE c h v p s d g 5 b i u _) ?_))
 exact bodyPost_ret (v:=.tuple #[.agg (aL c v h p s d g 5 (b-1) i u),.bool true]) (by simp[results,results84,go_sem]) rfl ⟨rfl,by repeat (first|exact bR|refine ae ?_ _|refine au ?_)⟩
theorem rS(c h c2 h2:ByteArray)(v p s d g b i u v2 p2 s2 d2 g2 clock:Int)(w:World)(hb:b<=1)(hl:bj h u clock=false)(hne:∀w,Sem.run prog (binOp .neq 37 (.agg (aX c2 v2 h2 p2 s2 d2 g2)) (.agg (aX c v h p s d g))) w=.ok (.bool false) w):
  Calls prog 84 #[.agg (aL c v h p s d g 5 b i u),.agg (aX c2 v2 h2 p2 s2 d2 g2),.bool true,.int .i64 clock] w fun e w'=>e=.returned (.tuple #[.agg (aL c v h p s d g 2 0 i u),.bool true])/\Below w.heap.size w w':=by
 go_enter func84,ntmps84
 go_wp2_with (first|(go_at_call 42;refine mr (aE c h v p s d g 5 b i u _) ?_)|(go_at_call 121;refine mr (kI c h v p s d g 5 b i u clock _ hl) ?_))
 exact bodyPost_ret (v:=.tuple #[.agg (aL c v h p s d g 2 0 i u),.bool true]) (by simp[results,results84,go_sem]) rfl ⟨rfl,by repeat (first|exact bR|refine ae ?_ _|refine au ?_)⟩
theorem rM(c h c2 h2:ByteArray)(v p s d g b i u v2 p2 s2 d2 g2 clock:Int)(w:World)(hl:bj h u clock=false)(hne:∀w,Sem.run prog (binOp .neq 37 (.agg (aX c2 v2 h2 p2 s2 d2 g2)) (.agg (aX c v h p s d g))) w=.ok (.bool false) w):
  Calls prog 84 #[.agg (aL c v h p s d g 2 b i u),.agg (aX c2 v2 h2 p2 s2 d2 g2),.bool true,.int .i64 clock] w fun e w'=>e=.returned (.tuple #[.agg (aL c v h p s d g 2 0 i u),.bool true])/\Below w.heap.size w w':=by
 go_enter func84,ntmps84
 go_wp2_with (first|(go_at_call 42;refine mr (aE c h v p s d g 2 b i u _) ?_)|(go_at_call 121;refine mr (kI c h v p s d g 2 b i u clock _ hl) ?_))
 exact bodyPost_ret (v:=.tuple #[.agg (aL c v h p s d g 2 0 i u),.bool true]) (by simp[results,results84,go_sem]) rfl ⟨rfl,by repeat (first|exact bR|refine ae ?_ _|refine au ?_)⟩
theorem rV(c h c2 h2:ByteArray)(v p s d g b i u v2 p2 s2 d2 g2 clock:Int)(w:World)(hb:b<=1)(hne:∀w,Sem.run prog (binOp .neq 37 (.agg (aX c2 v2 h2 p2 s2 d2 g2)) (.agg (aX c v h p s d g))) w=.ok (.bool false) w):
  Calls prog 84 #[.agg (aL c v h p s d g 3 b i u),.agg (aX c2 v2 h2 p2 s2 d2 g2),.bool true,.int .i64 clock] w fun e w'=>e=.returned (.tuple #[.agg (aL c v h p s d g 4 d i u),.bool true])/\Below w.heap.size w w':=by
 go_enter func84,ntmps84
 go_wp2_with (first|(go_at_call 42;refine mr (aE c h v p s d g 3 b i u _) ?_))
 exact bodyPost_ret (v:=.tuple #[.agg (aL c v h p s d g 4 d i u),.bool true]) (by simp[results,results84,go_sem]) rfl ⟨rfl,by repeat (first|exact bR|refine ae ?_ _|refine au ?_)⟩
theorem rZ(c h c2 h2:ByteArray)(v p s d g b i u v2 p2 s2 d2 g2 clock:Int)(w:World)(hb:b<=0)(hb1:(b==1)=false)(hne:∀w,Sem.run prog (binOp .neq 37 (.agg (aX c2 v2 h2 p2 s2 d2 g2)) (.agg (aX c v h p s d g))) w=.ok (.bool false) w):
  Calls prog 84 #[.agg (aL c v h p s d g 4 b i u),.agg (aX c2 v2 h2 p2 s2 d2 g2),.bool true,.int .i64 clock] w fun e w'=>e=.returned (.tuple #[.agg (aL c v h p s d g 4 b i u),.bool true])/\Below w.heap.size w w':=by
 go_enter func84,ntmps84
 go_wp2_with (first|(go_at_call 42;refine mr (aE c h v p s d g 4 b i u _) ?_))
 exact bodyPost_ret (v:=.tuple #[.agg (aL c v h p s d g 4 b i u),.bool true]) (by simp[results,results84,go_sem]) rfl ⟨rfl,by repeat (first|exact bR|refine ae ?_ _|refine au ?_)⟩
theorem rY(c h c2 h2:ByteArray)(v p s d g i u v2 p2 s2 d2 g2 clock:Int)(w:World)(hi:1000<=i)(hne:∀w,Sem.run prog (binOp .neq 37 (.agg (aX c2 v2 h2 p2 s2 d2 g2)) (.agg (aX c v h p s d g))) w=.ok (.bool false) w):
  Calls prog 84 #[.agg (aL c v h p s d g 4 1 i u),.agg (aX c2 v2 h2 p2 s2 d2 g2),.bool true,.int .i64 clock] w fun e w'=>e=.returned (.tuple #[.agg (aL c v h p s d g 5 (eJ i) i u),.bool true])/\Below w.heap.size w w':=by
 go_enter func84,ntmps84
 go_wp2_with (first|(go_at_call 42;refine mr (aE c h v p s d g 4 1 i u _) ?_)|(go_at_call 120;refine mr (xM c h v p s d g 4 1 i u _ hi) ?_))
 exact bodyPost_ret (v:=.tuple #[.agg (aL c v h p s d g 5 (eJ i) i u),.bool true]) (by simp[results,results84,go_sem]) rfl ⟨rfl,by repeat (first|exact bR|refine ae ?_ _|refine au ?_)⟩
theorem tB(c h c2 h2:ByteArray)(v p s d g a b i u v2 p2 s2 d2 g2 clock:Int)(w:World)(k1:(a==1)=false)(k2:(a != 2)=true)(k2':(a==2)=false)(k3:(a==3)=false)(k4:(a==4)=false)(k5:(a==5)=false)(k6:(a==6)=false)(Uk:(a != 6)=true)(hb:b<=1)(hne:∀w,Sem.run prog (binOp .neq 37 (.agg (aX c2 v2 h2 p2 s2 d2 g2)) (.agg (aX c v h p s d g))) w=.ok (.bool false) w):
  Calls prog 84 #[.agg (aL c v h p s d g a b i u),.agg (aX c2 v2 h2 p2 s2 d2 g2),.bool true,.int .i64 clock] w fun e w'=>e=.returned (.tuple #[.agg (aL c v h p s d g a b i u),.bool true])/\Below w.heap.size w w':=by
 go_enter func84,ntmps84
 go_wp2_with (first|(go_at_call 42;refine mr (aE c h v p s d g a b i u _) ?_))
 exact bodyPost_ret (v:=.tuple #[.agg (aL c v h p s d g a b i u),.bool true]) (by simp[results,results84,go_sem]) rfl ⟨rfl,by repeat (first|exact bR|refine ae ?_ _|refine au ?_)⟩
end Go.Proofs.YtlfnpjcjapljpaaGreatDoor
