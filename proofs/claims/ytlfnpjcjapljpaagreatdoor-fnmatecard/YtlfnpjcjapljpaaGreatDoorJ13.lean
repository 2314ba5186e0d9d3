import Derived.Test.YtlfnpjcjapljpaaGreatDoorJ03
namespace Go.Proofs.YtlfnpjcjapljpaaGreatDoor
open Go.Proofs.Tryz Go.RowKit
set_option maxHeartbeats 2000000
set_option linter.unusedVariables false
theorem qV(c h c2 h2:ByteArray)(v p s d g a b i u v2 p2 s2 d2 g2 clock:Int)(w:World)(ha:bq a=false)(h6:(a==6)=false):
  Calls prog 111 #[.agg (aL c v h p s d g a b i u),.agg (aX c2 v2 h2 p2 s2 d2 g2),.bool false,.int .i64 clock] w fun e w'=>e=.returned (.tuple #[.agg (aL ⟨#[]⟩ 0 ⟨#[]⟩ 0 0 0 0 0 0 0 0),.bool false])/\Below w.heap.size w w':=by
 have hn1:=bM;have hn0:=bZ;go_enter func111,ntmps111
 go_wp2_with (first|(go_at_call 66;refine mr (bA c h v p s d g a b i u _) ?_)|(go_at_call 50;refine mr (aV a _) ?_)|(go_at_call 189;refine mr (bJ _) ?_)|go_in)
 refine wp_loop_rounds 2 ?_;rw[rounds_succ];go_wp2_with (first|go_in)
 rw[rounds_succ];go_wp2_with (first|go_in)
 exact bodyPost_ret (v:=.tuple #[.agg (aL ⟨#[]⟩ 0 ⟨#[]⟩ 0 0 0 0 0 0 0 0),.bool false]) (by simp[results,results111,go_sem]) rfl ⟨rfl,by repeat (first|exact bR|refine ae ?_ _|refine au ?_)⟩
theorem oV(c h c2 h2:ByteArray)(v p s d g b i u v2 p2 s2 d2 g2 clock:Int)(w:World)(hb:b<=1):
  Calls prog 111 #[.agg (aL c v h p s d g 6 b i u),.agg (aX c2 v2 h2 p2 s2 d2 g2),.bool false,.int .i64 clock] w fun e w'=>e=.returned (.tuple #[.agg (aL ⟨#[]⟩ 0 ⟨#[]⟩ 0 0 0 0 0 0 0 0),.bool false])/\Below w.heap.size w w':=by
 have hn1:=bM;have hn0:=bZ;go_enter func111,ntmps111
 go_wp2_with (first|(go_at_call 66;refine mr (bA c h v p s d g 6 b i u _) ?_)|(go_at_call 50;refine mr (aV 6 _) ?_)|(go_at_call 189;refine mr (bJ _) ?_)|go_in)
 refine wp_loop_rounds 3 ?_;rw[rounds_succ];go_wp2_with (first|go_in)
 rw[rounds_succ];go_wp2_with (first|go_in)
 rw[rounds_succ];go_wp2_with (first|go_in)
 exact bodyPost_ret (v:=.tuple #[.agg (aL ⟨#[]⟩ 0 ⟨#[]⟩ 0 0 0 0 0 0 0 0),.bool false]) (by simp[results,results111,go_sem]) rfl ⟨rfl,by repeat (first|exact bR|refine ae ?_ _|refine au ?_)⟩
theorem oZ(c h c2 h2:ByteArray)(v p s d g b i u v2 p2 s2 d2 g2 clock:Int)(w:World)(hb:b<=1)(heq:∀w,Sem.run prog (binOp .eql 37 (.agg (aX c2 v2 h2 p2 s2 d2 g2)) (.agg (aX c v h p s d g))) w=.ok (.bool true) w):
  Calls prog 111 #[.agg (aL c v h p s d g 6 b i u),.agg (aX c2 v2 h2 p2 s2 d2 g2),.bool true,.int .i64 clock] w fun e w'=>e=.returned (.tuple #[.agg (aL ⟨#[]⟩ 0 ⟨#[]⟩ 0 0 0 0 0 0 0 0),.bool false])/\Below w.heap.size w w':=by
 have hn1:=bM;have hn0:=bZ;go_enter func111,ntmps111
 go_wp2_with (first|(go_at_call 66;refine mr (bA c h v p s d g 6 b i u _) ?_)|(go_at_call 50;refine mr (aV 6 _) ?_)|(go_at_call 189;refine mr (bJ _) ?_)|go_in)
 refine wp_loop_rounds 3 ?_;rw[rounds_succ];go_wp2_with (first|go_in)
 rw[rounds_succ];go_wp2_with (first|go_in)
 rw[rounds_succ];go_wp2_with (first|go_in)
 exact bodyPost_ret (v:=.tuple #[.agg (aL ⟨#[]⟩ 0 ⟨#[]⟩ 0 0 0 0 0 0 0 0),.bool false]) (by simp[results,results111,go_sem]) rfl ⟨rfl,by repeat (first|exact bR|refine ae ?_ _|refine au ?_)⟩
theorem rl(c h c2 h2:ByteArray)(v p s d g b i u v2 p2 s2 d2 g2 clock:Int)(w:World)(hb:1<b)(hbb:b<=9223372036854775807)(heq:∀w,Sem.run prog (binOp .eql 37 (.agg (aX c2 v2 h2 p2 s2 d2 g2)) (.agg (aX c v h p s d g))) w=.ok (.bool true) w):
  Calls prog 111 #[.agg (aL c v h p s d g 5 b i u),.agg (aX c2 v2 h2 p2 s2 d2 g2),.bool true,.int .i64 clock] w fun e w'=>e=.returned (.tuple #[.agg (aL c v h p s d g 5 (b-1) i u),.bool true])/\Below w.heap.size w w':=by
 have hn1:=bM;have hn0:=bZ;go_enter func111,ntmps111
 go_wp2_with (first|(go_at_call 66;refine mr (bA c h v p s d g 5 b i u _) ?_)|(go_at_call 50;refine mr (aV 5 _) ?_)|(go_at_call 189;refine mr (bJ _) ?_)|go_in)
 refine wp_loop_rounds 2 ?_
 iterate 2
  rw[rounds_succ];go_wp2_with (first|(go_at_call 68;refine mr (bT c h v p s d g 5 (b-1) i u _) ?_)|go_in)
 exact bodyPost_ret (v:=.tuple #[.agg (aL c v h p s d g 5 (b-1) i u),.bool true]) (by simp[results,results111,go_sem]) rfl ⟨rfl,by repeat (first|exact bR|refine ae ?_ _|refine au ?_)⟩
theorem qZ(c h c2 h2:ByteArray)(v p s d g b i u v2 p2 s2 d2 g2 clock:Int)(w:World)(hl:bj h u clock=false)(heq:∀w,Sem.run prog (binOp .eql 37 (.agg (aX c2 v2 h2 p2 s2 d2 g2)) (.agg (aX c v h p s d g))) w=.ok (.bool true) w):
  Calls prog 111 #[.agg (aL c v h p s d g 2 b i u),.agg (aX c2 v2 h2 p2 s2 d2 g2),.bool true,.int .i64 clock] w fun e w'=>e=.returned (.tuple #[.agg (aL c v h p s d g 2 0 i u),.bool true])/\Below w.heap.size w w':=by
 have hn1:=bM;have hn0:=bZ;go_enter func111,ntmps111
 go_wp2_with (first|(go_at_call 66;refine mr (bA c h v p s d g 2 b i u _) ?_)|(go_at_call 50;refine mr (aV 2 _) ?_)|(go_at_call 189;refine mr (bJ _) ?_)|go_in)
 refine wp_loop_rounds 2 ?_
 iterate 2
  rw[rounds_succ];go_wp2_with (first|(go_at_call 209;refine mr (nK c h v p s d g 2 b i u clock _ _ (by simp) hl) ?_)|(go_at_call 68;refine mr (bT c h v p s d g 2 0 i u _) ?_)|go_in)
 exact bodyPost_ret (v:=.tuple #[.agg (aL c v h p s d g 2 0 i u),.bool true]) (by simp[results,results111,go_sem]) rfl ⟨rfl,by repeat (first|exact bR|refine ae ?_ _|refine au ?_)⟩
theorem rC(c h c2 h2:ByteArray)(v p s d g b i u v2 p2 s2 d2 g2 clock:Int)(w:World)(hb:b<=0)(hb1:(b==1)=false)(heq:∀w,Sem.run prog (binOp .eql 37 (.agg (aX c2 v2 h2 p2 s2 d2 g2)) (.agg (aX c v h p s d g))) w=.ok (.bool true) w):
  Calls prog 111 #[.agg (aL c v h p s d g 4 b i u),.agg (aX c2 v2 h2 p2 s2 d2 g2),.bool true,.int .i64 clock] w fun e w'=>e=.returned (.tuple #[.agg (aL c v h p s d g 4 b i u),.bool true])/\Below w.heap.size w w':=by
 have hn1:=bM;have hn0:=bZ;go_enter func111,ntmps111
 go_wp2_with (first|(go_at_call 66;refine mr (bA c h v p s d g 4 b i u _) ?_)|(go_at_call 50;refine mr (aV 4 _) ?_)|(go_at_call 189;refine mr (bJ _) ?_)|go_in)
 refine wp_loop_rounds 2 ?_
 iterate 2
  rw[rounds_succ];go_wp2_with (first|(go_at_call 68;refine mr (bT c h v p s d g 4 b i u _) ?_)|go_in)
 exact bodyPost_ret (v:=.tuple #[.agg (aL c v h p s d g 4 b i u),.bool true]) (by simp[results,results111,go_sem]) rfl ⟨rfl,by repeat (first|exact bR|refine ae ?_ _|refine au ?_)⟩
theorem rE(c h c2 h2:ByteArray)(v p s d g a b i u v2 p2 s2 d2 g2 clock:Int)(w:World)(ha:a<1)(hb:b<=1)(heq:∀w,Sem.run prog (binOp .eql 37 (.agg (aX c2 v2 h2 p2 s2 d2 g2)) (.agg (aX c v h p s d g))) w=.ok (.bool true) w):
  Calls prog 111 #[.agg (aL c v h p s d g a b i u),.agg (aX c2 v2 h2 p2 s2 d2 g2),.bool true,.int .i64 clock] w fun e w'=>e=.returned (.tuple #[.agg (aL c v h p s d g a b i u),.bool true])/\Below w.heap.size w w':=by
 have hn1:=bM;have hn0:=bZ;go_enter func111,ntmps111
 go_wp2_with (first|(go_at_call 66;refine mr (bA c h v p s d g a b i u _) ?_)|(go_at_call 50;refine mr (aV a _) ?_)|(go_at_call 189;refine mr (bJ _) ?_)|go_in)
 refine wp_loop_rounds 2 ?_
 iterate 2
  rw[rounds_succ];go_wp2_with (first|(go_at_call 68;refine mr (bT c h v p s d g a b i u _) ?_)|go_in)
 exact bodyPost_ret (v:=.tuple #[.agg (aL c v h p s d g a b i u),.bool true]) (by simp[results,results111,go_sem]) rfl ⟨rfl,by repeat (first|exact bR|refine ae ?_ _|refine au ?_)⟩
end Go.Proofs.YtlfnpjcjapljpaaGreatDoor
