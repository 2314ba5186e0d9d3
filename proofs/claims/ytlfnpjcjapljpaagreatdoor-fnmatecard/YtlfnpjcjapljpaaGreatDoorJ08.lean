import Derived.Test.YtlfnpjcjapljpaaGreatDoorJ03
namespace Go.Proofs.YtlfnpjcjapljpaaGreatDoor
open Go.Proofs.Tryz Go.RowKit
set_option maxHeartbeats 2000000
set_option linter.unusedVariables false
theorem qY(c h c2 h2:ByteArray)(v p s d g a b i u v2 p2 s2 d2 g2 clock:Int)(w:World)(ha:bq a=true)(h6:(a==6)=false)(heq:∀w,Sem.run prog (binOp .eql 37 (.agg (aX c2 v2 h2 p2 s2 d2 g2)) (.agg (aX c v h p s d g))) w=.ok (.bool false) w):
  Calls prog 111 #[.agg (aL c v h p s d g a b i u),.agg (aX c2 v2 h2 p2 s2 d2 g2),.bool true,.int .i64 clock] w fun e w'=>e=.returned (.tuple #[.agg (aL c v h p s d g 6 g i u),.bool true])/\Below w.heap.size w w':=by
 have hn1:=bM;have hn0:=bZ;go_enter func111,ntmps111
 go_wp2_with (first|(go_at_call 66;refine mr (bA c h v p s d g a b i u _) ?_)|(go_at_call 50;refine mr (aV a _) ?_)|(go_at_call 189;refine mr (bJ _) ?_)|go_in)
 refine wp_loop_rounds 2 ?_
 iterate 2
  rw[rounds_succ];go_wp2_with (first|(go_at_call 68;refine mr (bT c h v p s d g 6 g i u _) ?_)|go_in)
 exact bodyPost_ret (v:=.tuple #[.agg (aL c v h p s d g 6 g i u),.bool true]) (by simp[results,results111,go_sem]) rfl ⟨rfl,by repeat (first|exact bR|refine ae ?_ _|refine au ?_)⟩
theorem oW(c h c2 h2:ByteArray)(v p s d g b i u v2 p2 s2 d2 g2 clock:Int)(w:World)(hb:1<b)(hbb:b<=9223372036854775807)(heq:∀w,Sem.run prog (binOp .eql 37 (.agg (aX c2 v2 h2 p2 s2 d2 g2)) (.agg (aX c v h p s d g))) w=.ok (.bool false) w):
  Calls prog 111 #[.agg (aL c v h p s d g 6 b i u),.agg (aX c2 v2 h2 p2 s2 d2 g2),.bool true,.int .i64 clock] w fun e w'=>e=.returned (.tuple #[.agg (aL c v h p s d g 6 (b-1) i u),.bool true])/\Below w.heap.size w w':=by
 have hn1:=bM;have hn0:=bZ;go_enter func111,ntmps111
 go_wp2_with (first|(go_at_call 66;refine mr (bA c h v p s d g 6 b i u _) ?_)|(go_at_call 50;refine mr (aV 6 _) ?_)|(go_at_call 189;refine mr (bJ _) ?_)|go_in)
 refine wp_loop_rounds 2 ?_
 iterate 2
  rw[rounds_succ];go_wp2_with (first|(go_at_call 68;refine mr (bT c h v p s d g 6 (b-1) i u _) ?_)|go_in)
 exact bodyPost_ret (v:=.tuple #[.agg (aL c v h p s d g 6 (b-1) i u),.bool true]) (by simp[results,results111,go_sem]) rfl ⟨rfl,by repeat (first|exact bR|refine ae ?_ _|refine au ?_)⟩
theorem ri(c h c2 h2:ByteArray)(v p s d g b i u v2 p2 s2 d2 g2 clock:Int)(w:World)(hb:1<b)(hbb:b<=9223372036854775807)(heq:∀w,Sem.run prog (binOp .eql 37 (.agg (aX c2 v2 h2 p2 s2 d2 g2)) (.agg (aX c v h p s d g))) w=.ok (.bool true) w):
  Calls prog 111 #[.agg (aL c v h p s d g 1 b i u),.agg (aX c2 v2 h2 p2 s2 d2 g2),.bool true,.int .i64 clock] w fun e w'=>e=.returned (.tuple #[.agg (aL c v h p s d g 1 (b-1) i u),.bool true])/\Below w.heap.size w w':=by
 have hn1:=bM;have hn0:=bZ;go_enter func111,ntmps111
 go_wp2_with (first|(go_at_call 66;refine mr (bA c h v p s d g 1 b i u _) ?_)|(go_at_call 50;refine mr (aV 1 _) ?_)|(go_at_call 189;refine mr (bJ _) ?_)|go_in)
 refine wp_loop_rounds 2 ?_
 iterate 2
  rw[rounds_succ];go_wp2_with (first|(go_at_call 68;refine mr (bT c h v p s d g 1 (b-1) i u _) ?_)|go_in)
 exact bodyPost_ret (v:=.tuple #[.agg (aL c v h p s d g 1 (b-1) i u),.bool true]) (by simp[results,results111,go_sem]) rfl ⟨rfl,by repeat (first|exact bR|refine ae ?_ _|refine au ?_)⟩
theorem rq(c h c2 h2:ByteArray)(v p s d g b i u v2 p2 s2 d2 g2 clock:Int)(w:World)(hb:b<=1)(hl:bj h u clock=true)(heq:∀w,Sem.run prog (binOp .eql 37 (.agg (aX c2 v2 h2 p2 s2 d2 g2)) (.agg (aX c v h p s d g))) w=.ok (.bool true) w):
  Calls prog 111 #[.agg (aL c v h p s d g 5 b i u),.agg (aX c2 v2 h2 p2 s2 d2 g2),.bool true,.int .i64 clock] w fun e w'=>e=.returned (.tuple #[.agg (aL c v h p s d g 3 s i u),.bool true])/\Below w.heap.size w w':=by
 have hn1:=bM;have hn0:=bZ;go_enter func111,ntmps111
 go_wp2_with (first|(go_at_call 66;refine mr (bA c h v p s d g 5 b i u _) ?_)|(go_at_call 50;refine mr (aV 5 _) ?_)|(go_at_call 189;refine mr (bJ _) ?_)|go_in)
 refine wp_loop_rounds 3 ?_
 iterate 3
  rw[rounds_succ];go_wp2_with (first|(go_at_call 209;refine mr (mf c h v p s d g 5 b i u clock _ _ (by simp) hl) ?_)|(go_at_call 68;refine mr (bT c h v p s d g 3 s i u _) ?_)|go_in)
 exact bodyPost_ret (v:=.tuple #[.agg (aL c v h p s d g 3 s i u),.bool true]) (by simp[results,results111,go_sem]) rfl ⟨rfl,by repeat (first|exact bR|refine ae ?_ _|refine au ?_)⟩
theorem ru(c h c2 h2:ByteArray)(v p s d g b i u v2 p2 s2 d2 g2 clock:Int)(w:World)(hb:1<b)(hbb:b<=9223372036854775807)(heq:∀w,Sem.run prog (binOp .eql 37 (.agg (aX c2 v2 h2 p2 s2 d2 g2)) (.agg (aX c v h p s d g))) w=.ok (.bool true) w):
  Calls prog 111 #[.agg (aL c v h p s d g 3 b i u),.agg (aX c2 v2 h2 p2 s2 d2 g2),.bool true,.int .i64 clock] w fun e w'=>e=.returned (.tuple #[.agg (aL c v h p s d g 3 (b-1) i u),.bool true])/\Below w.heap.size w w':=by
 have hn1:=bM;have hn0:=bZ;go_enter func111,ntmps111
 go_wp2_with (first|(go_at_call 66;refine mr (bA c h v p s d g 3 b i u _) ?_)|(go_at_call 50;refine mr (aV 3 _) ?_)|(go_at_call 189;refine mr (bJ _) ?_)|go_in)
 refine wp_loop_rounds 2 ?_
 iterate 2
  rw[rounds_succ];go_wp2_with (first|(go_at_call 68;refine mr (bT c h v p s d g 3 (b-1) i u _) ?_)|go_in)
 exact bodyPost_ret (v:=.tuple #[.agg (aL c v h p s d g 3 (b-1) i u),.bool true]) (by simp[results,results111,go_sem]) rfl ⟨rfl,by repeat (first|exact bR|refine ae ?_ _|refine au ?_)⟩
theorem rA(c h c2 h2:ByteArray)(v p s d g i u v2 p2 s2 d2 g2 clock:Int)(w:World)(hi:i<1000)(hii:-9223372036854775808<=i)(heq:∀w,Sem.run prog (binOp .eql 37 (.agg (aX c2 v2 h2 p2 s2 d2 g2)) (.agg (aX c v h p s d g))) w=.ok (.bool true) w):
  Calls prog 111 #[.agg (aL c v h p s d g 4 1 i u),.agg (aX c2 v2 h2 p2 s2 d2 g2),.bool true,.int .i64 clock] w fun e w'=>e=.returned (.tuple #[.agg (aL c v h p s d g 5 (eJ (i+1)) (i+1) u),.bool true])/\Below w.heap.size w w':=by
 have hn1:=bM;have hn0:=bZ;go_enter func111,ntmps111
 go_wp2_with (first|(go_at_call 66;refine mr (bA c h v p s d g 4 1 i u _) ?_)|(go_at_call 50;refine mr (aV 4 _) ?_)|(go_at_call 189;refine mr (bJ _) ?_)|go_in)
 refine wp_loop_rounds 3 ?_
 iterate 3
  rw[rounds_succ];go_wp2_with (first|(go_at_call 233;refine mr (mL (i+1) _) ?_)|(go_at_call 68;refine mr (bT c h v p s d g 5 (eJ (i+1)) (i+1) u _) ?_)|go_in)
 exact bodyPost_ret (v:=.tuple #[.agg (aL c v h p s d g 5 (eJ (i+1)) (i+1) u),.bool true]) (by simp[results,results111,go_sem]) rfl ⟨rfl,by repeat (first|exact bR|refine ae ?_ _|refine au ?_)⟩
theorem rF(c h c2 h2:ByteArray)(v p s d g a b i u v2 p2 s2 d2 g2 clock:Int)(w:World)(ha:6<a)(ha1:1<=a)(hb:1<b)(hbb:b<=9223372036854775807)(heq:∀w,Sem.run prog (binOp .eql 37 (.agg (aX c2 v2 h2 p2 s2 d2 g2)) (.agg (aX c v h p s d g))) w=.ok (.bool true) w):
  Calls prog 111 #[.agg (aL c v h p s d g a b i u),.agg (aX c2 v2 h2 p2 s2 d2 g2),.bool true,.int .i64 clock] w fun e w'=>e=.returned (.tuple #[.agg (aL c v h p s d g a (b-1) i u),.bool true])/\Below w.heap.size w w':=by
 have hn1:=bM;have hn0:=bZ;go_enter func111,ntmps111
 go_wp2_with (first|(go_at_call 66;refine mr (bA c h v p s d g a b i u _) ?_)|(go_at_call 50;refine mr (aV a _) ?_)|(go_at_call 189;refine mr (bJ _) ?_)|go_in)
 refine wp_loop_rounds 2 ?_
 iterate 2
  rw[rounds_succ];go_wp2_with (first|(go_at_call 68;refine mr (bT c h v p s d g a (b-1) i u _) ?_)|go_in)
 exact bodyPost_ret (v:=.tuple #[.agg (aL c v h p s d g a (b-1) i u),.bool true]) (by simp[results,results111,go_sem]) rfl ⟨rfl,by repeat (first|exact bR|refine ae ?_ _|refine au ?_)⟩
end Go.Proofs.YtlfnpjcjapljpaaGreatDoor
