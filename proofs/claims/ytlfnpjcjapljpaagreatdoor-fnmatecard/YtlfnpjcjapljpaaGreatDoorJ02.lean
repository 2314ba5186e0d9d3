import Derived.Test.YtlfnpjcjapljpaaGreatDoorJ01
namespace Go.Proofs.YtlfnpjcjapljpaaGreatDoor
open Go.Proofs.Tryz Go.RowKit
set_option maxHeartbeats 2000000
set_option linter.unusedVariables false
def dv(p s d g:Int):Bool:=cA p 0 100&&(cA s 0 100&&(cA d 0 100&&cA g 0 100))
def dc(c h:ByteArray)(v p s d g:Int):Bool:=cF c&&(cA v 1 1000000&&((h.toList.isEmpty||holdB h)&&dv p s d g))
theorem bp(c h:ByteArray)(v p s d g:Int)(w:World)(hc:c.size<=maxLen)(hh:h.size<=maxLen):
  Calls prog 86 #[.agg (aX c v h p s d g)] w fun e w'=>e=.returned (.bool (dc c h v p s d g))/\w'=w.alloc (.cells (aX c v h p s d g) 37):=by
 cases h0:cF c
 ·
  go_enter func86,ntmps86
  go_wp2_with (first|(go_at_call 37;refine mr (aQ c _ hc) ?_)|(go_at_call 88;refine mr (bg h _ hh) ?_)|(go_at_call 28;refine mr (aI _ _ _ _) ?_))
  go_ret
  exact⟨bu (by simp[dc,dv, *]),rfl⟩
 ·
  skip
  cases h1:cA v 1 1000000
  ·
   go_enter func86,ntmps86
   go_wp2_with (first|(go_at_call 37;refine mr (aQ c _ hc) ?_)|(go_at_call 88;refine mr (bg h _ hh) ?_)|(go_at_call 28;refine mr (aI _ _ _ _) ?_))
   go_ret
   exact⟨bu (by simp[dc,dv, *]),rfl⟩
  skip
  have he:(h.toList.isEmpty||holdB h)=false\/(h.toList.isEmpty=true)\/(h.toList.isEmpty=false/\holdB h=true):=by cases h.toList.isEmpty<;>cases holdB h<;>simp
  rcases he with he|he|he
  ·
   obtain⟨e1,e2⟩:h.toList.isEmpty=false/\holdB h=false:=by simpa using he
   clear he;go_enter func86,ntmps86
   go_wp2_with (first|(go_at_call 37;refine mr (aQ c _ hc) ?_)|(go_at_call 88;refine mr (bg h _ hh) ?_)|(go_at_call 28;refine mr (aI _ _ _ _) ?_))
   go_ret
   exact⟨bu (by simp[dc,dv, *]),rfl⟩
  ·
   skip
   cases q0:cA p 0 100
   ·
    go_enter func86,ntmps86
    go_wp2_with (first|(go_at_call 37;refine mr (aQ c _ hc) ?_)|(go_at_call 88;refine mr (bg h _ hh) ?_)|(go_at_call 28;refine mr (aI _ _ _ _) ?_))
    go_ret
    exact⟨bu (by simp[dc,dv, *]),rfl⟩
   skip
   cases q1:cA s 0 100
   ·
    go_enter func86,ntmps86
    go_wp2_with (first|(go_at_call 37;refine mr (aQ c _ hc) ?_)|(go_at_call 88;refine mr (bg h _ hh) ?_)|(go_at_call 28;refine mr (aI _ _ _ _) ?_))
    go_ret
    exact⟨bu (by simp[dc,dv, *]),rfl⟩
   skip
   cases q2:cA d 0 100
   ·
    go_enter func86,ntmps86
    go_wp2_with (first|(go_at_call 37;refine mr (aQ c _ hc) ?_)|(go_at_call 88;refine mr (bg h _ hh) ?_)|(go_at_call 28;refine mr (aI _ _ _ _) ?_))
    go_ret
    exact⟨bu (by simp[dc,dv, *]),rfl⟩
   skip
   cases q3:cA g 0 100
   ·
    go_enter func86,ntmps86
    go_wp2_with (first|(go_at_call 37;refine mr (aQ c _ hc) ?_)|(go_at_call 88;refine mr (bg h _ hh) ?_)|(go_at_call 28;refine mr (aI _ _ _ _) ?_))
    go_ret
    exact⟨bu (by simp[dc,dv, *]),rfl⟩
   go_enter func86,ntmps86
   go_wp2_with (first|(go_at_call 37;refine mr (aQ c _ hc) ?_)|(go_at_call 88;refine mr (bg h _ hh) ?_)|(go_at_call 28;refine mr (aI _ _ _ _) ?_))
   go_ret
   exact⟨bu (by simp[dc,dv, *]),rfl⟩
  obtain⟨e1,e2⟩:=he;cases q0:cA p 0 100
  ·
   go_enter func86,ntmps86
   go_wp2_with (first|(go_at_call 37;refine mr (aQ c _ hc) ?_)|(go_at_call 88;refine mr (bg h _ hh) ?_)|(go_at_call 28;refine mr (aI _ _ _ _) ?_))
   go_ret
   exact⟨bu (by simp[dc,dv, *]),rfl⟩
  skip
  cases q1:cA s 0 100
  ·
   go_enter func86,ntmps86
   go_wp2_with (first|(go_at_call 37;refine mr (aQ c _ hc) ?_)|(go_at_call 88;refine mr (bg h _ hh) ?_)|(go_at_call 28;refine mr (aI _ _ _ _) ?_))
   go_ret
   exact⟨bu (by simp[dc,dv, *]),rfl⟩
  skip
  cases q2:cA d 0 100
  ·
   go_enter func86,ntmps86
   go_wp2_with (first|(go_at_call 37;refine mr (aQ c _ hc) ?_)|(go_at_call 88;refine mr (bg h _ hh) ?_)|(go_at_call 28;refine mr (aI _ _ _ _) ?_))
   go_ret
   exact⟨bu (by simp[dc,dv, *]),rfl⟩
  skip
  cases q3:cA g 0 100
  ·
   go_enter func86,ntmps86
   go_wp2_with (first|(go_at_call 37;refine mr (aQ c _ hc) ?_)|(go_at_call 88;refine mr (bg h _ hh) ?_)|(go_at_call 28;refine mr (aI _ _ _ _) ?_))
   go_ret
   exact⟨bu (by simp[dc,dv, *]),rfl⟩
  go_enter func86,ntmps86
  go_wp2_with (first|(go_at_call 37;refine mr (aQ c _ hc) ?_)|(go_at_call 88;refine mr (bg h _ hh) ?_)|(go_at_call 28;refine mr (aI _ _ _ _) ?_))
  go_ret
  exact⟨bu (by simp[dc,dv, *]),rfl⟩
theorem gO(c h:ByteArray)(v p s d g:Int)(w:World)(hc:c.size<=maxLen)(hh:h.size<=maxLen):
  Calls prog 178 #[.agg (aX c v h p s d g)] w fun e w'=>e=.returned (.bool (cF c))/\w'=w.alloc (.cells (aX c v h p s d g) 37):=by
 go_enter func178,ntmps178
 go_wp2_with (go_at_call 89;refine mr (bX c _ hc) ?_)
 go_ret
 exact⟨rfl,rfl⟩
theorem eO(c h:ByteArray)(v p s d g:Int)(w:World)(hc:c.size<=maxLen)(hh:h.size<=maxLen):
  Calls prog 179 #[.agg (aX c v h p s d g)] w fun e w'=>e=.returned (.bool (cA v 1 1000000))/\w'=w.alloc (.cells (aX c v h p s d g) 37):=by
 go_enter func179,ntmps179
 go_wp2_with (go_at_call 19;refine mr (aP _ _ _ _) ?_)
 go_ret
 exact⟨rfl,rfl⟩
theorem gP(c h:ByteArray)(v p s d g:Int)(w:World)(hc:c.size<=maxLen)(hh:h.size<=maxLen):
  Calls prog 180 #[.agg (aX c v h p s d g)] w fun e w'=>e=.returned (.bool (h.toList.isEmpty||holdB h))/\w'=w.alloc (.cells (aX c v h p s d g) 37):=by
 cases he:h.toList.isEmpty
 ·
  go_enter func180,ntmps180
  go_wp2_with (go_at_call 163;refine mr (dS h _ hh) ?_)
  go_ret
  exact⟨rfl,rfl⟩
 ·
  go_enter func180,ntmps180
  go_wp2
  go_ret
  exact⟨rfl,rfl⟩
theorem IC(p s d g:Int)(w:World):Sem.run prog (Instr.build 132 #[(0,.int .i64 p),(1,.int .i64 s),(2,.int .i64 d),(3,.int .i64 g)]) w=.ok (.agg #[.int .i64 p,.int .i64 s,.int .i64 d,.int .i64 g]) w:=by kernel_rfl
theorem fM(c h:ByteArray)(v p s d g:Int)(w:World)(hc:c.size<=maxLen)(hh:h.size<=maxLen):
  Calls prog 181 #[.agg (aX c v h p s d g)] w fun e w'=>e=.returned (.bool (dv p s d g))/\w'=w.alloc (.cells (aX c v h p s d g) 37):=by
 have hb4:=IC;have i0:∀w,Sem.run prog (Instr.index 132 (.agg #[.int .i64 p,.int .i64 s,.int .i64 d,.int .i64 g]) (.int .i64 0)) w=.ok (.int .i64 p) w:=fun _=>by kernel_rfl
 have i1:∀w,Sem.run prog (Instr.index 132 (.agg #[.int .i64 p,.int .i64 s,.int .i64 d,.int .i64 g]) (.int .i64 1)) w=.ok (.int .i64 s) w:=fun _=>by kernel_rfl
 have i2:∀w,Sem.run prog (Instr.index 132 (.agg #[.int .i64 p,.int .i64 s,.int .i64 d,.int .i64 g]) (.int .i64 2)) w=.ok (.int .i64 d) w:=fun _=>by kernel_rfl
 have i3:∀w,Sem.run prog (Instr.index 132 (.agg #[.int .i64 p,.int .i64 s,.int .i64 d,.int .i64 g]) (.int .i64 3)) w=.ok (.int .i64 g) w:=fun _=>by kernel_rfl
 cases q0:cA p 0 100
 ·
  go_enter func181,ntmps181
  go_wp2
  refine wp_loop_rounds 1 ?_;rw[rounds_succ];go_wp2_with (go_at_call 19;refine mr (aP _ _ _ _) ?_)
  go_ret
  exact⟨bu (by simp[dv, *]),rfl⟩
 ·
  skip
  cases q1:cA s 0 100
  ·
   go_enter func181,ntmps181
   go_wp2
   refine wp_loop_rounds 2 ?_
   iterate 2
    rw[rounds_succ];go_wp2_with (go_at_call 19;refine mr (aP _ _ _ _) ?_)
   go_ret
   exact⟨bu (by simp[dv, *]),rfl⟩
  skip
  cases q2:cA d 0 100
  ·
   go_enter func181,ntmps181
   go_wp2
   refine wp_loop_rounds 3 ?_
   iterate 3
    rw[rounds_succ];go_wp2_with (go_at_call 19;refine mr (aP _ _ _ _) ?_)
   go_ret
   exact⟨bu (by simp[dv, *]),rfl⟩
  skip
  cases q3:cA g 0 100
  ·
   go_enter func181,ntmps181
   go_wp2
   refine wp_loop_rounds 4 ?_
   iterate 4
    rw[rounds_succ];go_wp2_with (go_at_call 19;refine mr (aP _ _ _ _) ?_)
   go_ret
   exact⟨bu (by simp[dv, *]),rfl⟩
  go_enter func181,ntmps181
  go_wp2
  refine wp_loop_rounds 5 ?_
  iterate 5
   rw[rounds_succ];go_wp2_with (go_at_call 19;refine mr (aP _ _ _ _) ?_)
  go_ret
  exact⟨bu (by simp[dv, *]),rfl⟩
theorem sw(w:World):Sem.run prog (Instr.buildSlice 189 4 #[(0,.func (.func 178) #[] #[]),(1,.func (.func 179) #[] #[]),(2,.func (.func 180) #[] #[]),(3,.func (.func 181) #[] #[])]) w=.ok (.slice (some ⟨w.heap.size,0,none⟩) 4 4) (w.alloc (.cells #[.func (.func 178) #[] #[],.func (.func 179) #[] #[],.func (.func 180) #[] #[],.func (.func 181) #[] #[]] 122)):=by kernel_rfl
theorem de(c h:ByteArray)(v p s d g:Int)(w:World)(hc:c.size<=maxLen)(hh:h.size<=maxLen):
  Calls prog 158 #[.agg (aX c v h p s d g)] w fun e w'=>e=.returned (.bool (dc c h v p s d g))/\Below w.heap.size w w':=by
 have hbc:=sw;cases q0:cF c
 ·
  go_enter func158,ntmps158
  go_wp2_with go_in
  refine wp_loop_rounds 1 ?_;rw[rounds_succ];go_wp2_with (first|(go_at_call 178;refine mr (gO c h v p s d g _ hc hh) ?_)|(go_at_call 179;refine mr (eO c h v p s d g _ hc hh) ?_)|(go_at_call 180;refine mr (gP c h v p s d g _ hc hh) ?_)|(go_at_call 181;refine mr (fM c h v p s d g _ hc hh) ?_)|go_in)
  go_ret
  exact⟨bu (by simp[dc, *]),by repeat (first|exact bR|refine ae ?_ _|refine au ?_)⟩
 ·
  skip
  cases q1:cA v 1 1000000
  ·
   go_enter func158,ntmps158
   go_wp2_with go_in
   refine wp_loop_rounds 2 ?_
   iterate 2
    rw[rounds_succ];go_wp2_with (first|(go_at_call 178;refine mr (gO c h v p s d g _ hc hh) ?_)|(go_at_call 179;refine mr (eO c h v p s d g _ hc hh) ?_)|(go_at_call 180;refine mr (gP c h v p s d g _ hc hh) ?_)|(go_at_call 181;refine mr (fM c h v p s d g _ hc hh) ?_)|go_in)
   go_ret
   exact⟨bu (by simp[dc, *]),by repeat (first|exact bR|refine ae ?_ _|refine au ?_)⟩
  skip
  cases q2:(h.toList.isEmpty||holdB h)
  ·
   go_enter func158,ntmps158
   go_wp2_with go_in
   refine wp_loop_rounds 3 ?_
   iterate 3
    rw[rounds_succ];go_wp2_with (first|(go_at_call 178;refine mr (gO c h v p s d g _ hc hh) ?_)|(go_at_call 179;refine mr (eO c h v p s d g _ hc hh) ?_)|(go_at_call 180;refine mr (gP c h v p s d g _ hc hh) ?_)|(go_at_call 181;refine mr (fM c h v p s d g _ hc hh) ?_)|go_in)
   go_ret
   exact⟨bu (by simp[dc, *]),by repeat (first|exact bR|refine ae ?_ _|refine au ?_)⟩
  skip
  cases q3:dv p s d g
  ·
   go_enter func158,ntmps158
   go_wp2_with go_in
   refine wp_loop_rounds 4 ?_
   iterate 4
    rw[rounds_succ];go_wp2_with (first|(go_at_call 178;refine mr (gO c h v p s d g _ hc hh) ?_)|(go_at_call 179;refine mr (eO c h v p s d g _ hc hh) ?_)|(go_at_call 180;refine mr (gP c h v p s d g _ hc hh) ?_)|(go_at_call 181;refine mr (fM c h v p s d g _ hc hh) ?_)|go_in)
   go_ret
   exact⟨bu (by simp[dc, *]),by repeat (first|exact bR|refine ae ?_ _|refine au ?_)⟩
  go_enter func158,ntmps158
  go_wp2_with go_in
  refine wp_loop_rounds 5 ?_
  iterate 5
   rw[rounds_succ];go_wp2_with (first|(go_at_call 178;refine mr (gO c h v p s d g _ hc hh) ?_)|(go_at_call 179;refine mr (eO c h v p s d g _ hc hh) ?_)|(go_at_call 180;refine mr (gP c h v p s d g _ hc hh) ?_)|(go_at_call 181;refine mr (fM c h v p s d g _ hc hh) ?_)|go_in)
  go_ret
  exact⟨bu (by simp[dc, *]),by repeat (first|exact bR|refine ae ?_ _|refine au ?_)⟩
end Go.Proofs.YtlfnpjcjapljpaaGreatDoor
