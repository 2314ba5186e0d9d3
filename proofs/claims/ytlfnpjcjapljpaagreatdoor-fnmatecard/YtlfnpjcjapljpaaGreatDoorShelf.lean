import Derived.Shelf.Strings.Builder1
import Derived.Shelf.Strings.Builder2
import Derived.Shelf.Strings.OnBuilder
import Derived.Shelf.Strconv.Atoi
import Derived.Shelf.Strconv.Itoa0
import Derived.Shelf.Strconv.Itoa1
import Derived.Shelf.LaysM
import Derived.Shelf.Strconv.Itoa2
import Derived.Shelf.Strconv.Itoa3
import Derived.Shelf.Strconv.AtoiErrFast
import Derived.Shelf.Strconv.ParseIntEmpty
import Derived.Shelf.Strconv.AtoiFail
import Derived.Shelf.Strconv.Clone
import Derived.Shelf.Strconv.SyntaxError
import Derived.Shelf.LaysC
import Derived.Shelf.Strconv.ToError
import Derived.Shelf.Strconv.Lower
import Derived.Shelf.Strconv.ParseUint10
import Derived.Shelf.Strconv.ParseUint10Empty
import Derived.Shelf.Strconv.ParseUint10Any
import Derived.Shelf.Strconv.ParseInt10
import Derived.Shelf.Strconv.AtoiLong
import Derived.Shelf.Strconv.AtoiInnerAll
import Derived.Shelf.Strconv.RangeError
import Derived.Shelf.Strconv.ToErrorRange
import Derived.Shelf.Strconv.AtoiAll
import Derived.Ground.SlgmProg
import Derived.Shelf.SortM.Plain
import Derived.Shelf.SortM.SortNone
import Derived.Test.YtlfnpjcjapljpaaGreatDoorProg
namespace Go.Proofs.Tryz
open Go.Shelf
def lays156_ren:Go.Shelf.Ren:=⟨fun|156=>100|165=>143|166=>144|169=>145|240=>168|241=>169|276=>183|277=>184|n=>n,fun|31=>87|9=>9|3=>3|4=>4|0=>0|20=>20|72=>158|76=>162|70=>156|37=>22|75=>161|127=>181|164=>190|5=>5|80=>164|n=>n,fun|n=>n⟩
theorem lays156:Go.Proofs.Lays.n156 prog lays156_ren:={mixed:=by kernel_rfl,f156:=func100.trans (congrArg some (by kernel_rfl)),f165:=func143.trans (congrArg some (by kernel_rfl)),f166:=func144.trans (congrArg some (by kernel_rfl)),f169:=func145.trans (congrArg some (by kernel_rfl)),f240:=func168.trans (congrArg some (by kernel_rfl)),f241:=func169.trans (congrArg some (by kernel_rfl)),f276:=func183.trans (congrArg some (by kernel_rfl)),f277:=func184.trans (congrArg some (by kernel_rfl)),t0:=underlying0,a0:=isAgg0,z0:=sizeOf0,v0:=zeroValue0,t3:=underlying3,a3:=isAgg3,z3:=sizeOf3,v3:=zeroValue3,t4:=underlying4,a4:=isAgg4,z4:=sizeOf4,v4:=zeroValue4,t9:=underlying9,a9:=isAgg9,z9:=sizeOf9,v9:=zeroValue9,t20:=underlying20,a20:=isAgg20,z20:=sizeOf20,v20:=zeroValue20,t31:=underlying87,a31:=isAgg87,z31:=sizeOf87,v31:=zeroValue87,t37:=underlying22,a37:=isAgg22,z37:=sizeOf22,v37:=zeroValue22,t70:=underlying156,a70:=isAgg156,z70:=sizeOf156,v70:=zeroValue156,t72:=underlying158,a72:=isAgg158,z72:=sizeOf158,v72:=zeroValue158,t75:=underlying161,a75:=isAgg161,z75:=sizeOf161,v75:=zeroValue161,t76:=underlying162,a76:=isAgg162,z76:=sizeOf162,v76:=zeroValue162,t127:=underlying181,a127:=isAgg181,z127:=sizeOf181,v127:=zeroValue181,t164:=underlying190,a164:=isAgg190,z164:=sizeOf190,v164:=zeroValue190}
theorem Builder_Extra_156:Builder.Extra prog lays156_ren:={sizeBuilder:=by kernel_rfl,liesBuilder:=by kernel_rfl,t5:=underlying5,a5:=isAgg5,z5:=sizeOf5,v5:=zeroValue5,infoByte:=by kernel_rfl,cellsByte:=by kernel_rfl,sizeByte:=by kernel_rfl,neB5:=by decide}
open Go.RowKit in
theorem strings_Join_none(a:Option Addr)(c:Nat)(sep:ByteArray)(w:World):
    Calls prog 100 #[.slice a 0 c,.string sep] w fun e w'=>e=.returned (.string ⟨#[]⟩)/\w'=w:=Any.strings_Join_none lays156 Builder_Extra_156 a c sep w
open Go.RowKit in
theorem strings_Join(bk o c:Nat)(xs:List ByteArray)(sep:ByteArray)(w:World)(hcells:∀(j:Nat) x,xs[j]?=some x->w.cell? ⟨bk,o+j,none⟩=some (.string x))(hbk:bk<w.heap.size)(hN:xs.length<=140737488355328)(hcap:xs.length<=c)(hlen:(Lib.join (xs.map (·.data.toList)) sep.data.toList).length<=140737488355328):
    Calls prog 100 #[.slice (some ⟨bk,o,none⟩) xs.length c,.string sep] w fun e w'=>e=.returned (.string ⟨(Lib.join (xs.map (·.data.toList)) sep.data.toList).toArray⟩)/\Below w.heap.size w w':=Any.strings_Join lays156 Builder_Extra_156 bk o c xs sep w hcells hbk hN hcap hlen
def laysM171_ren:Go.Shelf.Ren:=⟨fun|171=>101|243=>146|246=>170|283=>185|284=>186|285=>187|286=>188|129=>200|317=>203|318=>204|319=>205|320=>206|337=>224|338=>225|n=>n,fun|3=>3|9=>9|2=>2|4=>4|171=>193|0=>0|53=>194|37=>22|5=>5|173=>197|212=>214|51=>211|20=>20|213=>215|46=>187|232=>238|233=>239|n=>n,fun|17=>1|18=>4|19=>5|n=>n⟩
theorem laysM171:Go.Proofs.LaysM.n171 prog laysM171_ren:={mixed:=by kernel_rfl,f129:=func200.trans (congrArg some (by kernel_rfl)),f171:=func101.trans (congrArg some (by kernel_rfl)),f243:=func146.trans (congrArg some (by kernel_rfl)),f246:=func170.trans (congrArg some (by kernel_rfl)),f283:=func185.trans (congrArg some (by kernel_rfl)),f284:=func186.trans (congrArg some (by kernel_rfl)),f285:=func187.trans (congrArg some (by kernel_rfl)),f286:=func188.trans (congrArg some (by kernel_rfl)),f317:=func203.trans (congrArg some (by kernel_rfl)),f318:=func204.trans (congrArg some (by kernel_rfl)),f319:=func205.trans (congrArg some (by kernel_rfl)),f320:=func206.trans (congrArg some (by kernel_rfl)),f337:=func224.trans (congrArg some (by kernel_rfl)),f338:=func225.trans (congrArg some (by kernel_rfl)),t0:=underlying0,a0:=isAgg0,z0:=sizeOf0,v0:=zeroValue0,t2:=underlying2,a2:=isAgg2,z2:=sizeOf2,v2:=zeroValue2,t3:=underlying3,a3:=isAgg3,z3:=sizeOf3,v3:=zeroValue3,t4:=underlying4,a4:=isAgg4,z4:=sizeOf4,v4:=zeroValue4,t5:=underlying5,a5:=isAgg5,z5:=sizeOf5,v5:=zeroValue5,t9:=underlying9,a9:=isAgg9,z9:=sizeOf9,v9:=zeroValue9,t20:=underlying20,a20:=isAgg20,z20:=sizeOf20,v20:=zeroValue20,t37:=underlying22,a37:=isAgg22,z37:=sizeOf22,v37:=zeroValue22,t46:=underlying187,a46:=isAgg187,z46:=sizeOf187,v46:=zeroValue187,t51:=underlying211,a51:=isAgg211,z51:=sizeOf211,v51:=zeroValue211,t53:=underlying194,a53:=isAgg194,z53:=sizeOf194,v53:=zeroValue194,t171:=underlying193,a171:=isAgg193,z171:=sizeOf193,v171:=zeroValue193,t173:=underlying197,a173:=isAgg197,z173:=sizeOf197,v173:=zeroValue197,t212:=underlying214,a212:=isAgg214,z212:=sizeOf214,v212:=zeroValue214,t213:=underlying215,a213:=isAgg215,z213:=sizeOf215,t232:=underlying238,a232:=isAgg238,z232:=sizeOf238,v232:=zeroValue238,t233:=underlying239,a233:=isAgg239,z233:=sizeOf239,v233:=zeroValue239,g17:=by kernel_rfl,g18:=by kernel_rfl,g19:=by kernel_rfl,i0:=by kernel_rfl,i2:=by kernel_rfl,i3:=by kernel_rfl,i4:=by kernel_rfl,i5:=by kernel_rfl,i9:=by kernel_rfl,i20:=by kernel_rfl,i37:=by kernel_rfl,i46:=by kernel_rfl,i51:=by kernel_rfl,i53:=by kernel_rfl,i171:=by kernel_rfl,i173:=by kernel_rfl,i212:=by kernel_rfl,i232:=by kernel_rfl,i233:=by kernel_rfl,m17:=by kernel_rfl,m18:=by kernel_rfl,m19:=by kernel_rfl}
open Go.RowKit Go.Sort Go.Lib in
theorem strconv_Itoa (n : Int) (h0 : -9223372036854775808 ≤ n) (h1 : n ≤ 9223372036854775807) (w : World) (htab : Lib.TabIs prog w "internal/strconv.uint64pow10" .u64 Lib.pow10Tab) :
    Calls prog 101 #[.int .i64 n] w fun e w'=>e=.returned (.string ⟨(Lib.itoa n).toArray⟩)/\∃k os,w'=grow (w.drewN k) os:=Any.strconv_Itoa laysM171 n h0 h1 w htab
end Go.Proofs.Tryz
