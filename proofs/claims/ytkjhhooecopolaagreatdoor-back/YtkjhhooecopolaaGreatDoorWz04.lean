import Derived.Test.YtkjhhooecopolaaGreatDoorProg
import Derived.Test.YtkjhhooecopolaaGreatDoorWz03
set_option maxRecDepth 100000
set_option maxHeartbeats 4000000
namespace Go.Proofs
open Go.Shelf
def Tryz.lays169_ren:Go.Shelf.Ren:=⟨fun |169=>121|n=>n,fun |70=>193|9=>9|0=>0|72=>196|37=>194|127=>251|3=>3|5=>5|n=>n,fun |n=>n⟩
theorem Tryz.lays169:Go.Proofs.Lays.n169 Tryz.prog Tryz.lays169_ren:={
 mixed:=by kernel_rfl
 f169:=Tryz.func121.trans (au some (by kernel_rfl))
 t0:=Tryz.underlying0
 a0:=Tryz.isAgg0
 z0:=Tryz.sizeOf0
 v0:=Tryz.zeroValue0
 t3:=Tryz.underlying3
 a3:=Tryz.isAgg3
 z3:=Tryz.sizeOf3
 v3:=Tryz.zeroValue3
 t9:=Tryz.underlying9
 a9:=Tryz.isAgg9
 z9:=Tryz.sizeOf9
 v9:=Tryz.zeroValue9
 t37:=Tryz.underlying194
 a37:=Tryz.isAgg194
 z37:=Tryz.sizeOf194
 v37:=Tryz.zeroValue194
 t70:=Tryz.underlying193
 a70:=Tryz.isAgg193
 z70:=Tryz.sizeOf193
 v70:=Tryz.zeroValue193
 t72:=Tryz.underlying196
 a72:=Tryz.isAgg196
 z72:=Tryz.sizeOf196
 v72:=Tryz.zeroValue196
 t127:=Tryz.underlying251
 a127:=Tryz.isAgg251
 z127:=Tryz.sizeOf251
 v127:=Tryz.zeroValue251}
theorem Tryz.Builder_Extra_169:Builder.Extra Tryz.prog Tryz.lays169_ren:={
 sizeBuilder:=by kernel_rfl
 liesBuilder:=by kernel_rfl
 t5:=Tryz.underlying5
 a5:=Tryz.isAgg5
 z5:=Tryz.sizeOf5
 v5:=Tryz.zeroValue5
 infoByte:=by kernel_rfl
 cellsByte:=by kernel_rfl
 sizeByte:=by kernel_rfl
 neB5:=by decide}
open Go.RowKit in
open Go.RowKit in
open Go.RowKit in
theorem Tryz.Builder_String_any(B b:Nat)(l:List UInt8)(w:World)(h:Lib.IsBuilder 196 5 B b (Lib.byteCells l) w)(hBw:B<=w.heap.size):
  Calls Tryz.prog 121 #[.pointer (some ⟨b,0,none⟩)] w fun e w'=>e=.returned (.string ⟨l.toArray⟩)/\Below B w w':=Any.Builder_String_any Tryz.lays169 Tryz.Builder_Extra_169 B b l w h hBw
open Go.RowKit in
open Go.RowKit in
def Tryz.lays156_ren:Go.Shelf.Ren:=⟨fun |156=>103|165=>154|166=>119|169=>121|240=>177|241=>197|276=>218|277=>239|n=>n,fun |31=>164|9=>9|3=>3|4=>4|0=>0|20=>20|72=>196|76=>201|70=>193|37=>194|75=>199|127=>251|164=>290|5=>5|80=>166|n=>n,fun |n=>n⟩
theorem Tryz.lays156:Go.Proofs.Lays.n156 Tryz.prog Tryz.lays156_ren:={
 mixed:=by kernel_rfl
 f156:=Tryz.func103.trans (au some (by kernel_rfl))
 f165:=Tryz.func154.trans (au some (by kernel_rfl))
 f166:=Tryz.func119.trans (au some (by kernel_rfl))
 f169:=Tryz.func121.trans (au some (by kernel_rfl))
 f240:=Tryz.func177.trans (au some (by kernel_rfl))
 f241:=Tryz.func197.trans (au some (by kernel_rfl))
 f276:=Tryz.func218.trans (au some (by kernel_rfl))
 f277:=Tryz.func239.trans (au some (by kernel_rfl))
 t0:=Tryz.underlying0
 a0:=Tryz.isAgg0
 z0:=Tryz.sizeOf0
 v0:=Tryz.zeroValue0
 t3:=Tryz.underlying3
 a3:=Tryz.isAgg3
 z3:=Tryz.sizeOf3
 v3:=Tryz.zeroValue3
 t4:=Tryz.underlying4
 a4:=Tryz.isAgg4
 z4:=Tryz.sizeOf4
 v4:=Tryz.zeroValue4
 t9:=Tryz.underlying9
 a9:=Tryz.isAgg9
 z9:=Tryz.sizeOf9
 v9:=Tryz.zeroValue9
 t20:=Tryz.underlying20
 a20:=Tryz.isAgg20
 z20:=Tryz.sizeOf20
 v20:=Tryz.zeroValue20
 t31:=Tryz.underlying164
 a31:=Tryz.isAgg164
 z31:=Tryz.sizeOf164
 v31:=Tryz.zeroValue164
 t37:=Tryz.underlying194
 a37:=Tryz.isAgg194
 z37:=Tryz.sizeOf194
 v37:=Tryz.zeroValue194
 t70:=Tryz.underlying193
 a70:=Tryz.isAgg193
 z70:=Tryz.sizeOf193
 v70:=Tryz.zeroValue193
 t72:=Tryz.underlying196
 a72:=Tryz.isAgg196
 z72:=Tryz.sizeOf196
 v72:=Tryz.zeroValue196
 t75:=Tryz.underlying199
 a75:=Tryz.isAgg199
 z75:=Tryz.sizeOf199
 v75:=Tryz.zeroValue199
 t76:=Tryz.underlying201
 a76:=Tryz.isAgg201
 z76:=Tryz.sizeOf201
 v76:=Tryz.zeroValue201
 t127:=Tryz.underlying251
 a127:=Tryz.isAgg251
 z127:=Tryz.sizeOf251
 v127:=Tryz.zeroValue251
 t164:=Tryz.underlying290
 a164:=Tryz.isAgg290
 z164:=Tryz.sizeOf290
 v164:=Tryz.zeroValue290}
theorem Tryz.Builder_Extra_156:Builder.Extra Tryz.prog Tryz.lays156_ren:={
 sizeBuilder:=by kernel_rfl
 liesBuilder:=by kernel_rfl
 t5:=Tryz.underlying5
 a5:=Tryz.isAgg5
 z5:=Tryz.sizeOf5
 v5:=Tryz.zeroValue5
 infoByte:=by kernel_rfl
 cellsByte:=by kernel_rfl
 sizeByte:=by kernel_rfl
 neB5:=by decide}
open Go.RowKit in
theorem Tryz.strings_Join_none(a:Option Addr)(c:Nat)(sep:ByteArray)(w:World):
  Calls Tryz.prog 103 #[.slice a 0 c,.string sep] w fun e w'=>e=.returned (.string ⟨#[]⟩)/\w'=w:=Any.strings_Join_none Tryz.lays156 Tryz.Builder_Extra_156 a c sep w
open Go.RowKit in
theorem Tryz.strings_Join(bk o c:Nat)(xs:List ByteArray)(sep:ByteArray)(w:World)(hcells:∀(j:Nat) x,xs[j]?=some x->w.cell? ⟨bk,o+j,none⟩=some (.string x))(hbk:bk<w.heap.size)(hN:xs.length<=140737488355328)(hcap:xs.length<=c)(hlen:(Lib.join (xs.map (·.data.toList)) sep.data.toList).length<=140737488355328):
  Calls Tryz.prog 103 #[.slice (some ⟨bk,o,none⟩) xs.length c,.string sep] w fun e w'=>e=.returned (.string ⟨(Lib.join (xs.map (·.data.toList)) sep.data.toList).toArray⟩)/\Below w.heap.size w w':=Any.strings_Join Tryz.lays156 Tryz.Builder_Extra_156 bk o c xs sep w hcells hbk hN hcap hlen
def Tryz.lays125_ren:Go.Shelf.Ren:=⟨fun |125=>164|128=>208|129=>209|n=>n,fun |46=>238|3=>3|51=>280|53=>282|4=>4|5=>5|9=>9|n=>n,fun |n=>n⟩
theorem Tryz.lays125:Go.Proofs.Lays.n125 Tryz.prog Tryz.lays125_ren:={
 mixed:=by kernel_rfl
 f125:=Tryz.func164.trans (au some (by kernel_rfl))
 f128:=Tryz.func208.trans (au some (by kernel_rfl))
 f129:=Tryz.func209.trans (au some (by kernel_rfl))
 t3:=Tryz.underlying3
 a3:=Tryz.isAgg3
 z3:=Tryz.sizeOf3
 v3:=Tryz.zeroValue3
 t4:=Tryz.underlying4
 a4:=Tryz.isAgg4
 z4:=Tryz.sizeOf4
 v4:=Tryz.zeroValue4
 t5:=Tryz.underlying5
 a5:=Tryz.isAgg5
 z5:=Tryz.sizeOf5
 v5:=Tryz.zeroValue5
 t9:=Tryz.underlying9
 a9:=Tryz.isAgg9
 z9:=Tryz.sizeOf9
 v9:=Tryz.zeroValue9
 t46:=Tryz.underlying238
 a46:=Tryz.isAgg238
 z46:=Tryz.sizeOf238
 v46:=Tryz.zeroValue238
 t51:=Tryz.underlying280
 a51:=Tryz.isAgg280
 z51:=Tryz.sizeOf280
 v51:=Tryz.zeroValue280
 t53:=Tryz.underlying282
 a53:=Tryz.isAgg282
 z53:=Tryz.sizeOf282
 v53:=Tryz.zeroValue282}
theorem Tryz.bits_Len(x:Int)(w:World)(h0:0<=x)(h1:x<=18446744073709551615):
  Calls Tryz.prog 164 #[.int .u64 x] w fun e w'=>e=.returned (.int .i64 (Lib.bitLen x.toNat))/\w'=w:=Any.bits_Len Tryz.lays125 x w h0 h1
open Go.RowKit in
open Go.RowKit in
open Go.RowKit in
open Go.RowKit in
open Go.RowKit in
open Go.RowKit in
open Go.RowKit in
def Tryz.lays172_ren:Go.Shelf.Ren:=⟨fun |172=>147|244=>193|245=>194|247=>233|279=>234|280=>235|281=>236|282=>237|287=>283|316=>284|171=>146|205=>285|321=>302|322=>303|243=>192|246=>232|283=>279|284=>280|285=>281|286=>282|129=>209|317=>298|318=>299|319=>300|320=>301|337=>307|338=>308|n=>n,fun |9=>9|3=>3|75=>199|76=>201|4=>4|5=>5|167=>301|37=>194|0=>0|85=>302|2=>2|168=>304|53=>282|175=>338|46=>238|210=>342|127=>251|145=>361|143=>359|21=>21|171=>334|173=>336|212=>356|51=>280|20=>20|213=>357|232=>365|233=>366|80=>166|n=>n,fun |15=>0|16=>1|17=>3|18=>4|19=>5|n=>n⟩
open Go.RowKit in
open Go.Lib in
open Go.Lib in
open Go.Lib in
open Go.Lib in
open Go.RowKit Go.Sort Go.Lib in
def Tryz.laysM246_ren:Go.Shelf.Ren:=⟨fun |246=>232|283=>279|284=>280|285=>281|286=>282|129=>209|317=>298|318=>299|319=>300|320=>301|337=>307|338=>308|n=>n,fun |2=>2|3=>3|9=>9|4=>4|171=>334|0=>0|53=>282|37=>194|5=>5|173=>336|212=>356|51=>280|20=>20|213=>357|46=>238|232=>365|233=>366|n=>n,fun |17=>3|18=>4|19=>5|n=>n⟩
open Go.RowKit Go.Sort Go.Lib in
open Go.RowKit Go.Sort Go.Lib in
def Tryz.laysM243_ren:Go.Shelf.Ren:=⟨fun |243=>192|246=>232|283=>279|284=>280|285=>281|286=>282|129=>209|317=>298|318=>299|319=>300|320=>301|337=>307|338=>308|n=>n,fun |3=>3|9=>9|2=>2|4=>4|171=>334|0=>0|53=>282|37=>194|5=>5|173=>336|212=>356|51=>280|20=>20|213=>357|46=>238|232=>365|233=>366|n=>n,fun |17=>3|18=>4|19=>5|n=>n⟩
open Go.RowKit Go.Sort Go.Lib in
open Go.RowKit Go.Sort Go.Lib in
def Tryz.laysM171_ren:Go.Shelf.Ren:=⟨fun |171=>146|243=>192|246=>232|283=>279|284=>280|285=>281|286=>282|129=>209|317=>298|318=>299|319=>300|320=>301|337=>307|338=>308|n=>n,fun |3=>3|9=>9|2=>2|4=>4|171=>334|0=>0|53=>282|37=>194|5=>5|173=>336|212=>356|51=>280|20=>20|213=>357|46=>238|232=>365|233=>366|n=>n,fun |17=>3|18=>4|19=>5|n=>n⟩
theorem Tryz.laysM171:Go.Proofs.LaysM.n171 Tryz.prog Tryz.laysM171_ren:={
 mixed:=by kernel_rfl
 f129:=Tryz.func209.trans (au some (by kernel_rfl))
 f171:=Tryz.func146.trans (au some (by kernel_rfl))
 f243:=Tryz.func192.trans (au some (by kernel_rfl))
 f246:=Tryz.func232.trans (au some (by kernel_rfl))
 f283:=Tryz.func279.trans (au some (by kernel_rfl))
 f284:=Tryz.func280.trans (au some (by kernel_rfl))
 f285:=Tryz.func281.trans (au some (by kernel_rfl))
 f286:=Tryz.func282.trans (au some (by kernel_rfl))
 f317:=Tryz.func298.trans (au some (by kernel_rfl))
 f318:=Tryz.func299.trans (au some (by kernel_rfl))
 f319:=Tryz.func300.trans (au some (by kernel_rfl))
 f320:=Tryz.func301.trans (au some (by kernel_rfl))
 f337:=Tryz.func307.trans (au some (by kernel_rfl))
 f338:=Tryz.func308.trans (au some (by kernel_rfl))
 t0:=Tryz.underlying0
 a0:=Tryz.isAgg0
 z0:=Tryz.sizeOf0
 v0:=Tryz.zeroValue0
 t2:=Tryz.underlying2
 a2:=Tryz.isAgg2
 z2:=Tryz.sizeOf2
 v2:=Tryz.zeroValue2
 t3:=Tryz.underlying3
 a3:=Tryz.isAgg3
 z3:=Tryz.sizeOf3
 v3:=Tryz.zeroValue3
 t4:=Tryz.underlying4
 a4:=Tryz.isAgg4
 z4:=Tryz.sizeOf4
 v4:=Tryz.zeroValue4
 t5:=Tryz.underlying5
 a5:=Tryz.isAgg5
 z5:=Tryz.sizeOf5
 v5:=Tryz.zeroValue5
 t9:=Tryz.underlying9
 a9:=Tryz.isAgg9
 z9:=Tryz.sizeOf9
 v9:=Tryz.zeroValue9
 t20:=Tryz.underlying20
 a20:=Tryz.isAgg20
 z20:=Tryz.sizeOf20
 v20:=Tryz.zeroValue20
 t37:=Tryz.underlying194
 a37:=Tryz.isAgg194
 z37:=Tryz.sizeOf194
 v37:=Tryz.zeroValue194
 t46:=Tryz.underlying238
 a46:=Tryz.isAgg238
 z46:=Tryz.sizeOf238
 v46:=Tryz.zeroValue238
 t51:=Tryz.underlying280
 a51:=Tryz.isAgg280
 z51:=Tryz.sizeOf280
 v51:=Tryz.zeroValue280
 t53:=Tryz.underlying282
 a53:=Tryz.isAgg282
 z53:=Tryz.sizeOf282
 v53:=Tryz.zeroValue282
 t171:=Tryz.underlying334
 a171:=Tryz.isAgg334
 z171:=Tryz.sizeOf334
 v171:=Tryz.zeroValue334
 t173:=Tryz.underlying336
 a173:=Tryz.isAgg336
 z173:=Tryz.sizeOf336
 v173:=Tryz.zeroValue336
 t212:=Tryz.underlying356
 a212:=Tryz.isAgg356
 z212:=Tryz.sizeOf356
 v212:=Tryz.zeroValue356
 t213:=Tryz.underlying357
 a213:=Tryz.isAgg357
 z213:=Tryz.sizeOf357
 t232:=Tryz.underlying365
 a232:=Tryz.isAgg365
 z232:=Tryz.sizeOf365
 v232:=Tryz.zeroValue365
 t233:=Tryz.underlying366
 a233:=Tryz.isAgg366
 z233:=Tryz.sizeOf366
 v233:=Tryz.zeroValue366
 g17:=by kernel_rfl
 g18:=by kernel_rfl
 g19:=by kernel_rfl
 i0:=by kernel_rfl
 i2:=by kernel_rfl
 i3:=by kernel_rfl
 i4:=by kernel_rfl
 i5:=by kernel_rfl
 i9:=by kernel_rfl
 i20:=by kernel_rfl
 i37:=by kernel_rfl
 i46:=by kernel_rfl
 i51:=by kernel_rfl
 i53:=by kernel_rfl
 i171:=by kernel_rfl
 i173:=by kernel_rfl
 i212:=by kernel_rfl
 i232:=by kernel_rfl
 i233:=by kernel_rfl
 m17:=by kernel_rfl
 m18:=by kernel_rfl
 m19:=by kernel_rfl}
open Go.RowKit Go.Sort Go.Lib in
theorem Tryz.strconv_Itoa(n:Int)(h0: -9223372036854775808<=n)(h1:n<=9223372036854775807)(w:World)(aco:Lib.TabIs Tryz.prog w "internal/strconv.uint64pow10" .u64 Lib.pow10Tab):
  Calls Tryz.prog 146 #[.int .i64 n] w fun e w'=>e=.returned (.string ⟨(Lib.itoa n).toArray⟩)/\∃k os,w'=grow (w.drewN k) os:=Any.strconv_Itoa Tryz.laysM171 n h0 h1 w aco
open Go.RowKit Go.Sort Go.Lib in
open Go.RowKit in
open Go.RowKit in
open Go.RowKit in
open Go.RowKit in
open Go.RowKit in
open Go.RowKit in
open Go.RowKit in
open Go.RowKit in
open Go.RowKit in
open Go.RowKit in
open Go.RowKit in
open Go.RowKit in
open Go.RowKit in
open Go.RowKit in
open Go.RowKit in
open Go.RowKit in
def Tryz.laysC172_ren:Go.Shelf.Ren:=⟨fun |172=>147|244=>193|245=>194|247=>233|279=>234|280=>235|281=>236|282=>237|287=>283|316=>284|171=>146|205=>285|321=>302|322=>303|243=>192|246=>232|283=>279|284=>280|285=>281|286=>282|129=>209|317=>298|318=>299|319=>300|320=>301|337=>307|338=>308|n=>n,fun |9=>9|3=>3|75=>199|76=>201|4=>4|5=>5|167=>301|37=>194|0=>0|85=>302|2=>2|168=>304|53=>282|175=>338|46=>238|210=>342|127=>251|145=>361|143=>359|21=>21|171=>334|173=>336|212=>356|51=>280|20=>20|213=>357|232=>365|233=>366|80=>166|n=>n,fun |15=>0|16=>1|17=>3|18=>4|19=>5|n=>n⟩
theorem Tryz.laysC172:Go.Proofs.LaysC.n172 Tryz.prog Tryz.laysC172_ren:={
 mixed:=by kernel_rfl
 f129:=Tryz.func209.trans (au some (by kernel_rfl))
 f171:=Tryz.func146.trans (au some (by kernel_rfl))
 f172:=Tryz.func147.trans (au some (by kernel_rfl))
 f205:=Tryz.func285.trans (au some (by kernel_rfl))
 f243:=Tryz.func192.trans (au some (by kernel_rfl))
 f244:=Tryz.func193.trans (au some (by kernel_rfl))
 f245:=Tryz.func194.trans (au some (by kernel_rfl))
 f246:=Tryz.func232.trans (au some (by kernel_rfl))
 f247:=Tryz.func233.trans (au some (by kernel_rfl))
 f279:=Tryz.func234.trans (au some (by kernel_rfl))
 f280:=Tryz.func235.trans (au some (by kernel_rfl))
 f281:=Tryz.func236.trans (au some (by kernel_rfl))
 f282:=Tryz.func237.trans (au some (by kernel_rfl))
 f283:=Tryz.func279.trans (au some (by kernel_rfl))
 f284:=Tryz.func280.trans (au some (by kernel_rfl))
 f285:=Tryz.func281.trans (au some (by kernel_rfl))
 f286:=Tryz.func282.trans (au some (by kernel_rfl))
 f287:=Tryz.func283.trans (au some (by kernel_rfl))
 f316:=Tryz.func284.trans (au some (by kernel_rfl))
 f317:=Tryz.func298.trans (au some (by kernel_rfl))
 f318:=Tryz.func299.trans (au some (by kernel_rfl))
 f319:=Tryz.func300.trans (au some (by kernel_rfl))
 f320:=Tryz.func301.trans (au some (by kernel_rfl))
 f321:=Tryz.func302.trans (au some (by kernel_rfl))
 f322:=Tryz.func303.trans (au some (by kernel_rfl))
 f337:=Tryz.func307.trans (au some (by kernel_rfl))
 f338:=Tryz.func308.trans (au some (by kernel_rfl))
 t0:=Tryz.underlying0
 a0:=Tryz.isAgg0
 z0:=Tryz.sizeOf0
 v0:=Tryz.zeroValue0
 t2:=Tryz.underlying2
 a2:=Tryz.isAgg2
 z2:=Tryz.sizeOf2
 v2:=Tryz.zeroValue2
 t3:=Tryz.underlying3
 a3:=Tryz.isAgg3
 z3:=Tryz.sizeOf3
 v3:=Tryz.zeroValue3
 t4:=Tryz.underlying4
 a4:=Tryz.isAgg4
 z4:=Tryz.sizeOf4
 v4:=Tryz.zeroValue4
 t5:=Tryz.underlying5
 a5:=Tryz.isAgg5
 z5:=Tryz.sizeOf5
 v5:=Tryz.zeroValue5
 t9:=Tryz.underlying9
 a9:=Tryz.isAgg9
 z9:=Tryz.sizeOf9
 v9:=Tryz.zeroValue9
 t20:=Tryz.underlying20
 a20:=Tryz.isAgg20
 z20:=Tryz.sizeOf20
 v20:=Tryz.zeroValue20
 t21:=Tryz.underlying21
 a21:=Tryz.isAgg21
 z21:=Tryz.sizeOf21
 v21:=Tryz.zeroValue21
 t37:=Tryz.underlying194
 a37:=Tryz.isAgg194
 z37:=Tryz.sizeOf194
 v37:=Tryz.zeroValue194
 t46:=Tryz.underlying238
 a46:=Tryz.isAgg238
 z46:=Tryz.sizeOf238
 v46:=Tryz.zeroValue238
 t51:=Tryz.underlying280
 a51:=Tryz.isAgg280
 z51:=Tryz.sizeOf280
 v51:=Tryz.zeroValue280
 t53:=Tryz.underlying282
 a53:=Tryz.isAgg282
 z53:=Tryz.sizeOf282
 v53:=Tryz.zeroValue282
 t75:=Tryz.underlying199
 a75:=Tryz.isAgg199
 z75:=Tryz.sizeOf199
 v75:=Tryz.zeroValue199
 t76:=Tryz.underlying201
 a76:=Tryz.isAgg201
 z76:=Tryz.sizeOf201
 v76:=Tryz.zeroValue201
 t85:=Tryz.underlying302
 a85:=Tryz.isAgg302
 z85:=Tryz.sizeOf302
 v85:=Tryz.zeroValue302
 t127:=Tryz.underlying251
 a127:=Tryz.isAgg251
 z127:=Tryz.sizeOf251
 v127:=Tryz.zeroValue251
 t143:=Tryz.underlying359
 a143:=Tryz.isAgg359
 z143:=Tryz.sizeOf359
 v143:=Tryz.zeroValue359
 t145:=Tryz.underlying361
 a145:=Tryz.isAgg361
 z145:=Tryz.sizeOf361
 v145:=Tryz.zeroValue361
 t167:=Tryz.underlying301
 a167:=Tryz.isAgg301
 z167:=Tryz.sizeOf301
 v167:=Tryz.zeroValue301
 t168:=Tryz.underlying304
 a168:=Tryz.isAgg304
 z168:=Tryz.sizeOf304
 v168:=Tryz.zeroValue304
 t171:=Tryz.underlying334
 a171:=Tryz.isAgg334
 z171:=Tryz.sizeOf334
 v171:=Tryz.zeroValue334
 t173:=Tryz.underlying336
 a173:=Tryz.isAgg336
 z173:=Tryz.sizeOf336
 v173:=Tryz.zeroValue336
 t175:=Tryz.underlying338
 a175:=Tryz.isAgg338
 z175:=Tryz.sizeOf338
 v175:=Tryz.zeroValue338
 t210:=Tryz.underlying342
 a210:=Tryz.isAgg342
 z210:=Tryz.sizeOf342
 v210:=Tryz.zeroValue342
 t212:=Tryz.underlying356
 a212:=Tryz.isAgg356
 z212:=Tryz.sizeOf356
 v212:=Tryz.zeroValue356
 t213:=Tryz.underlying357
 a213:=Tryz.isAgg357
 z213:=Tryz.sizeOf357
 t232:=Tryz.underlying365
 a232:=Tryz.isAgg365
 z232:=Tryz.sizeOf365
 v232:=Tryz.zeroValue365
 t233:=Tryz.underlying366
 a233:=Tryz.isAgg366
 z233:=Tryz.sizeOf366
 v233:=Tryz.zeroValue366
 g15:=by kernel_rfl
 g16:=by kernel_rfl
 g17:=by kernel_rfl
 g18:=by kernel_rfl
 g19:=by kernel_rfl
 t80:=Tryz.underlying166
 a80:=Tryz.isAgg166
 z80:=Tryz.sizeOf166
 v80:=Tryz.zeroValue166
 i0:=by kernel_rfl
 i2:=by kernel_rfl
 i3:=by kernel_rfl
 i4:=by kernel_rfl
 i5:=by kernel_rfl
 i9:=by kernel_rfl
 i20:=by kernel_rfl
 i21:=by kernel_rfl
 i37:=by kernel_rfl
 i46:=by kernel_rfl
 i51:=by kernel_rfl
 i53:=by kernel_rfl
 i75:=by kernel_rfl
 i76:=by kernel_rfl
 i80:=by kernel_rfl
 i85:=by kernel_rfl
 i127:=by kernel_rfl
 i143:=by kernel_rfl
 i145:=by kernel_rfl
 i167:=by kernel_rfl
 i168:=by kernel_rfl
 i171:=by kernel_rfl
 i173:=by kernel_rfl
 i175:=by kernel_rfl
 i210:=by kernel_rfl
 i212:=by kernel_rfl
 i232:=by kernel_rfl
 i233:=by kernel_rfl
 m15:=by kernel_rfl
 m16:=by kernel_rfl
 m17:=by kernel_rfl
 m18:=by kernel_rfl
 m19:=by kernel_rfl
 c0:=by kernel_rfl
 c2:=by kernel_rfl
 c3:=by kernel_rfl
 c4:=by kernel_rfl
 c5:=by kernel_rfl
 c9:=by kernel_rfl
 c20:=by kernel_rfl
 c21:=by kernel_rfl
 c37:=by kernel_rfl
 c46:=by kernel_rfl
 c51:=by kernel_rfl
 c53:=by kernel_rfl
 c75:=by kernel_rfl
 c76:=by kernel_rfl
 c80:=by kernel_rfl
 c85:=by kernel_rfl
 c127:=by kernel_rfl
 c143:=by kernel_rfl
 c145:=by kernel_rfl
 c167:=by kernel_rfl
 c168:=by kernel_rfl
 c171:=by kernel_rfl
 c173:=by kernel_rfl
 c175:=by kernel_rfl
 c210:=by kernel_rfl
 c212:=by kernel_rfl
 c213:=by kernel_rfl
 c232:=by kernel_rfl
 c233:=by kernel_rfl}
open Go.RowKit in
theorem Tryz.strconv_Atoi_ok(s:ByteArray)(hmax:s.size<=9223372036854775806)(v:Int)(h:Lib.atoiAll s.data.toList=.ok v)(w:World):
  Calls Tryz.prog 147 #[.string s] w fun e w'=>e=.returned (.tuple #[.int .i64 v,.nilIface])/\(w'=w\/∃t,w'=Lib.bytesWorld w 5 t):=Any.strconv_Atoi_ok Tryz.laysC172 s hmax v h w
open Go.RowKit in
open Go.RowKit in
open Go.RowKit in
theorem Tryz.strconv_Atoi_syntax_var(s:ByteArray)(hlim:s.size<=281474976710656)(h:Lib.atoiAll s.data.toList=.«syntax»)(tp:TypeId)(p:Value)(w:World)(hvar:w.var? Tryz.prog "strconv.ErrSyntax" =some #[.iface tp p]):
  Calls Tryz.prog 147 #[.string s] w fun e w'=>∃N,e=.returned (.tuple #[.int .i64 0,.iface 304 (.pointer (some ⟨N,0,none⟩))])/\w.heap.size<=N/\w'.heap[N]?=some (.cells #[.string ⟨#[65,116,111,105]⟩,.string s,.iface tp p] 342 (0,0))/\Below w.heap.size w w':=Any.strconv_Atoi_syntax_var Tryz.laysC172 s hlim h tp p w hvar
open Go.RowKit in
theorem Tryz.strconv_Atoi_range_var(s:ByteArray)(hlim:s.size<=281474976710656)(h:Lib.atoiAll s.data.toList=.range)(tp:TypeId)(p:Value)(w:World)(hvar:w.var? Tryz.prog "strconv.ErrRange" =some #[.iface tp p]):
  Calls Tryz.prog 147 #[.string s] w fun e w'=>∃N,e=.returned (.tuple #[.int .i64 (Lib.atoiSat s.data.toList),.iface 304 (.pointer (some ⟨N,0,none⟩))])/\w.heap.size<=N/\w'.heap[N]?=some (.cells #[.string ⟨#[65,116,111,105]⟩,.string s,.iface tp p] 342 (0,0))/\Below w.heap.size w w':=Any.strconv_Atoi_range_var Tryz.laysC172 s hlim h tp p w hvar
end Go.Proofs
namespace Go.Proofs.YtkjhhooecopolaaGreatDoor
open Go.RowKit
theorem Rk(s:ByteArray)(hs:s.size<=400)(w:World)(hG:Gl w):
  Calls Tryz.prog 147 #[.string s] w fun e w'=>∃v o,e=.returned (.tuple #[.int .i64 v,o])/\Below w.heap.size w w'/\
   ((Lib.atoiAll s.data.toList=.ok v/\o=.nilIface)\/((∀v,Lib.atoiAll s.data.toList≠.ok v)/\∃t p,o=.iface t p)):=by
 cases h:Lib.atoiAll s.data.toList
 ·rename_i v
  refine(Tryz.strconv_Atoi_ok s (by omega) v h w).mono ?_
  rintro e w' ⟨rfl,hw⟩;refine⟨v,_,rfl,?_,ag ⟨rfl,rfl⟩⟩;rcases hw with rfl|⟨t,rfl⟩
  ·exact Below.refl _ _
  ·exact Lib.bytesWorld_below _ _ _
 ·obtain⟨tp,p,hv⟩:=hG.es;refine(Tryz.strconv_Atoi_syntax_var s (by omega) h tp p w hv).mono ?_
  rintro e w' ⟨N,rfl,_,_,hb⟩;exact⟨_,_,rfl,hb,ah ⟨fun v hv=>(by cases hv),_,_,rfl⟩⟩
 ·obtain⟨tp,p,hv⟩:=hG.er;refine(Tryz.strconv_Atoi_range_var s (by omega) h tp p w hv).mono ?_
  rintro e w' ⟨N,rfl,_,_,hb⟩;exact⟨_,_,rfl,hb,ah ⟨fun v hv=>(by cases hv),_,_,rfl⟩⟩
theorem acp{c:UInt8}(h:Pl.bz c=true):Lib.digitVal c=some (c.toNat-48):=by
 have h1:=gh h;unfold Lib.digitVal;simp[h1]
theorem Rl:∀(l:List UInt8)(acc:Nat),(∀c∈l,Pl.bz c=true)->Lib.decFrom acc l=some (l.foldl (fun a c=>10*a+(c.toNat-48)) acc)
 |[],acc,_=>rfl
 |c::r,acc,h=>by
  have hc:=acp (h c (by simp))
  have ih:=Rl r (10*acc+(c.toNat-48)) (fun x hx=>h x (by simp[hx]))
  simp only[Lib.decFrom,hc,rq];rw[<-ih];simp[Nat.mul_comm]
theorem Rm(l:List UInt8)(hl:l≠[])(h:∀c∈l,Pl.bz c=true):Lib.decNat l=some (Pl.rI l):=by
 unfold Lib.decNat Pl.rI;rw[af (by simpa using hl)]
 exact Rl l 0 h
theorem Rn(l:List UInt8):∀c∈l.takeWhile Pl.bz,Pl.bz c=true:=by
 induction l with
 |nil=>intro c hc;simp at hc
 |cons a r ih=>
  intro c hc;rw[wY] at hc;split at hc
  ·rcases aP.1 hc with rfl|h
   ·assumption
   ·exact ih c h
  ·simp at hc
def tZ(j:Nat):Array Value:= #[.int .i64 0,.string ⟨#[]⟩,.int .i64 0,.int .i64 j]
def mN(neg:Bool)(c:UInt8)(r:List UInt8):List UInt8:=if neg then c::r.takeWhile Pl.bz else(c::r).takeWhile Pl.bz
def jV(neg:Bool)(c:UInt8)(r:List UInt8):List UInt8:=if neg then r.takeWhile Pl.bz else(c::r).takeWhile Pl.bz
def Cu(neg:Bool)(c:UInt8)(r:List UInt8):Int:=if neg then -(Pl.rI (jV neg c r):Int) else(Pl.rI (jV neg c r):Int)
theorem Ro(neg:Bool)(c:UInt8)(r:List UInt8)(hc:if neg then c.toNat=45 else Pl.bz c=true)(hd:jV neg c r≠[]):
  Lib.atoi (mN neg c r)=some (Cu neg c r):=by
 cases neg
 ·have h0:Pl.bz c=true:=by simpa using hc
  have h1:=gh h0;have e:mN false c r=c::r.takeWhile Pl.bz:=by simp[mN,h0]
  have e2:jV false c r=c::r.takeWhile Pl.bz:=by simp[jV,h0]
  have h45:(c == 45)=false:=by
   rw[yU];intro h;rw[h] at h1;simp at h1
  have h43:(c == 43)=false:=by
   rw[yU];intro h;rw[h] at h1;simp at h1
  have hn:=Rm (c::r.takeWhile Pl.bz) (by simp) (by
   have:=Rn (c::r);simpa[h0] using this)
  rw[e];unfold Cu;rw[e2];simp only[Lib.atoi,h45,h43,hn];simp
 ·have h0:c.toNat=45:=by simpa using hc
  have h45:(c == 45)=true:=by
   rw[Qn];exact aaP.1 h0
  have hd':r.takeWhile Pl.bz≠[]:=by simpa[jV] using hd
  have hn:=Rm (r.takeWhile Pl.bz) hd' (Rn r);have e:mN true c r=c::r.takeWhile Pl.bz:=rfl;have e2:jV true c r=r.takeWhile Pl.bz:=rfl;rw[e];unfold Cu;rw[e2];simp only[Lib.atoi,h45,hn];simp
theorem Rp(neg:Bool)(c:UInt8)(r:List UInt8):(mN neg c r).length<=(jV neg c r).length+1:=by
 cases neg<;>simp[mN,jV]
theorem Rq(neg:Bool)(c:UInt8)(r:List UInt8)(j:Nat)(hc:if neg then c.toNat=45 else Pl.bz c=true):
  Pl.cQ (c::r) j=if jV neg c r=[]\/9<(jV neg c r).length then⟨120,[],0,j⟩ else⟨110,mN neg c r,Cu neg c r,j⟩:=by
 cases neg
 ·have h0:Pl.bz c=true:=by simpa using hc
  have h1:=gh h0;have h2:¬(Pl.isLet c=true):=by
   intro h;have:=gh h;omega
  simp only[Pl.cQ];rw[af (by omega),af h2,af (by omega)]
  rfl
 ·have h0:c.toNat=45:=by simpa using hc
  have h2:¬(Pl.isLet c=true):=by
   intro h;have:=gh h;omega
  simp only[Pl.cQ];rw[af (by omega),af h2,aj h0]
  rfl
theorem Ru(neg:Bool)(c:UInt8)(r:List UInt8)(j:Nat)(v:Int)(hc:if neg then c.toNat=45 else Pl.bz c=true)
  (h:Lib.atoiAll (mN neg c r)=.ok v)(h9:(jV neg c r).length<=9):
  fq (Pl.cQ (c::r) j)= #[.int .i64 3,.string ⟨(mN neg c r).toArray⟩,.int .i64 v,.int .i64 j]:=by
 have hr:=Rp neg c r;rw[Lib.atoiAll_short _ (by omega)] at h
 rw[Rq neg c r j hc];by_cases hd:jV neg c r=[]
 ·exfalso;cases neg
  ·have h0:Pl.bz c=true:=by simpa using hc
   simp[jV,h0] at hd
  ·have e:mN true c r=[c]:=by
    have:r.takeWhile Pl.bz=[]:=hd;simp[mN,this]
   have h0:c.toNat=45:=by simpa using hc
   have h45:(c == 45)=true:=by
    rw[Qn];exact aaP.1 h0
   rw[e] at h;simp[Lib.atoi,h45,Lib.decNat,Lib.NumEnd.ofOption] at h
 ·rw[Ro neg c r hc hd] at h;rw[af (by rintro(h'|h');exact hd h';omega)]
  simp only[Lib.NumEnd.ofOption] at h;injection h with h;simp[fq,Pl.pk,Pl.bB,h]
theorem GN(neg:Bool)(c:UInt8)(r:List UInt8)(j:Nat)(hc:if neg then c.toNat=45 else Pl.bz c=true)
  (h:(∀v,Lib.atoiAll (mN neg c r)≠.ok v)\/9<(jV neg c r).length):
  fq (Pl.cQ (c::r) j)=tZ j:=by
 have hr:=Rp neg c r;rw[Rq neg c r j hc];by_cases hd:jV neg c r=[]\/9<(jV neg c r).length
 ·rw[aj hd];rfl
 ·exfalso;rcases h with h|h
  ·apply h (Cu neg c r);rw[Lib.atoiAll_short _ (by omega),Ro neg c r hc (fun e=>hd (ag e))]
   rfl
  ·omega
theorem Rv(s:ByteArray)(j k:Nat)(neg:Bool)(h:j<s.size)(hc:if neg then s[j].toNat=45 else Pl.bz s[j]=true)
  (hk:k=(if neg then j+1 else j)+((s.data.toList.drop (if neg then j+1 else j)).takeWhile Pl.bz).length):
  s.extract j k=⟨(mN neg s[j] (s.data.toList.drop (j+1))).toArray⟩/\(jV neg s[j] (s.data.toList.drop (j+1))).length=k-(if neg then j+1 else j):=by
 rw[Pl.extract_eq,hk,Pl.drop_cons s j h];cases neg
 ·simp only[js,jR,Qm];rw[Pl.drop_cons s j h,Pl.take_takeWhile];exact⟨rfl,rfl⟩
 ·simp only[gD,Qm];rw[show j+1+((s.data.toList.drop (j+1)).takeWhile Pl.bz).length-j=((s.data.toList.drop (j+1)).takeWhile Pl.bz).length+1 from by omega,Bx,Pl.take_takeWhile]
  exact⟨rfl,rfl⟩
theorem acq(s:ByteArray)(j:Nat)(w:World)(hlt:j<s.size)(hs:s.size<=400)(hG:Gl w)(hm:((s[j].toNat:Int) == 45)=false)(hc:if false then s[j].toNat=45 else Pl.bz s[j]=true):
    Calls Tryz.prog 93 #[.string s,.int .i64 j] w fun e w'=>e=.returned (.agg (fq (Pl.cQ (s.data.toList.drop j) j)))/\Below w.heap.size w w':=by
  obtain⟨k,hk⟩:∃k,k=j+((s.data.toList.drop j).takeWhile Pl.bz).length:=⟨_,rfl⟩;have hk1:j<=k/\k<=s.size:=by
    have:=(yS Pl.bz (l:=s.data.toList.drop j)).length_le;simp at this;omega
  obtain⟨hx,hl⟩:=Rv s j k false hlt hc (by simpa using hk)
  have HK:Hid (k=j+((s.data.toList.drop j).takeWhile Pl.bz).length):=hk;have hl':(jV false s[j] (s.data.toList.drop (j+1))).length=k-j:=by simpa using hl
  have HX:Hid (s.extract j k=⟨(mN false s[j] (s.data.toList.drop (j+1))).toArray⟩):=hx;rw[Pl.drop_cons s j hlt];have hsz:(s.extract j k).size<=400:=by simp[ByteArray.size_extract];omega
  have HA:Hid (∀w1,Gl w1->Calls Tryz.prog 147 #[.string (s.extract j k)] w1 fun e w'=>∃v o,e=.returned (.tuple #[.int .i64 v,o])/\Below w1.heap.size w1 w'/\
      ((k-j<=9->o=.nilIface->fq (Pl.cQ (s[j]::s.data.toList.drop (j+1)) j)= #[.int .i64 3,.string (s.extract j k),.int .i64 v,.int .i64 j])/\
       ((o=.nilIface\/∃t p,o=.iface t p)/\((9<k-j\/∃t p,o=.iface t p)->fq (Pl.cQ (s[j]::s.data.toList.drop (j+1)) j)=tZ j)))):=fun w1 g1=>by
    refine(Rk _ hsz w1 g1).mono ?_;rintro e w' ⟨v,o,rfl,hb,ho⟩;refine⟨v,o,rfl,hb,?_⟩;rw[hx] at ho⊢;simp only[] at ho;rcases ho with⟨hv,rfl⟩|⟨hv,t,p,rfl⟩
    · refine⟨fun h9 _=>Ru false s[j] _ j v hc hv (by omega),ag rfl,?_⟩
      rintro(h|⟨t,p,h⟩)
      · exact GN false s[j] _ j hc (ah (by omega))
      · cases h
    · refine⟨fun _ h=>(by cases h),ah ⟨t,p,rfl⟩,fun _=>GN false s[j] _ j hc (ag hv)⟩
  clear hx hl hl' hk hsz HX;generalize fq (Pl.cQ (s[j]::s.data.toList.drop (j+1)) j)=T at*;clear hc
  go_enter Tryz.func93,Tryz.ntmps93
  go_wp2_with fail
  refine(Rf s j k _ (by omega) hs HK.out).mono ?_
  rintro e w' ⟨rfl,rfl⟩
  go_wp2_with fail
  refine(HA.out _ (hG.alloc _)).mono ?_;rintro e w1 ⟨v,o,rfl,hb,h1,h2,h3⟩;have H1:Hid (k-j<=9->o=.nilIface->T= #[.int .i64 3,.string (s.extract j k),.int .i64 v,.int .i64 j]):=h1;have H3:Hid ((9<k-j\/∃t p,o=.iface t p)->T=tZ j):=h3;clear h1 h3;obtain⟨hcc,hf⟩:=GM hb;have hz:w.heap.size<w1.heap.size:=by have:=hb.size;simp at this;omega
  rcases h2 with rfl|⟨t,p,rfl⟩
  · by_cases h9:k-j<=9
    · have hT:=H1.out h9 rfl;subst hT;clear H1 H3 HA
      go_wp2_with fail
      refine bodyPost_ret (v:=.agg #[.int .i64 3,.string (s.extract j k),.int .i64 v,.int .i64 j]) (by simp[results,Tryz.results93,go_sem,hcc]) rfl ⟨rfl,?_⟩
      exact((((((Below.refl w.heap.size w).alloc (ay _) _).trans (hb.mono (by simp))).setCell (ay _) _).setCell (ay _) _).setCell (ay _) _).setCell (ay _) _
    · have hT:=H3.out (ag (by omega))
      unfold tZ at hT;subst hT;clear H1 H3 HA
      go_wp2_with fail
      refine bodyPost_ret (v:=.agg #[.int .i64 0,.string ⟨#[]⟩,.int .i64 0,.int .i64 j]) (by simp[results,Tryz.results93,go_sem,hcc]) rfl ⟨rfl,?_⟩
      exact((((((Below.refl w.heap.size w).alloc (ay _) _).trans (hb.mono (by simp))).setCell (ay _) _).setCell (ay _) _).setCell (ay _) _).setCell (ay _) _
  · have hT:=H3.out (ah ⟨t,p,rfl⟩);unfold tZ at hT;subst hT;clear H1 H3 HA
    go_wp2_with fail
    refine bodyPost_ret (v:=.agg #[.int .i64 0,.string ⟨#[]⟩,.int .i64 0,.int .i64 j]) (by simp[results,Tryz.results93,go_sem,hcc]) rfl ⟨rfl,?_⟩
    exact((((((Below.refl w.heap.size w).alloc (ay _) _).trans (hb.mono (by simp))).setCell (ay _) _).setCell (ay _) _).setCell (ay _) _).setCell (ay _) _
theorem acr(s:ByteArray)(j:Nat)(w:World)(hlt:j<s.size)(hs:s.size<=400)(hG:Gl w)(hm:((s[j].toNat:Int) == 45)=true)(hc:if true then s[j].toNat=45 else Pl.bz s[j]=true):
    Calls Tryz.prog 93 #[.string s,.int .i64 j] w fun e w'=>e=.returned (.agg (fq (Pl.cQ (s.data.toList.drop j) j)))/\Below w.heap.size w w':=by
  obtain⟨k,hk⟩:∃k,k=(j+1)+((s.data.toList.drop (j+1)).takeWhile Pl.bz).length:=⟨_,rfl⟩;have hk1:(j+1)<=k/\k<=s.size:=by
    have:=(yS Pl.bz (l:=s.data.toList.drop (j+1))).length_le;simp at this;omega
  obtain⟨hx,hl⟩:=Rv s j k true hlt hc (by simpa using hk)
  have HK:Hid (k=(j+1)+((s.data.toList.drop (j+1)).takeWhile Pl.bz).length):=hk;have hl':(jV true s[j] (s.data.toList.drop (j+1))).length=k-(j+1):=by simpa using hl
  have HX:Hid (s.extract j k=⟨(mN true s[j] (s.data.toList.drop (j+1))).toArray⟩):=hx;rw[Pl.drop_cons s j hlt];have hsz:(s.extract j k).size<=400:=by simp[ByteArray.size_extract];omega
  have HA:Hid (∀w1,Gl w1->Calls Tryz.prog 147 #[.string (s.extract j k)] w1 fun e w'=>∃v o,e=.returned (.tuple #[.int .i64 v,o])/\Below w1.heap.size w1 w'/\
      ((k-(j+1)<=9->o=.nilIface->fq (Pl.cQ (s[j]::s.data.toList.drop (j+1)) j)= #[.int .i64 3,.string (s.extract j k),.int .i64 v,.int .i64 j])/\
       ((o=.nilIface\/∃t p,o=.iface t p)/\((9<k-(j+1)\/∃t p,o=.iface t p)->fq (Pl.cQ (s[j]::s.data.toList.drop (j+1)) j)=tZ j)))):=fun w1 g1=>by
    refine(Rk _ hsz w1 g1).mono ?_;rintro e w' ⟨v,o,rfl,hb,ho⟩;refine⟨v,o,rfl,hb,?_⟩;rw[hx] at ho⊢;simp only[] at ho;rcases ho with⟨hv,rfl⟩|⟨hv,t,p,rfl⟩
    · refine⟨fun h9 _=>Ru true s[j] _ j v hc hv (by omega),ag rfl,?_⟩
      rintro(h|⟨t,p,h⟩)
      · exact GN true s[j] _ j hc (ah (by omega))
      · cases h
    · refine⟨fun _ h=>(by cases h),ah ⟨t,p,rfl⟩,fun _=>GN true s[j] _ j hc (ag hv)⟩
  clear hx hl hl' hk hsz HX;generalize fq (Pl.cQ (s[j]::s.data.toList.drop (j+1)) j)=T at*;clear hc
  go_enter Tryz.func93,Tryz.ntmps93
  go_wp2_with fail
  refine(Rf s (j+1) k _ (by omega) hs HK.out).mono ?_
  rintro e w' ⟨rfl,rfl⟩
  go_wp2_with fail
  refine(HA.out _ (hG.alloc _)).mono ?_;rintro e w1 ⟨v,o,rfl,hb,h1,h2,h3⟩;have H1:Hid (k-(j+1)<=9->o=.nilIface->T= #[.int .i64 3,.string (s.extract j k),.int .i64 v,.int .i64 j]):=h1;have H3:Hid ((9<k-(j+1)\/∃t p,o=.iface t p)->T=tZ j):=h3;clear h1 h3;obtain⟨hcc,hf⟩:=GM hb;have hz:w.heap.size<w1.heap.size:=by have:=hb.size;simp at this;omega
  rcases h2 with rfl|⟨t,p,rfl⟩
  · by_cases h9:k-(j+1)<=9
    · have hT:=H1.out h9 rfl;subst hT;clear H1 H3 HA
      go_wp2_with fail
      refine bodyPost_ret (v:=.agg #[.int .i64 3,.string (s.extract j k),.int .i64 v,.int .i64 j]) (by simp[results,Tryz.results93,go_sem,hcc]) rfl ⟨rfl,?_⟩
      exact((((((Below.refl w.heap.size w).alloc (ay _) _).trans (hb.mono (by simp))).setCell (ay _) _).setCell (ay _) _).setCell (ay _) _).setCell (ay _) _
    · have hT:=H3.out (ag (by omega))
      unfold tZ at hT;subst hT;clear H1 H3 HA
      go_wp2_with fail
      refine bodyPost_ret (v:=.agg #[.int .i64 0,.string ⟨#[]⟩,.int .i64 0,.int .i64 j]) (by simp[results,Tryz.results93,go_sem,hcc]) rfl ⟨rfl,?_⟩
      exact((((((Below.refl w.heap.size w).alloc (ay _) _).trans (hb.mono (by simp))).setCell (ay _) _).setCell (ay _) _).setCell (ay _) _).setCell (ay _) _
  · have hT:=H3.out (ah ⟨t,p,rfl⟩);unfold tZ at hT;subst hT;clear H1 H3 HA
    go_wp2_with fail
    refine bodyPost_ret (v:=.agg #[.int .i64 0,.string ⟨#[]⟩,.int .i64 0,.int .i64 j]) (by simp[results,Tryz.results93,go_sem,hcc]) rfl ⟨rfl,?_⟩
    exact((((((Below.refl w.heap.size w).alloc (ay _) _).trans (hb.mono (by simp))).setCell (ay _) _).setCell (ay _) _).setCell (ay _) _).setCell (ay _) _
theorem Rw:Rh:=by
 intro s j w hlt hs hG hd;by_cases h:s[j].toNat=45
 ·exact acr s j w hlt hs hG (by simp;omega) (by simpa using h)
 ·exact acq s j w hlt hs hG (by simp;omega) (by simpa using(hd hlt).resolve_right h)
theorem aU{w w':World}{base:Nat}{e:TypeId}{size:Nat}{v:Value}{n:Nat}{xs:List Value}(h:w.ownsRow base e size v n xs)
  (hk:∀k,v.ownBlock=some k->w'.heap[k]?=w.heap[k]?):w'.ownsRow base e size v n xs:=by
 obtain⟨h1,h2⟩:=h;refine⟨h1,?_⟩;rcases h2 with h2|⟨g,cap,cur,hv,hg,hh,r⟩
 ·exact ag h2
 ·exact ah ⟨g,cap,cur,hv,hg,by rw[hk g (by rw[hv];rfl)];exact hh,r⟩
theorem aB{w:World}{base:Nat}{e:TypeId}{size:Nat}{v:Value}{n:Nat}{xs:List Value}(h:w.ownsRow base e size v n xs):
  ∀k,v.ownBlock=some k->base<=k/\k<w.heap.size:=h.lt
theorem cell_of{w:World}{b:Nat}{c:Array Value}{T:TypeId}(h:w.heap[b]?=some (.cells c T (0,0)))(o:Nat):w.cell? ⟨b,o,none⟩=c[o]?:=by
 simp[World.cell?,h]
theorem bw{w:World}{b:Nat}{c:Array Value}{T:TypeId}(h:w.heap[b]?=some (.cells c T (0,0)))(o:Nat):w.frozen? ⟨b,o,none⟩=false:=by
 simp[World.frozen?,h]
theorem lt_of_heap{w:World}{b:Nat}{o:Obj}(h:w.heap[b]?=some o):b<w.heap.size:=by
 rcases Ko b w.heap.size with h1|h1
 ·exact h1
 ·rw[FJ h1] at h;cases h
theorem heap_set{w:World}{b o:Nat}{c:Array Value}{T:TypeId}(h:w.heap[b]?=some (.cells c T (0,0)))(v:Value):
  (w.setCell ⟨b,o,none⟩ v).heap[b]?=some (.cells (c.setIfInBounds o v) T (0,0)):=by
 simp[World.setCell,Array.getElem?_modify,h]
theorem ir{w:World}{b k o:Nat}(h:k≠b)(v:Value):(w.setCell ⟨b,o,none⟩ v).heap[k]?=w.heap[k]?:=Below.heap_setCell _ _ _ _ h
def xt(p:Int×Int):Value:=.complex .f64 (floatOfInt .f64 p.1) (floatOfInt .f64 p.2)
def pH(g:List (Int×Int)):List Value:=g.map xt
def oz(c:List Pl.Tk):List Value:=c.flatMap fun t=>(fq t).toList
theorem acs(c:List Pl.Tk)(t:Pl.Tk):oz (c++[t])=oz c++(fq t).toList:=by simp[oz]
def qu(rb:Nat)(rv:Value)(rg:List (List (Int×Int)))(w:World):Prop:=
 ∃vs:List Value,vs.length=rg.length/\w.ownsRow (rb+1) 127 1 rv rg.length vs/\
  (∀(i:Nat) v g,vs[i]?=some v->rg[i]?=some g->w.ownsRow (rb+1) 81 1 v g.length (pH g))/\
  (∀(i j:Nat) v u k,vs[i]?=some v->vs[j]?=some u->v.ownBlock=some k->u.ownBlock=some k->i=j)
theorem qu.kept{rb:Nat}{rv:Value}{rg:List (List (Int×Int))}{w w':World}(h:qu rb rv rg w)
  (hk:∀k cur e,w.heap[k]?=some (.cells cur e (0,0))->(e=127\/e=81)->rb<k->w'.heap[k]?=w.heap[k]?):qu rb rv rg w':=by
 obtain⟨vs,h1,h2,h3,h4⟩:=h;have key:∀e v n xs,(e=127\/e=81)->w.ownsRow (rb+1) e 1 v n xs->w'.ownsRow (rb+1) e 1 v n xs:=fun e v n xs he ho=>by
  refine aU ho fun k hv=>?_
  rcases ho.2 with⟨ha,_⟩|⟨g,cap,cur,hv',hg,hh,r⟩
  ·rw[ha] at hv;cases hv
  ·rw[hv'] at hv;have:g=k:=by simpa[Value.ownBlock] using hv
   subst this;exact hk g cur e hh he hg
 exact⟨vs,h1,key _ _ _ _ (ag rfl) h2,fun i v g a b=>key _ _ _ _ (ah rfl) (h3 i v g a b),h4⟩
def GP(s:ByteArray)(t:Pl.Tk)(tv rv:Value):Array Value:= #[.string s,.int .i64 (Pl.pk t),.string ⟨(Pl.bB t).toArray⟩,.int .i64 t.n,.int .i64 t.pl,tv,rv]
def RD(rb:Nat)(s:ByteArray)(A l:List Pl.Tk)(rg:List (List (Int×Int)))(w:World):Prop:=
 ∃c t r tv rv,c++l=A/\l=t::r/\w.heap[rb]?=some (.cells (GP s t tv rv) 80 (0,0))/\
  w.ownsRow (rb+1) 76 4 tv c.length (oz c)/\qu rb rv rg w
theorem Cv{w w1:World}{o:Obj}{row:Option Nat}(hg:(w.alloc o).grownBy w1 row)(k:Nat)(hk:k<w.heap.size)(hne:row≠some k):w1.heap[k]?=w.heap[k]?:=
 (hg.block k (by simp;omega) (fun e=>hne e.symm)).trans (Below.heap_alloc _ _ _ hk)
theorem rM{w w1:World}{o:Obj}{row:Option Nat}(hg:(w.alloc o).drew.grownBy w1 row)(k:Nat)(hk:k<w.heap.size)(hne:row≠some k):w1.heap[k]?=w.heap[k]?:=
 (hg.block k (by show k<(w.alloc o).heap.size;simp;omega) (fun e=>hne e.symm)).trans (Below.heap_alloc _ _ _ hk)
theorem rN{w:World}{base:Nat}{e:TypeId}{size:Nat}{v:Value}{n:Nat}{xs:List Value}(h:w.ownsRow base e size v n xs)(k:Nat)(hk:k<base):v.ownBlock≠some k:=
 fun e=>by have:=(aB h k e).1;omega
structure Cx(rb:Nat)(s:ByteArray)(A:List Pl.Tk):Prop where
 hs:s.size<=400
 ch:Pl.iU s.data.toList A
 len:A.length<=402
 pl:∀t∈A,Pl.Place s.data.toList t
 rb:6<=rb
theorem ua{w:World}{base:Nat}{e e':TypeId}{size:Nat}{v:Value}{n k:Nat}{xs:List Value}{cur:Array Value}(h:w.ownsRow base e size v n xs)
  (hk:w.heap[k]?=some (.cells cur e' (0,0)))(hne:e'≠e):v.ownBlock≠some k:=by
 intro hv;rcases h.2 with⟨ha,_⟩|⟨g,cap,cur',hv',hg,hh,r⟩
 ·rw[ha] at hv;cases hv
 ·rw[hv'] at hv;have:g=k:=by simpa[Value.ownBlock] using hv
  subst this;rw[hh] at hk;injection hk with hk;injection hk with _ hk _;exact hne hk.symm
def NT(rb k:Nat)(w:World):Prop:=∃tv,w.cell? ⟨rb,5,none⟩=some tv/\tv.ownBlock≠some k
def Kp(rb:Nat)(w w':World):Prop:=∀k o,k≠rb->NT rb k w->w.heap[k]?=some o->w'.heap[k]?=some o/\NT rb k w'
def mO:Prop:=∀(rb:Nat)(s:ByteArray)(A r:List Pl.Tk)(t:Pl.Tk)(rg:List (List (Int×Int)))(w:World),Cx rb s A->RD rb s A (t::r) rg w->Gl w->
  (t.k=119\/t.k=110\/t.k=40\/t.k=41\/t.k=44)->
  Calls Tryz.prog 148 #[.pointer (some ⟨rb,0,none⟩)] w fun e w'=>e=.returned (.tuple #[])/\RD rb s A r rg w'/\Below rb w w'/\Kp rb w w'
theorem RD.cells{rb:Nat}{s:ByteArray}{A l:List Pl.Tk}{rg:List (List (Int×Int))}{w:World}(h:RD rb s A l rg w):
  ∃t r,l=t::r/\w.cell? ⟨rb,0,none⟩=some (.string s)/\w.cell? ⟨rb,1,none⟩=some (.int .i64 (Pl.pk t))/\w.cell? ⟨rb,2,none⟩=some (.string ⟨(Pl.bB t).toArray⟩)/\w.cell? ⟨rb,3,none⟩=some (.int .i64 t.n)/\w.cell? ⟨rb,4,none⟩=some (.int .i64 t.pl):=by
 obtain⟨c,t,r,tv,rv,hc,hl,hb,hown,hrg⟩:=h;exact⟨t,r,hl,cell_of hb 0,cell_of hb 1,cell_of hb 2,cell_of hb 3,cell_of hb 4⟩
theorem RD.below{rb:Nat}{s:ByteArray}{A l:List Pl.Tk}{rg:List (List (Int×Int))}{w w':World}(h:RD rb s A l rg w)(hb:Below w.heap.size w w'):RD rb s A l rg w':=by
 obtain⟨c,t,r,tv,rv,hc,hl,hbk,hown,hrg⟩:=h;refine⟨c,t,r,tv,rv,hc,hl,(hb.block rb (lt_of_heap hbk)).trans hbk,aU hown fun k hk=>hb.block k (aB hown k hk).2,hrg.kept fun k cur e hk _ _=>hb.block k (lt_of_heap hk)⟩
theorem RD.alloc{rb:Nat}{s:ByteArray}{A l:List Pl.Tk}{rg:List (List (Int×Int))}{w:World}(h:RD rb s A l rg w)(o:Obj):RD rb s A l rg (w.alloc o):=
 h.below ((Below.refl _ _).alloc (ay _) o)
theorem RD.lt{rb:Nat}{s:ByteArray}{A l:List Pl.Tk}{rg:List (List (Int×Int))}{w:World}(h:RD rb s A l rg w):rb<w.heap.size:=by
 obtain⟨c,t,r,tv,rv,hc,hl,hbk,hown,hrg⟩:=h;exact lt_of_heap hbk
theorem RD.nt{rb:Nat}{s:ByteArray}{A l:List Pl.Tk}{rg:List (List (Int×Int))}{w:World}(h:RD rb s A l rg w)(k:Nat)(hk:w.heap.size<=k):NT rb k w:=by
 obtain⟨c,t,r,tv,rv,hc,hl,hbk,hown,hrg⟩:=h;exact⟨tv,cell_of hbk 5,fun e=>by have:=(aB hown k e).2;omega⟩
theorem NT.below{rb k:Nat}{w w':World}(h:NT rb k w)(vB:rb<w.heap.size)(hb:Below w.heap.size w w'):NT rb k w':=by
 obtain⟨tv,h1,h2⟩:=h;exact⟨tv,(hb.cell (p:=⟨rb,5,none⟩) vB).trans h1,h2⟩
end Go.Proofs.YtkjhhooecopolaaGreatDoor
