import Derived.Test.YtkjhhooecopolaaGreatDoorAza
import Derived.Test.YtkjhhooecopolaaGreatDoorProg
set_option maxRecDepth 100000
set_option maxHeartbeats 4000000
namespace Go.Proofs
open Tryz
open Value renaming int->I,string->aD,slice->D,pointer->aF,tuple->aG
open IntKind renaming i64->J
open Ending renaming returned->aJ
open Go renaming World->G
open Option renaming some->K,none->Z
open Go.Shelf
def Tryz.lays169_ren:Go.Shelf.Ren:=⟨fun |169=>121|n=>n,fun |70=>193|9=>9|0=>0|72=>196|37=>194|127=>251|3=>3|5=>5|n=>n,fun |n=>n⟩
theorem Tryz.lays169:Go.Proofs.Lays.n169 prog Tryz.lays169_ren:={
 mixed:=z
 f169:=func121.trans<|bd K z
 t0:=underlying0
 a0:=isAgg0
 z0:=sizeOf0
 v0:=zeroValue0
 t3:=underlying3
 a3:=isAgg3
 z3:=sizeOf3
 v3:=zeroValue3
 t9:=underlying9
 a9:=isAgg9
 z9:=sizeOf9
 v9:=zeroValue9
 t37:=underlying194
 a37:=isAgg194
 z37:=sizeOf194
 v37:=zeroValue194
 t70:=underlying193
 a70:=isAgg193
 z70:=sizeOf193
 v70:=zeroValue193
 t72:=underlying196
 a72:=isAgg196
 z72:=sizeOf196
 v72:=zeroValue196
 t127:=underlying251
 a127:=isAgg251
 z127:=sizeOf251
 v127:=zeroValue251}
theorem Tryz.Builder_Extra_169:Builder.Extra prog Tryz.lays169_ren:={
 sizeBuilder:=z
 liesBuilder:=z
 t5:=underlying5
 a5:=isAgg5
 z5:=sizeOf5
 v5:=zeroValue5
 infoByte:=z
 cellsByte:=z
 sizeByte:=z
 neB5:=by decide}
open Go.RowKit in
open Go.RowKit in
open Go.RowKit in
theorem Tryz.Builder_String_any(B b:Nat)(l:V UInt8)(w:G)(h:Lib.IsBuilder 196 5 B b (Lib.byteCells l) w)(a:B<=w.heap.size):
  M 121 #[aF (K ⟨b,0,Z⟩)] w λe w'=>e=aJ (aD ⟨l.toArray⟩)/\Below B w w':=Any.Builder_String_any Tryz.lays169 Tryz.Builder_Extra_169 B b l w h a
open Go.RowKit in
open Go.RowKit in
def Tryz.lays156_ren:Go.Shelf.Ren:=⟨fun |156=>103|165=>154|166=>119|169=>121|240=>177|241=>197|276=>218|277=>239|n=>n,fun |31=>164|9=>9|3=>3|4=>4|0=>0|20=>20|72=>196|76=>201|70=>193|37=>194|75=>199|127=>251|164=>290|5=>5|80=>166|n=>n,fun |n=>n⟩
theorem Tryz.lays156:Go.Proofs.Lays.n156 prog Tryz.lays156_ren:={
 mixed:=z
 f156:=func103.trans<|bd K z
 f165:=func154.trans<|bd K z
 f166:=func119.trans<|bd K z
 f169:=func121.trans<|bd K z
 f240:=func177.trans<|bd K z
 f241:=func197.trans<|bd K z
 f276:=func218.trans<|bd K z
 f277:=func239.trans<|bd K z
 t0:=underlying0
 a0:=isAgg0
 z0:=sizeOf0
 v0:=zeroValue0
 t3:=underlying3
 a3:=isAgg3
 z3:=sizeOf3
 v3:=zeroValue3
 t4:=underlying4
 a4:=isAgg4
 z4:=sizeOf4
 v4:=zeroValue4
 t9:=underlying9
 a9:=isAgg9
 z9:=sizeOf9
 v9:=zeroValue9
 t20:=underlying20
 a20:=isAgg20
 z20:=sizeOf20
 v20:=zeroValue20
 t31:=underlying164
 a31:=isAgg164
 z31:=sizeOf164
 v31:=zeroValue164
 t37:=underlying194
 a37:=isAgg194
 z37:=sizeOf194
 v37:=zeroValue194
 t70:=underlying193
 a70:=isAgg193
 z70:=sizeOf193
 v70:=zeroValue193
 t72:=underlying196
 a72:=isAgg196
 z72:=sizeOf196
 v72:=zeroValue196
 t75:=underlying199
 a75:=isAgg199
 z75:=sizeOf199
 v75:=zeroValue199
 t76:=underlying201
 a76:=isAgg201
 z76:=sizeOf201
 v76:=zeroValue201
 t127:=underlying251
 a127:=isAgg251
 z127:=sizeOf251
 v127:=zeroValue251
 t164:=underlying290
 a164:=isAgg290
 z164:=sizeOf290
 v164:=zeroValue290}
theorem Tryz.Builder_Extra_156:Builder.Extra prog Tryz.lays156_ren:={
 sizeBuilder:=z
 liesBuilder:=z
 t5:=underlying5
 a5:=isAgg5
 z5:=sizeOf5
 v5:=zeroValue5
 infoByte:=z
 cellsByte:=z
 sizeByte:=z
 neB5:=by decide}
open Go.RowKit in
theorem Tryz.strings_Join_none(a:Option Addr)(c:Nat)(b:ByteArray)(w:G):
  M 103 #[D a 0 c,aD b] w λe w'=>e=aJ (aD ⟨#[]⟩)/\w'=w:=Any.strings_Join_none Tryz.lays156 Tryz.Builder_Extra_156 a c b w
open Go.RowKit in
theorem Tryz.strings_Join(g o c:Nat)(b:V ByteArray)(a:ByteArray)(w:G)(hcells:∀(j:Nat) x,b[j]?=K x->w.cell? ⟨g,o+j,Z⟩=K (aD x))(h:g<w.heap.size)(k:b.length<=140737488355328)(d:b.length<=c)(f:(Lib.join (b.map (·.data.toList)) a.data.toList).length<=140737488355328):
  M 103 #[D (K ⟨g,o,Z⟩) b.length c,aD a] w (ai (aD ⟨(Lib.join (b.map (·.data.toList)) a.data.toList).toArray⟩) w):=Any.strings_Join Tryz.lays156 Tryz.Builder_Extra_156 g o c b a w hcells h k d f
def Tryz.lays125_ren:Go.Shelf.Ren:=⟨fun |125=>164|128=>208|129=>209|n=>n,fun |46=>238|3=>3|51=>280|53=>282|4=>4|5=>5|9=>9|n=>n,fun |n=>n⟩
theorem Tryz.lays125:Go.Proofs.Lays.n125 prog Tryz.lays125_ren:={
 mixed:=z
 f125:=func164.trans<|bd K z
 f128:=func208.trans<|bd K z
 f129:=func209.trans<|bd K z
 t3:=underlying3
 a3:=isAgg3
 z3:=sizeOf3
 v3:=zeroValue3
 t4:=underlying4
 a4:=isAgg4
 z4:=sizeOf4
 v4:=zeroValue4
 t5:=underlying5
 a5:=isAgg5
 z5:=sizeOf5
 v5:=zeroValue5
 t9:=underlying9
 a9:=isAgg9
 z9:=sizeOf9
 v9:=zeroValue9
 t46:=underlying238
 a46:=isAgg238
 z46:=sizeOf238
 v46:=zeroValue238
 t51:=underlying280
 a51:=isAgg280
 z51:=sizeOf280
 v51:=zeroValue280
 t53:=underlying282
 a53:=isAgg282
 z53:=sizeOf282
 v53:=zeroValue282}
theorem Tryz.bits_Len(x:Int)(w:G)(a:0<=x)(b:x<=18446744073709551615):
  M 164 #[I .u64 x] w λe w'=>e=aJ (I J<|Lib.bitLen x.toNat)/\w'=w:=Any.bits_Len Tryz.lays125 x w a b
open Go.RowKit in
open Go.RowKit in
open Go.RowKit in
open Go.RowKit in
open Go.RowKit in
open Go.RowKit in
open Go.RowKit in
def Tryz.lays172_ren:Go.Shelf.Ren:=⟨fun |172=>147|244=>193|245=>194|247=>233|279=>234|280=>235|281=>236|282=>237|287=>283|316=>284|171=>146|205=>285|321=>302|322=>303|243=>192|246=>232|283=>279|284=>280|285=>281|286=>282|129=>209|317=>298|318=>299|319=>300|320=>301|337=>307|338=>308|n=>n,fun |9=>9|3=>3|75=>199|76=>201|4=>4|5=>5|167=>301|37=>194|0=>0|85=>302|2=>2|168=>304|53=>282|175=>338|46=>238|210=>342|127=>251|145=>361|143=>359|21=>21|171=>334|173=>336|212=>356|51=>280|20=>20|213=>357|232=>365|233=>366|80=>166|n=>n,fun |15=>0|16=>1|17=>3|18=>4|19=>5|n=>n⟩
open Go.RowKit in
open Go.Lib in
open Go.Lib in
open Go.Lib in
open Go.Lib in
open Go.RowKit Go.Sort Go.Lib in
def Tryz.laysM246_ren:Go.Shelf.Ren:=⟨fun |246=>232|283=>279|284=>280|285=>281|286=>282|129=>209|317=>298|318=>299|319=>300|320=>301|337=>307|338=>308|n=>n,fun |2=>2|3=>3|9=>9|4=>4|171=>334|0=>0|53=>282|37=>194|5=>5|173=>336|212=>356|51=>280|20=>20|213=>357|46=>238|232=>365|233=>366|n=>n,fun |17=>3|18=>4|19=>5|n=>n⟩
open Go.RowKit Go.Sort Go.Lib in
open Go.RowKit Go.Sort Go.Lib in
def Tryz.laysM243_ren:Go.Shelf.Ren:=⟨fun |243=>192|246=>232|283=>279|284=>280|285=>281|286=>282|129=>209|317=>298|318=>299|319=>300|320=>301|337=>307|338=>308|n=>n,fun |3=>3|9=>9|2=>2|4=>4|171=>334|0=>0|53=>282|37=>194|5=>5|173=>336|212=>356|51=>280|20=>20|213=>357|46=>238|232=>365|233=>366|n=>n,fun |17=>3|18=>4|19=>5|n=>n⟩
open Go.RowKit Go.Sort Go.Lib in
open Go.RowKit Go.Sort Go.Lib in
def Tryz.laysM171_ren:Go.Shelf.Ren:=⟨fun |171=>146|243=>192|246=>232|283=>279|284=>280|285=>281|286=>282|129=>209|317=>298|318=>299|319=>300|320=>301|337=>307|338=>308|n=>n,fun |3=>3|9=>9|2=>2|4=>4|171=>334|0=>0|53=>282|37=>194|5=>5|173=>336|212=>356|51=>280|20=>20|213=>357|46=>238|232=>365|233=>366|n=>n,fun |17=>3|18=>4|19=>5|n=>n⟩
theorem Tryz.laysM171:Go.Proofs.LaysM.n171 prog Tryz.laysM171_ren:={
 mixed:=z
 f129:=func209.trans<|bd K z
 f171:=func146.trans<|bd K z
 f243:=func192.trans<|bd K z
 f246:=func232.trans<|bd K z
 f283:=func279.trans<|bd K z
 f284:=func280.trans<|bd K z
 f285:=func281.trans<|bd K z
 f286:=func282.trans<|bd K z
 f317:=func298.trans<|bd K z
 f318:=func299.trans<|bd K z
 f319:=func300.trans<|bd K z
 f320:=func301.trans<|bd K z
 f337:=func307.trans<|bd K z
 f338:=func308.trans<|bd K z
 t0:=underlying0
 a0:=isAgg0
 z0:=sizeOf0
 v0:=zeroValue0
 t2:=underlying2
 a2:=isAgg2
 z2:=sizeOf2
 v2:=zeroValue2
 t3:=underlying3
 a3:=isAgg3
 z3:=sizeOf3
 v3:=zeroValue3
 t4:=underlying4
 a4:=isAgg4
 z4:=sizeOf4
 v4:=zeroValue4
 t5:=underlying5
 a5:=isAgg5
 z5:=sizeOf5
 v5:=zeroValue5
 t9:=underlying9
 a9:=isAgg9
 z9:=sizeOf9
 v9:=zeroValue9
 t20:=underlying20
 a20:=isAgg20
 z20:=sizeOf20
 v20:=zeroValue20
 t37:=underlying194
 a37:=isAgg194
 z37:=sizeOf194
 v37:=zeroValue194
 t46:=underlying238
 a46:=isAgg238
 z46:=sizeOf238
 v46:=zeroValue238
 t51:=underlying280
 a51:=isAgg280
 z51:=sizeOf280
 v51:=zeroValue280
 t53:=underlying282
 a53:=isAgg282
 z53:=sizeOf282
 v53:=zeroValue282
 t171:=underlying334
 a171:=isAgg334
 z171:=sizeOf334
 v171:=zeroValue334
 t173:=underlying336
 a173:=isAgg336
 z173:=sizeOf336
 v173:=zeroValue336
 t212:=underlying356
 a212:=isAgg356
 z212:=sizeOf356
 v212:=zeroValue356
 t213:=underlying357
 a213:=isAgg357
 z213:=sizeOf357
 t232:=underlying365
 a232:=isAgg365
 z232:=sizeOf365
 v232:=zeroValue365
 t233:=underlying366
 a233:=isAgg366
 z233:=sizeOf366
 v233:=zeroValue366
 g17:=z
 g18:=z
 g19:=z
 i0:=z
 i2:=z
 i3:=z
 i4:=z
 i5:=z
 i9:=z
 i20:=z
 i37:=z
 i46:=z
 i51:=z
 i53:=z
 i171:=z
 i173:=z
 i212:=z
 i232:=z
 i233:=z
 m17:=z
 m18:=z
 m19:=by kernel_rfl}
open Go.RowKit Go.Sort Go.Lib in
theorem Tryz.strconv_Itoa(n:Int)(b: -9223372036854775808<=n)(c:n<=9223372036854775807)(w:World)(a:Lib.TabIs Tryz.prog w "internal/strconv.uint64pow10" .u64 Lib.pow10Tab):
  M 146 #[I J n] w λe w'=>e=aJ (aD ⟨(Lib.itoa n).toArray⟩)/\∃k os,w'=grow (w.drewN k) os:=Any.strconv_Itoa Tryz.laysM171 n b c w a
open Go.RowKit Go.Sort Go.Lib in
open Go.RowKit in
open Go.RowKit in
open Go.RowKit in
open Go.RowKit in
open Go.RowKit in
open Go.RowKit in
open Go.RowKit in
open Go.RowKit in
open Go.RowKit in
open Go.RowKit in
open Go.RowKit in
open Go.RowKit in
open Go.RowKit in
open Go.RowKit in
open Go.RowKit in
open Go.RowKit in
def Tryz.laysC172_ren:Go.Shelf.Ren:=⟨fun |172=>147|244=>193|245=>194|247=>233|279=>234|280=>235|281=>236|282=>237|287=>283|316=>284|171=>146|205=>285|321=>302|322=>303|243=>192|246=>232|283=>279|284=>280|285=>281|286=>282|129=>209|317=>298|318=>299|319=>300|320=>301|337=>307|338=>308|n=>n,fun |9=>9|3=>3|75=>199|76=>201|4=>4|5=>5|167=>301|37=>194|0=>0|85=>302|2=>2|168=>304|53=>282|175=>338|46=>238|210=>342|127=>251|145=>361|143=>359|21=>21|171=>334|173=>336|212=>356|51=>280|20=>20|213=>357|232=>365|233=>366|80=>166|n=>n,fun |15=>0|16=>1|17=>3|18=>4|19=>5|n=>n⟩
theorem Tryz.laysC172:Go.Proofs.LaysC.n172 prog Tryz.laysC172_ren:={
 mixed:=z
 f129:=func209.trans<|bd K z
 f171:=func146.trans<|bd K z
 f172:=func147.trans<|bd K z
 f205:=func285.trans<|bd K z
 f243:=func192.trans<|bd K z
 f244:=func193.trans<|bd K z
 f245:=func194.trans<|bd K z
 f246:=func232.trans<|bd K z
 f247:=func233.trans<|bd K z
 f279:=func234.trans<|bd K z
 f280:=func235.trans<|bd K z
 f281:=func236.trans<|bd K z
 f282:=func237.trans<|bd K z
 f283:=func279.trans<|bd K z
 f284:=func280.trans<|bd K z
 f285:=func281.trans<|bd K z
 f286:=func282.trans<|bd K z
 f287:=func283.trans<|bd K z
 f316:=func284.trans<|bd K z
 f317:=func298.trans<|bd K z
 f318:=func299.trans<|bd K z
 f319:=func300.trans<|bd K z
 f320:=func301.trans<|bd K z
 f321:=func302.trans<|bd K z
 f322:=func303.trans<|bd K z
 f337:=func307.trans<|bd K z
 f338:=func308.trans<|bd K z
 t0:=underlying0
 a0:=isAgg0
 z0:=sizeOf0
 v0:=zeroValue0
 t2:=underlying2
 a2:=isAgg2
 z2:=sizeOf2
 v2:=zeroValue2
 t3:=underlying3
 a3:=isAgg3
 z3:=sizeOf3
 v3:=zeroValue3
 t4:=underlying4
 a4:=isAgg4
 z4:=sizeOf4
 v4:=zeroValue4
 t5:=underlying5
 a5:=isAgg5
 z5:=sizeOf5
 v5:=zeroValue5
 t9:=underlying9
 a9:=isAgg9
 z9:=sizeOf9
 v9:=zeroValue9
 t20:=underlying20
 a20:=isAgg20
 z20:=sizeOf20
 v20:=zeroValue20
 t21:=underlying21
 a21:=isAgg21
 z21:=sizeOf21
 v21:=zeroValue21
 t37:=underlying194
 a37:=isAgg194
 z37:=sizeOf194
 v37:=zeroValue194
 t46:=underlying238
 a46:=isAgg238
 z46:=sizeOf238
 v46:=zeroValue238
 t51:=underlying280
 a51:=isAgg280
 z51:=sizeOf280
 v51:=zeroValue280
 t53:=underlying282
 a53:=isAgg282
 z53:=sizeOf282
 v53:=zeroValue282
 t75:=underlying199
 a75:=isAgg199
 z75:=sizeOf199
 v75:=zeroValue199
 t76:=underlying201
 a76:=isAgg201
 z76:=sizeOf201
 v76:=zeroValue201
 t85:=underlying302
 a85:=isAgg302
 z85:=sizeOf302
 v85:=zeroValue302
 t127:=underlying251
 a127:=isAgg251
 z127:=sizeOf251
 v127:=zeroValue251
 t143:=underlying359
 a143:=isAgg359
 z143:=sizeOf359
 v143:=zeroValue359
 t145:=underlying361
 a145:=isAgg361
 z145:=sizeOf361
 v145:=zeroValue361
 t167:=underlying301
 a167:=isAgg301
 z167:=sizeOf301
 v167:=zeroValue301
 t168:=underlying304
 a168:=isAgg304
 z168:=sizeOf304
 v168:=zeroValue304
 t171:=underlying334
 a171:=isAgg334
 z171:=sizeOf334
 v171:=zeroValue334
 t173:=underlying336
 a173:=isAgg336
 z173:=sizeOf336
 v173:=zeroValue336
 t175:=underlying338
 a175:=isAgg338
 z175:=sizeOf338
 v175:=zeroValue338
 t210:=underlying342
 a210:=isAgg342
 z210:=sizeOf342
 v210:=zeroValue342
 t212:=underlying356
 a212:=isAgg356
 z212:=sizeOf356
 v212:=zeroValue356
 t213:=underlying357
 a213:=isAgg357
 z213:=sizeOf357
 t232:=underlying365
 a232:=isAgg365
 z232:=sizeOf365
 v232:=zeroValue365
 t233:=underlying366
 a233:=isAgg366
 z233:=sizeOf366
 v233:=zeroValue366
 g15:=z
 g16:=z
 g17:=z
 g18:=z
 g19:=z
 t80:=underlying166
 a80:=isAgg166
 z80:=sizeOf166
 v80:=zeroValue166
 i0:=z
 i2:=z
 i3:=z
 i4:=z
 i5:=z
 i9:=z
 i20:=z
 i21:=z
 i37:=z
 i46:=z
 i51:=z
 i53:=z
 i75:=z
 i76:=z
 i80:=z
 i85:=z
 i127:=z
 i143:=z
 i145:=z
 i167:=z
 i168:=z
 i171:=z
 i173:=z
 i175:=z
 i210:=z
 i212:=z
 i232:=z
 i233:=z
 m15:=z
 m16:=z
 m17:=z
 m18:=z
 m19:=z
 c0:=z
 c2:=z
 c3:=z
 c4:=z
 c5:=z
 c9:=z
 c20:=z
 c21:=z
 c37:=z
 c46:=z
 c51:=z
 c53:=z
 c75:=z
 c76:=z
 c80:=z
 c85:=z
 c127:=z
 c143:=z
 c145:=z
 c167:=z
 c168:=z
 c171:=z
 c173:=z
 c175:=z
 c210:=z
 c212:=z
 c213:=z
 c232:=z
 c233:=by kernel_rfl}
open Go.RowKit in
theorem Tryz.strconv_Atoi_ok(s:ByteArray)(a:s.size<=9223372036854775806)(v:Int)(h:Lib.atoiAll s.data.toList=.ok v)(w:G):
  M 147 #[aD s] w λe w'=>e=aJ (aG #[I J v,.nilIface])/\(w'=w\/∃t,w'=Lib.bytesWorld w 5 t):=Any.strconv_Atoi_ok Tryz.laysC172 s a v h w
open Go.RowKit in
open Go.RowKit in
open Go.RowKit in
theorem Tryz.strconv_Atoi_syntax_var(s:ByteArray)(a:s.size<=281474976710656)(h:Lib.atoiAll s.data.toList=.«syntax»)(c:TypeId)(p:Value)(w:World)(b:w.var? Tryz.prog "strconv.ErrSyntax" =some #[.iface c p]):
  M 147 #[aD s] w λe w'=>∃N,e=aJ (aG #[I J 0,.iface 304<|aF<|K ⟨N,0,Z⟩])/\w.heap.size<=N/\w'.heap[N]?=K (.cells #[aD ⟨#[65,116,111,105]⟩,aD s,.iface c p] 342 (0,0))/\ag w w':=Any.strconv_Atoi_syntax_var Tryz.laysC172 s a h c p w b
open Go.RowKit in
theorem Tryz.strconv_Atoi_range_var(s:ByteArray)(a:s.size<=281474976710656)(h:Lib.atoiAll s.data.toList=.range)(c:TypeId)(p:Value)(w:World)(b:w.var? Tryz.prog "strconv.ErrRange" =some #[.iface c p]):
  M 147 #[aD s] w λe w'=>∃N,e=aJ (aG #[I J (Lib.atoiSat s.data.toList),.iface 304<|aF<|K ⟨N,0,Z⟩])/\w.heap.size<=N/\w'.heap[N]?=K (.cells #[aD ⟨#[65,116,111,105]⟩,aD s,.iface c p] 342 (0,0))/\ag w w':=Any.strconv_Atoi_range_var Tryz.laysC172 s a h c p w b
end Go.Proofs

namespace Go.Proofs
open Tryz
open Option renaming some->K
open Go.Shelf
def Tryz.sortNd_ren:Go.Shelf.Ren:=⟨fun |6=>124|15=>164|14=>181|28=>208|29=>209|20=>219|21=>220|22=>221|23=>222|24=>223|25=>224|26=>225|27=>226|46=>274|47=>249|48=>250|49=>275|50=>276|57=>297|n=>n,fun |22=>138|24=>83|25=>206|3=>3|39=>238|0=>0|53=>280|55=>282|4=>4|46=>274|45=>273|50=>70|5=>5|9=>9|66=>313|70=>317|76=>346|77=>172|n=>n,fun |n=>n⟩
theorem Tryz.sortNd:Go.Proofs.SlLaysF0.n6 prog Tryz.sortNd_ren:={
 mixed:=z
 f6:=⟨Tryz.f124.name,ae,func124.trans<|bd K z⟩
 f14:=⟨Tryz.f181.name,ae,func181.trans<|bd K z⟩
 f15:=func164.trans<|bd K z
 f20:=⟨Tryz.f219.name,ae,func219.trans<|bd K z⟩
 f21:=⟨Tryz.f220.name,ae,func220.trans<|bd K z⟩
 f22:=⟨Tryz.f221.name,ae,func221.trans<|bd K z⟩
 f23:=⟨Tryz.f222.name,ae,func222.trans<|bd K z⟩
 f24:=⟨Tryz.f223.name,ae,func223.trans<|bd K z⟩
 f25:=⟨Tryz.f224.name,ae,func224.trans<|bd K z⟩
 f26:=⟨Tryz.f225.name,ae,func225.trans<|bd K z⟩
 f27:=⟨Tryz.f226.name,ae,func226.trans<|bd K z⟩
 f28:=func208.trans<|bd K z
 f29:=func209.trans<|bd K z
 f46:=⟨Tryz.f274.name,ae,func274.trans<|bd K z⟩
 f47:=func249.trans<|bd K z
 f48:=func250.trans<|bd K z
 f49:=⟨Tryz.f275.name,ae,func275.trans<|bd K z⟩
 f50:=⟨Tryz.f276.name,ae,func276.trans<|bd K z⟩
 f57:=⟨Tryz.f297.name,ae,func297.trans<|bd K z⟩
 t0:=underlying0
 a0:=isAgg0
 z0:=sizeOf0
 v0:=zeroValue0
 t3:=underlying3
 a3:=isAgg3
 z3:=sizeOf3
 v3:=zeroValue3
 t4:=underlying4
 a4:=isAgg4
 z4:=sizeOf4
 v4:=zeroValue4
 t5:=underlying5
 a5:=isAgg5
 z5:=sizeOf5
 v5:=zeroValue5
 t9:=underlying9
 a9:=isAgg9
 z9:=sizeOf9
 v9:=zeroValue9
 t22:=underlying138
 a22:=isAgg138
 z22:=sizeOf138
 v22:=zeroValue138
 t25:=underlying206
 a25:=isAgg206
 z25:=sizeOf206
 v25:=zeroValue206
 t39:=underlying238
 a39:=isAgg238
 z39:=sizeOf238
 v39:=zeroValue238
 t45:=underlying273
 a45:=isAgg273
 z45:=sizeOf273
 v45:=zeroValue273
 t46:=underlying274
 a46:=isAgg274
 z46:=sizeOf274
 v46:=zeroValue274
 t50:=underlying70
 a50:=isAgg70
 z50:=sizeOf70
 v50:=zeroValue70
 t53:=underlying280
 a53:=isAgg280
 z53:=sizeOf280
 v53:=zeroValue280
 t55:=underlying282
 a55:=isAgg282
 z55:=sizeOf282
 v55:=zeroValue282
 t66:=underlying313
 a66:=isAgg313
 z66:=sizeOf313
 v66:=zeroValue313
 t70:=underlying317
 a70:=isAgg317
 z70:=sizeOf317
 v70:=zeroValue317
 t76:=underlying346
 a76:=isAgg346
 z76:=sizeOf346
 v76:=zeroValue346
 t77:=underlying172
 a77:=isAgg172
 z77:=sizeOf172
 v77:=zeroValue172}
end Go.Proofs
namespace Go.Proofs
open Tryz
open Option renaming some->K
open Go.Shelf
def Tryz.sortPc_ren:Go.Shelf.Ren:=⟨fun |6=>156|15=>164|14=>199|28=>208|29=>209|20=>240|21=>241|22=>242|23=>243|24=>244|25=>245|26=>246|27=>247|46=>286|47=>249|48=>250|49=>287|50=>288|57=>304|n=>n,fun |22=>168|24=>171|25=>228|3=>3|39=>238|0=>0|53=>280|55=>282|4=>4|46=>274|45=>273|50=>70|5=>5|9=>9|66=>313|70=>317|76=>346|77=>172|n=>n,fun |n=>n⟩
theorem Tryz.sortPc:Go.Proofs.SlLaysF0.n6 prog Tryz.sortPc_ren:={
 mixed:=z
 f6:=⟨Tryz.f156.name,ae,func156.trans<|bd K z⟩
 f14:=⟨Tryz.f199.name,ae,func199.trans<|bd K z⟩
 f15:=func164.trans<|bd K z
 f20:=⟨Tryz.f240.name,ae,func240.trans<|bd K z⟩
 f21:=⟨Tryz.f241.name,ae,func241.trans<|bd K z⟩
 f22:=⟨Tryz.f242.name,ae,func242.trans<|bd K z⟩
 f23:=⟨Tryz.f243.name,ae,func243.trans<|bd K z⟩
 f24:=⟨Tryz.f244.name,ae,func244.trans<|bd K z⟩
 f25:=⟨Tryz.f245.name,ae,func245.trans<|bd K z⟩
 f26:=⟨Tryz.f246.name,ae,func246.trans<|bd K z⟩
 f27:=⟨Tryz.f247.name,ae,func247.trans<|bd K z⟩
 f28:=func208.trans<|bd K z
 f29:=func209.trans<|bd K z
 f46:=⟨Tryz.f286.name,ae,func286.trans<|bd K z⟩
 f47:=func249.trans<|bd K z
 f48:=func250.trans<|bd K z
 f49:=⟨Tryz.f287.name,ae,func287.trans<|bd K z⟩
 f50:=⟨Tryz.f288.name,ae,func288.trans<|bd K z⟩
 f57:=⟨Tryz.f304.name,ae,func304.trans<|bd K z⟩
 t0:=underlying0
 a0:=isAgg0
 z0:=sizeOf0
 v0:=zeroValue0
 t3:=underlying3
 a3:=isAgg3
 z3:=sizeOf3
 v3:=zeroValue3
 t4:=underlying4
 a4:=isAgg4
 z4:=sizeOf4
 v4:=zeroValue4
 t5:=underlying5
 a5:=isAgg5
 z5:=sizeOf5
 v5:=zeroValue5
 t9:=underlying9
 a9:=isAgg9
 z9:=sizeOf9
 v9:=zeroValue9
 t22:=underlying168
 a22:=isAgg168
 z22:=sizeOf168
 v22:=zeroValue168
 t25:=underlying228
 a25:=isAgg228
 z25:=sizeOf228
 v25:=zeroValue228
 t39:=underlying238
 a39:=isAgg238
 z39:=sizeOf238
 v39:=zeroValue238
 t45:=underlying273
 a45:=isAgg273
 z45:=sizeOf273
 v45:=zeroValue273
 t46:=underlying274
 a46:=isAgg274
 z46:=sizeOf274
 v46:=zeroValue274
 t50:=underlying70
 a50:=isAgg70
 z50:=sizeOf70
 v50:=zeroValue70
 t53:=underlying280
 a53:=isAgg280
 z53:=sizeOf280
 v53:=zeroValue280
 t55:=underlying282
 a55:=isAgg282
 z55:=sizeOf282
 v55:=zeroValue282
 t66:=underlying313
 a66:=isAgg313
 z66:=sizeOf313
 v66:=zeroValue313
 t70:=underlying317
 a70:=isAgg317
 z70:=sizeOf317
 v70:=zeroValue317
 t76:=underlying346
 a76:=isAgg346
 z76:=sizeOf346
 v76:=zeroValue346
 t77:=underlying172
 a77:=isAgg172
 z77:=sizeOf172
 v77:=zeroValue172}
end Go.Proofs
namespace Go.Proofs
open Tryz
open Option renaming some->K
open Go.Shelf
def Tryz.pdqSd_ren:Go.Shelf.Ren:=⟨fun |14=>163|20=>200|21=>201|22=>202|23=>203|24=>204|25=>205|26=>206|27=>207|46=>248|47=>249|48=>250|49=>251|50=>252|15=>164|57=>289|28=>208|29=>209|n=>n,fun |24=>175|22=>132|3=>3|25=>180|4=>4|0=>0|46=>274|45=>273|50=>70|66=>313|39=>238|55=>282|70=>317|76=>346|77=>172|53=>280|5=>5|9=>9|n=>n,fun |n=>n⟩
theorem Tryz.pdqSd:Go.Proofs.SlLaysF.n14 prog Tryz.pdqSd_ren:={
 mixed:=z
 f14:=⟨Tryz.f163.name,ae,func163.trans<|bd K z⟩
 f15:=func164.trans<|bd K z
 f20:=⟨Tryz.f200.name,ae,func200.trans<|bd K z⟩
 f21:=⟨Tryz.f201.name,ae,func201.trans<|bd K z⟩
 f22:=⟨Tryz.f202.name,ae,func202.trans<|bd K z⟩
 f23:=⟨Tryz.f203.name,ae,func203.trans<|bd K z⟩
 f24:=⟨Tryz.f204.name,ae,func204.trans<|bd K z⟩
 f25:=⟨Tryz.f205.name,ae,func205.trans<|bd K z⟩
 f26:=⟨Tryz.f206.name,ae,func206.trans<|bd K z⟩
 f27:=⟨Tryz.f207.name,ae,func207.trans<|bd K z⟩
 f28:=func208.trans<|bd K z
 f29:=func209.trans<|bd K z
 f46:=⟨Tryz.f248.name,ae,func248.trans<|bd K z⟩
 f47:=func249.trans<|bd K z
 f48:=func250.trans<|bd K z
 f49:=⟨Tryz.f251.name,ae,func251.trans<|bd K z⟩
 f50:=⟨Tryz.f252.name,ae,func252.trans<|bd K z⟩
 f57:=⟨Tryz.f289.name,ae,func289.trans<|bd K z⟩
 t0:=underlying0
 a0:=isAgg0
 z0:=sizeOf0
 v0:=zeroValue0
 t3:=underlying3
 a3:=isAgg3
 z3:=sizeOf3
 v3:=zeroValue3
 t4:=underlying4
 a4:=isAgg4
 z4:=sizeOf4
 v4:=zeroValue4
 t5:=underlying5
 a5:=isAgg5
 z5:=sizeOf5
 v5:=zeroValue5
 t9:=underlying9
 a9:=isAgg9
 z9:=sizeOf9
 v9:=zeroValue9
 t22:=underlying132
 a22:=isAgg132
 z22:=sizeOf132
 v22:=zeroValue132
 a24:=isAgg175
 z24:=sizeOf175
 t25:=underlying180
 a25:=isAgg180
 z25:=sizeOf180
 v25:=zeroValue180
 t39:=underlying238
 a39:=isAgg238
 z39:=sizeOf238
 v39:=zeroValue238
 t45:=underlying273
 a45:=isAgg273
 z45:=sizeOf273
 v45:=zeroValue273
 t46:=underlying274
 a46:=isAgg274
 z46:=sizeOf274
 v46:=zeroValue274
 t50:=underlying70
 a50:=isAgg70
 z50:=sizeOf70
 v50:=zeroValue70
 t53:=underlying280
 a53:=isAgg280
 z53:=sizeOf280
 v53:=zeroValue280
 t55:=underlying282
 a55:=isAgg282
 z55:=sizeOf282
 v55:=zeroValue282
 t66:=underlying313
 a66:=isAgg313
 z66:=sizeOf313
 v66:=zeroValue313
 t70:=underlying317
 a70:=isAgg317
 z70:=sizeOf317
 v70:=zeroValue317
 t76:=underlying346
 a76:=isAgg346
 z76:=sizeOf346
 v76:=zeroValue346
 t77:=underlying172
 a77:=isAgg172
 z77:=sizeOf172
 v77:=zeroValue172}
end Go.Proofs
