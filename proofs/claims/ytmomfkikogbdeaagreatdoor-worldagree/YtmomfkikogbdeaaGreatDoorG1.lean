import Derived.Shelf.Slices.Clone
import Derived.Shelf.Small.Bits
import Derived.Shelf.Strconv.Itoa3
import Derived.Shelf.Strings.OnBuilder
import Derived.Test.YtmomfkikogbdeaaGreatDoorProg
open Go.Proofs.Tryz
open Go.Ending renaming returned->dF
open Go.IntKind renaming i64->J
open Go.Proofs.Tryz renaming prog->aB,underlying3->aP
open Go.Value renaming int->E,slice->F
namespace Go.Proofs
open Go.Shelf
def Tryz.lays156_ren:Go.Shelf.Ren:=⟨fun|156=>106|165=>168|166=>169|169=>170|240=>214|241=>215|276=>259|277=>260|n=>n,fun|31=>22|9=>9|3=>3|4=>4|0=>0|20=>20|72=>264|76=>268|70=>261|37=>262|75=>267|127=>308|164=>342|5=>5|80=>270|n=>n,fun|n=>n⟩
theorem Tryz.lays156:Go.Proofs.Lays.n156 aB Tryz.lays156_ren:={
 mixed:=by kernel_rfl
 f156:=func106.trans (congrArg some (by kernel_rfl))
 f165:=func168.trans (congrArg some (by kernel_rfl))
 f166:=func169.trans (congrArg some (by kernel_rfl))
 f169:=func170.trans (congrArg some (by kernel_rfl))
 f240:=func214.trans (congrArg some (by kernel_rfl))
 f241:=func215.trans (congrArg some (by kernel_rfl))
 f276:=func259.trans (congrArg some (by kernel_rfl))
 f277:=func260.trans (congrArg some (by kernel_rfl))
 t0:=underlying0
 a0:=Tryz.isAgg0
 z0:=Tryz.sizeOf0
 v0:=zeroValue0
 t3:=aP
 a3:=Tryz.isAgg3
 z3:=Tryz.sizeOf3
 v3:=zeroValue3
 t4:=underlying4
 a4:=Tryz.isAgg4
 z4:=Tryz.sizeOf4
 v4:=zeroValue4
 t9:=underlying9
 a9:=Tryz.isAgg9
 z9:=Tryz.sizeOf9
 v9:=zeroValue9
 t20:=underlying20
 a20:=Tryz.isAgg20
 z20:=Tryz.sizeOf20
 v20:=zeroValue20
 t31:=underlying22
 a31:=Tryz.isAgg22
 z31:=Tryz.sizeOf22
 v31:=zeroValue22
 t37:=underlying262
 a37:=Tryz.isAgg262
 z37:=Tryz.sizeOf262
 v37:=zeroValue262
 t70:=underlying261
 a70:=Tryz.isAgg261
 z70:=Tryz.sizeOf261
 v70:=zeroValue261
 t72:=underlying264
 a72:=Tryz.isAgg264
 z72:=Tryz.sizeOf264
 v72:=zeroValue264
 t75:=underlying267
 a75:=Tryz.isAgg267
 z75:=Tryz.sizeOf267
 v75:=zeroValue267
 t76:=underlying268
 a76:=Tryz.isAgg268
 z76:=Tryz.sizeOf268
 v76:=zeroValue268
 t127:=underlying308
 a127:=Tryz.isAgg308
 z127:=Tryz.sizeOf308
 v127:=zeroValue308
 t164:=underlying342
 a164:=Tryz.isAgg342
 z164:=Tryz.sizeOf342
 v164:=zeroValue342 }
theorem Tryz.Builder_Extra_156:Builder.Extra aB Tryz.lays156_ren:={
 sizeBuilder:=by kernel_rfl
 liesBuilder:=by kernel_rfl
 t5:=underlying5
 a5:=Tryz.isAgg5
 z5:=Tryz.sizeOf5
 v5:=zeroValue5
 infoByte:=by kernel_rfl
 cellsByte:=by kernel_rfl
 sizeByte:=by kernel_rfl
 neB5:=by decide }
open Go.RowKit in
theorem Tryz.strings_Join_none(a c)(aa:ByteArray)(w) :
  Calls aB 106 #[F a 0 c,.string aa] w λe w'=>e = dF (.string ⟨#[]⟩)/\w'=w:=Any.strings_Join_none Tryz.lays156 Tryz.Builder_Extra_156 a c aa w
open Go.RowKit in
theorem Tryz.strings_Join(bk o c:Nat)(xs:List ByteArray)(ab:ByteArray)(w:World)(ae:∀ (j:Nat) x,xs[j]? = some x->w.cell? ⟨bk,o+j,none⟩=some (.string x))(ac:bk<w.heap.size)(hN:xs.length<=140737488355328)(ad:xs.length<=c)(af:(Lib.join (xs.map (·.data.toList)) ab.data.toList).length<=140737488355328) :
  Calls aB 106 #[F (some ⟨bk,o,none⟩) xs.length c,.string ab] w λe w'=>e = dF (.string ⟨(Lib.join (xs.map (·.data.toList)) ab.data.toList).toArray⟩)/\Below w.heap.size w w':=Any.strings_Join Tryz.lays156 Tryz.Builder_Extra_156 bk o c xs ab w ae ac hN ad af
def Tryz.laysM171_ren:Go.Shelf.Ren:=⟨fun|171=>167|243=>213|246=>258|283=>287|284=>288|285=>289|286=>290|129=>187|317=>306|318=>307|319=>308|320=>309|337=>330|338=>331|n=>n,fun|3=>3|9=>9|2=>2|4=>4|171=>366|0=>0|53=>284|37=>262|5=>5|173=>368|212=>381|51=>282|20=>20|213=>382|46=>202|232=>389|233=>390|n=>n,fun|17=>2|18=>3|19=>4|n=>n⟩
theorem Tryz.laysM171:Go.Proofs.LaysM.n171 aB Tryz.laysM171_ren:={
 mixed:=by kernel_rfl
 f129:=func187.trans (congrArg some (by kernel_rfl))
 f171:=func167.trans (congrArg some (by kernel_rfl))
 f243:=func213.trans (congrArg some (by kernel_rfl))
 f246:=func258.trans (congrArg some (by kernel_rfl))
 f283:=func287.trans (congrArg some (by kernel_rfl))
 f284:=func288.trans (congrArg some (by kernel_rfl))
 f285:=func289.trans (congrArg some (by kernel_rfl))
 f286:=func290.trans (congrArg some (by kernel_rfl))
 f317:=func306.trans (congrArg some (by kernel_rfl))
 f318:=func307.trans (congrArg some (by kernel_rfl))
 f319:=func308.trans (congrArg some (by kernel_rfl))
 f320:=func309.trans (congrArg some (by kernel_rfl))
 f337:=func330.trans (congrArg some (by kernel_rfl))
 f338:=func331.trans (congrArg some (by kernel_rfl))
 t0:=underlying0
 a0:=Tryz.isAgg0
 z0:=Tryz.sizeOf0
 v0:=zeroValue0
 t2:=underlying2
 a2:=Tryz.isAgg2
 z2:=Tryz.sizeOf2
 v2:=zeroValue2
 t3:=aP
 a3:=Tryz.isAgg3
 z3:=Tryz.sizeOf3
 v3:=zeroValue3
 t4:=underlying4
 a4:=Tryz.isAgg4
 z4:=Tryz.sizeOf4
 v4:=zeroValue4
 t5:=underlying5
 a5:=Tryz.isAgg5
 z5:=Tryz.sizeOf5
 v5:=zeroValue5
 t9:=underlying9
 a9:=Tryz.isAgg9
 z9:=Tryz.sizeOf9
 v9:=zeroValue9
 t20:=underlying20
 a20:=Tryz.isAgg20
 z20:=Tryz.sizeOf20
 v20:=zeroValue20
 t37:=underlying262
 a37:=Tryz.isAgg262
 z37:=Tryz.sizeOf262
 v37:=zeroValue262
 t46:=underlying202
 a46:=Tryz.isAgg202
 z46:=Tryz.sizeOf202
 v46:=zeroValue202
 t51:=underlying282
 a51:=Tryz.isAgg282
 z51:=Tryz.sizeOf282
 v51:=zeroValue282
 t53:=underlying284
 a53:=Tryz.isAgg284
 z53:=Tryz.sizeOf284
 v53:=zeroValue284
 t171:=underlying366
 a171:=Tryz.isAgg366
 z171:=Tryz.sizeOf366
 v171:=zeroValue366
 t173:=underlying368
 a173:=Tryz.isAgg368
 z173:=Tryz.sizeOf368
 v173:=zeroValue368
 t212:=underlying381
 a212:=Tryz.isAgg381
 z212:=Tryz.sizeOf381
 v212:=zeroValue381
 t213:=underlying382
 a213:=Tryz.isAgg382
 z213:=Tryz.sizeOf382
 t232:=underlying389
 a232:=Tryz.isAgg389
 z232:=Tryz.sizeOf389
 v232:=zeroValue389
 t233:=underlying390
 a233:=Tryz.isAgg390
 z233:=Tryz.sizeOf390
 v233:=zeroValue390
 g17:=by kernel_rfl
 g18:=by kernel_rfl
 g19:=by kernel_rfl
 i0:=by kernel_rfl
 i2:=by kernel_rfl
 i3:=by kernel_rfl
 i4:=by kernel_rfl
 i5:=by kernel_rfl
 i9:=by kernel_rfl
 i20:=by kernel_rfl
 i37:=by kernel_rfl
 i46:=by kernel_rfl
 i51:=by kernel_rfl
 i53:=by kernel_rfl
 i171:=by kernel_rfl
 i173:=by kernel_rfl
 i212:=by kernel_rfl
 i232:=by kernel_rfl
 i233:=by kernel_rfl
 m17:=by kernel_rfl
 m18:=by kernel_rfl
 m19:=by kernel_rfl }
open Go.RowKit Go.Sort Go.Lib in
theorem Tryz.strconv_Itoa(n:Int)(h0 : -9223372036854775808<=n)(h1:n<=9223372036854775807)(w:World)(aa:Lib.TabIs aB w "internal/strconv.uint64pow10" .u64 Lib.pow10Tab) :
  Calls aB 167 #[E J n] w λe w'=>e = dF (.string ⟨(Lib.itoa n).toArray⟩)/\∃ k os,w'=grow (w.drewN k) os:=Any.strconv_Itoa Tryz.laysM171 n h0 h1 w aa
def Tryz.laysNm215_ren:Go.Shelf.Ren:=⟨fun|15=>47|n=>n,fun|22=>25|3=>3|4=>4|n=>n,fun|n=>n⟩
theorem Tryz.laysNm215:Go.Proofs.Lays2.n15 aB Tryz.laysNm215_ren:={
 mixed:=by kernel_rfl
 f15:=func47.trans (congrArg some (by kernel_rfl))
 t3:=aP
 a3:=Tryz.isAgg3
 z3:=Tryz.sizeOf3
 v3:=zeroValue3
 t4:=underlying4
 a4:=Tryz.isAgg4
 z4:=Tryz.sizeOf4
 v4:=zeroValue4
 t22:=underlying25
 a22:=Tryz.isAgg25
 z22:=Tryz.sizeOf25
 v22:=zeroValue25
 i3:=by kernel_rfl }
open Go.RowKit Go.Lib in
theorem Tryz.slices_Clone_int(b off n c:Nat)(zs:List Int)(w:World)(hz:n<=zs.length)(aa:n*8<=140737488355328)(hc:∀ j,j<zs.length->w.cell? ⟨b,off+j,none⟩=some (E J (zs.getD j 0))) :
  Calls aB 47 #[F (some ⟨b,off,none⟩) n c] w λe w'=>∃ v',e = dF v'/\w'.ownsRow w.heap.size 3 1 v' n ((zs.take n).map (Value.int .i64))/\v' ≠ F none 0 0/\Below w.heap.size w w':=Any.slices_Clone_int Tryz.laysNm215 b off n c zs w hz aa hc
end Go.Proofs
