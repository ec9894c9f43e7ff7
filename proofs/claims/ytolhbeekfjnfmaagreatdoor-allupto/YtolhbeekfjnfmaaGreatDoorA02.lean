import Derived.Test.YtolhbeekfjnfmaaGreatDoorAA
import Derived.Shelf.Strings.BuilderF
import Derived.Shelf.LaysM
import Derived.Shelf.Strconv.Itoa3
import Derived.Shelf.Strconv.Clone
import Derived.Test.YtolhbeekfjnfmaaGreatDoorProg
namespace Go.Proofs.YtolhbeekfjnfmaaGreatDoor
open Go.Proofs.Tryz
open Go.Shelf
def Q2T:Go.Shelf.Ren:=⟨fun|169=>67|n=>n,fun|70=>122|9=>9|0=>0|72=>125|37=>123|127=>202|3=>3|5=>5|n=>n,fun|n=>n⟩
theorem Q5X:Go.Proofs.Lays.n169 prog Q2T:={
 mixed:=by kernel_rfl
 f169:=func67.trans (BJ some (by kernel_rfl))
 t0:=underlying0
 a0:=isAgg0
 z0:=sizeOf0
 v0:=zeroValue0
 t3:=underlying3
 a3:=isAgg3
 z3:=sizeOf3
 v3:=zeroValue3
 t9:=underlying9
 a9:=isAgg9
 z9:=sizeOf9
 v9:=zeroValue9
 t37:=underlying123
 a37:=isAgg123
 z37:=sizeOf123
 v37:=zeroValue123
 t70:=underlying122
 a70:=isAgg122
 z70:=sizeOf122
 v70:=zeroValue122
 t72:=underlying125
 a72:=isAgg125
 z72:=sizeOf125
 v72:=zeroValue125
 t127:=underlying202
 a127:=isAgg202
 z127:=sizeOf202
 v127:=zeroValue202 }
theorem Q2Y:Builder.Extra prog Q2T:={
 sizeBuilder:=by kernel_rfl
 liesBuilder:=by kernel_rfl
 t5:=underlying5
 a5:=isAgg5
 z5:=sizeOf5
 v5:=zeroValue5
 infoByte:=by kernel_rfl
 cellsByte:=by kernel_rfl
 sizeByte:=by kernel_rfl
 neB5:=by decide }
open Go.RowKit in
theorem Q2I(B b:Nat)(l:List UInt8)(w:World)(h:Lib.IsBuilderF 125 5 B b (Lib.byteCells l) w)(pz:B<=w.heap.size):
  Calls prog 67 #[.pointer (some ⟨b,0,none⟩)] w λe w'=>e=.returned (.string ⟨l.toArray⟩)/\(Lib.IsBuilderF 125 5 B b (Lib.byteCells l) w'/\Below B w w'):=Any.Builder_String_any_f Q5X Q2Y B b l w h pz
def Q4A:Go.Shelf.Ren:=⟨fun|171=>131|243=>159|246=>182|283=>200|284=>201|285=>202|286=>203|129=>175|317=>211|318=>212|319=>213|320=>214|337=>216|338=>217|n=>n,fun|3=>3|9=>9|2=>2|4=>4|171=>328|0=>0|53=>309|37=>123|5=>5|173=>330|212=>340|51=>307|20=>20|213=>341|46=>277|232=>343|233=>344|n=>n,fun|17=>3|18=>4|19=>5|n=>n⟩
theorem Q5G:Go.Proofs.LaysM.n171 prog Q4A:={
 mixed:=by kernel_rfl
 f129:=func175.trans (BJ some (by kernel_rfl))
 f171:=func131.trans (BJ some (by kernel_rfl))
 f243:=func159.trans (BJ some (by kernel_rfl))
 f246:=func182.trans (BJ some (by kernel_rfl))
 f283:=func200.trans (BJ some (by kernel_rfl))
 f284:=func201.trans (BJ some (by kernel_rfl))
 f285:=func202.trans (BJ some (by kernel_rfl))
 f286:=func203.trans (BJ some (by kernel_rfl))
 f317:=func211.trans (BJ some (by kernel_rfl))
 f318:=func212.trans (BJ some (by kernel_rfl))
 f319:=func213.trans (BJ some (by kernel_rfl))
 f320:=func214.trans (BJ some (by kernel_rfl))
 f337:=func216.trans (BJ some (by kernel_rfl))
 f338:=func217.trans (BJ some (by kernel_rfl))
 t0:=underlying0
 a0:=isAgg0
 z0:=sizeOf0
 v0:=zeroValue0
 t2:=underlying2
 a2:=isAgg2
 z2:=sizeOf2
 v2:=zeroValue2
 t3:=underlying3
 a3:=isAgg3
 z3:=sizeOf3
 v3:=zeroValue3
 t4:=underlying4
 a4:=isAgg4
 z4:=sizeOf4
 v4:=zeroValue4
 t5:=underlying5
 a5:=isAgg5
 z5:=sizeOf5
 v5:=zeroValue5
 t9:=underlying9
 a9:=isAgg9
 z9:=sizeOf9
 v9:=zeroValue9
 t20:=underlying20
 a20:=isAgg20
 z20:=sizeOf20
 v20:=zeroValue20
 t37:=underlying123
 a37:=isAgg123
 z37:=sizeOf123
 v37:=zeroValue123
 t46:=underlying277
 a46:=isAgg277
 z46:=sizeOf277
 v46:=zeroValue277
 t51:=underlying307
 a51:=isAgg307
 z51:=sizeOf307
 v51:=zeroValue307
 t53:=underlying309
 a53:=isAgg309
 z53:=sizeOf309
 v53:=zeroValue309
 t171:=underlying328
 a171:=isAgg328
 z171:=sizeOf328
 v171:=zeroValue328
 t173:=underlying330
 a173:=isAgg330
 z173:=sizeOf330
 v173:=zeroValue330
 t212:=underlying340
 a212:=isAgg340
 z212:=sizeOf340
 v212:=zeroValue340
 t213:=underlying341
 a213:=isAgg341
 z213:=sizeOf341
 t232:=underlying343
 a232:=isAgg343
 z232:=sizeOf343
 v232:=zeroValue343
 t233:=underlying344
 a233:=isAgg344
 z233:=sizeOf344
 v233:=zeroValue344
 g17:=by kernel_rfl
 g18:=by kernel_rfl
 g19:=by kernel_rfl
 i0:=by kernel_rfl
 i2:=by kernel_rfl
 i3:=by kernel_rfl
 i4:=by kernel_rfl
 i5:=by kernel_rfl
 i9:=by kernel_rfl
 i20:=by kernel_rfl
 i37:=by kernel_rfl
 i46:=by kernel_rfl
 i51:=by kernel_rfl
 i53:=by kernel_rfl
 i171:=by kernel_rfl
 i173:=by kernel_rfl
 i212:=by kernel_rfl
 i232:=by kernel_rfl
 i233:=by kernel_rfl
 m17:=by kernel_rfl
 m18:=by kernel_rfl
 m19:=by kernel_rfl }
open Go.RowKit Go.Sort Go.Lib in
theorem Q4E(n:Int)(h0:-9223372036854775808<=n)(h1:n<=9223372036854775807)(w:World)(dc:Lib.TabIs prog w "internal/strconv.uint64pow10" .u64 Lib.pow10Tab):
  Calls prog 131 #[.int .i64 n] w λe w'=>e=.returned (.string ⟨(Lib.itoa n).toArray⟩)/\∃k os,w'=grow (w.drewN k) os:=Any.strconv_Itoa Q5G n h0 h1 w dc
def Q4B:Go.Shelf.Ren:=⟨fun|316=>179|n=>n,fun|9=>9|3=>3|4=>4|37=>123|0=>0|127=>202|5=>5|n=>n,fun|n=>n⟩
theorem Q5H:Go.Proofs.LaysM.n316 prog Q4B:={
 mixed:=by kernel_rfl
 f316:=func179.trans (BJ some (by kernel_rfl))
 t0:=underlying0
 a0:=isAgg0
 z0:=sizeOf0
 v0:=zeroValue0
 t3:=underlying3
 a3:=isAgg3
 z3:=sizeOf3
 v3:=zeroValue3
 t4:=underlying4
 a4:=isAgg4
 z4:=sizeOf4
 v4:=zeroValue4
 t9:=underlying9
 a9:=isAgg9
 z9:=sizeOf9
 v9:=zeroValue9
 t37:=underlying123
 a37:=isAgg123
 z37:=sizeOf123
 v37:=zeroValue123
 t127:=underlying202
 a127:=isAgg202
 z127:=sizeOf202
 v127:=zeroValue202
 t5:=underlying5
 a5:=isAgg5
 z5:=sizeOf5
 v5:=zeroValue5
 i0:=by kernel_rfl
 i3:=by kernel_rfl
 i4:=by kernel_rfl
 i5:=by kernel_rfl
 i9:=by kernel_rfl
 i37:=by kernel_rfl
 i127:=by kernel_rfl }
open Go.RowKit in
theorem Q3C(s:ByteArray)(w:World)(XK:s.size<=281474976710656):
  Calls prog 179 #[.string s] w λe w'=>e=.returned (.string s)/\Below w.heap.size w w':=Any.stringslite_Clone Q5H s w XK
end Go.Proofs.YtolhbeekfjnfmaaGreatDoor
