import Derived.Test.YtolhbeekfjnfmaaGreatDoorAA
import Derived.Shelf.SlSortCmp.WholeK
import Derived.Shelf.SlSortCmp.NoneTotal
import Derived.Test.YtolhbeekfjnfmaaGreatDoorProg
namespace Go.Proofs.YtolhbeekfjnfmaaGreatDoor
open Go.Proofs.Tryz
open Go.Shelf
def Q3F:Go.Shelf.Ren:=⟨fun|6=>114|15=>147|14=>146|28=>174|29=>175|20=>166|21=>167|22=>168|23=>169|24=>170|25=>171|26=>172|27=>173|46=>193|47=>194|48=>195|49=>196|50=>197|57=>208|n=>n,fun|22=>141|24=>139|25=>154|3=>3|39=>277|0=>0|53=>307|55=>309|4=>4|46=>301|45=>300|50=>280|5=>5|9=>9|66=>320|70=>324|76=>335|77=>336|n=>n,fun|n=>n⟩
theorem Q4T:Go.Proofs.SlLaysF0.n6 prog Q3F:={
 mixed:=by kernel_rfl
 f6:=⟨f114.name,by decide,func114.trans (BJ some (by kernel_rfl))⟩
 f14:=⟨f146.name,by decide,func146.trans (BJ some (by kernel_rfl))⟩
 f15:=func147.trans (BJ some (by kernel_rfl))
 f20:=⟨f166.name,by decide,func166.trans (BJ some (by kernel_rfl))⟩
 f21:=⟨f167.name,by decide,func167.trans (BJ some (by kernel_rfl))⟩
 f22:=⟨f168.name,by decide,func168.trans (BJ some (by kernel_rfl))⟩
 f23:=⟨Tryz.f169.name,by decide,func169.trans (BJ some (by kernel_rfl))⟩
 f24:=⟨f170.name,by decide,func170.trans (BJ some (by kernel_rfl))⟩
 f25:=⟨Tryz.f171.name,by decide,func171.trans (BJ some (by kernel_rfl))⟩
 f26:=⟨f172.name,by decide,func172.trans (BJ some (by kernel_rfl))⟩
 f27:=⟨f173.name,by decide,func173.trans (BJ some (by kernel_rfl))⟩
 f28:=func174.trans (BJ some (by kernel_rfl))
 f29:=func175.trans (BJ some (by kernel_rfl))
 f46:=⟨f193.name,by decide,func193.trans (BJ some (by kernel_rfl))⟩
 f47:=func194.trans (BJ some (by kernel_rfl))
 f48:=func195.trans (BJ some (by kernel_rfl))
 f49:=⟨f196.name,by decide,func196.trans (BJ some (by kernel_rfl))⟩
 f50:=⟨f197.name,by decide,func197.trans (BJ some (by kernel_rfl))⟩
 f57:=⟨f208.name,by decide,func208.trans (BJ some (by kernel_rfl))⟩
 t0:=underlying0
 a0:=isAgg0
 z0:=sizeOf0
 v0:=zeroValue0
 t3:=underlying3
 a3:=isAgg3
 z3:=sizeOf3
 v3:=zeroValue3
 t4:=underlying4
 a4:=isAgg4
 z4:=sizeOf4
 v4:=zeroValue4
 t5:=underlying5
 a5:=isAgg5
 z5:=sizeOf5
 v5:=zeroValue5
 t9:=underlying9
 a9:=isAgg9
 z9:=sizeOf9
 v9:=zeroValue9
 t22:=underlying141
 a22:=isAgg141
 z22:=sizeOf141
 v22:=zeroValue141
 t25:=underlying154
 a25:=isAgg154
 z25:=sizeOf154
 v25:=zeroValue154
 t39:=underlying277
 a39:=isAgg277
 z39:=sizeOf277
 v39:=zeroValue277
 t45:=underlying300
 a45:=isAgg300
 z45:=sizeOf300
 v45:=zeroValue300
 t46:=underlying301
 a46:=isAgg301
 z46:=sizeOf301
 v46:=zeroValue301
 t50:=underlying280
 a50:=isAgg280
 z50:=sizeOf280
 v50:=zeroValue280
 t53:=underlying307
 a53:=isAgg307
 z53:=sizeOf307
 v53:=zeroValue307
 t55:=underlying309
 a55:=isAgg309
 z55:=sizeOf309
 v55:=zeroValue309
 t66:=underlying320
 a66:=isAgg320
 z66:=sizeOf320
 v66:=zeroValue320
 t70:=underlying324
 a70:=isAgg324
 z70:=sizeOf324
 v70:=zeroValue324
 t76:=underlying335
 a76:=isAgg335
 z76:=sizeOf335
 v76:=zeroValue335
 t77:=underlying336
 a77:=isAgg336
 z77:=sizeOf336
 v77:=zeroValue336 }
end Go.Proofs.YtolhbeekfjnfmaaGreatDoor
