import Derived.Test.YtolhbeekfjnfmaaGreatDoorAA
import Derived.Shelf.Sort.Plain
import Derived.Shelf.Slices.Reverse
import Derived.Test.YtolhbeekfjnfmaaGreatDoorProg
namespace Go.Proofs.YtolhbeekfjnfmaaGreatDoor
open Go.Proofs.Tryz
open Go.Shelf
def Q4L:Go.Shelf.Ren:=⟨fun|189=>142|125=>147|257=>164|128=>174|129=>175|294=>184|295=>185|296=>186|297=>187|298=>188|299=>189|216=>190|300=>191|301=>192|328=>205|329=>194|330=>195|331=>206|332=>207|215=>165|343=>215|n=>n,fun|28=>35|3=>3|46=>277|0=>0|51=>307|53=>309|4=>4|183=>301|182=>300|131=>280|5=>5|9=>9|218=>320|222=>324|228=>335|229=>336|n=>n,fun|n=>n⟩
theorem Q5Y:Go.Proofs.Lays.n189 prog Q4L:={
 mixed:=by kernel_rfl
 f125:=func147.trans (BJ some (by kernel_rfl))
 f128:=func174.trans (BJ some (by kernel_rfl))
 f129:=func175.trans (BJ some (by kernel_rfl))
 f189:=func142.trans (BJ some (by kernel_rfl))
 f215:=func165.trans (BJ some (by kernel_rfl))
 f216:=func190.trans (BJ some (by kernel_rfl))
 f257:=func164.trans (BJ some (by kernel_rfl))
 f294:=func184.trans (BJ some (by kernel_rfl))
 f295:=func185.trans (BJ some (by kernel_rfl))
 f296:=func186.trans (BJ some (by kernel_rfl))
 f297:=func187.trans (BJ some (by kernel_rfl))
 f298:=func188.trans (BJ some (by kernel_rfl))
 f299:=func189.trans (BJ some (by kernel_rfl))
 f300:=func191.trans (BJ some (by kernel_rfl))
 f301:=func192.trans (BJ some (by kernel_rfl))
 f328:=func205.trans (BJ some (by kernel_rfl))
 f329:=func194.trans (BJ some (by kernel_rfl))
 f330:=func195.trans (BJ some (by kernel_rfl))
 f331:=func206.trans (BJ some (by kernel_rfl))
 f332:=func207.trans (BJ some (by kernel_rfl))
 f343:=func215.trans (BJ some (by kernel_rfl))
 t0:=underlying0
 a0:=isAgg0
 z0:=sizeOf0
 v0:=zeroValue0
 t3:=underlying3
 a3:=isAgg3
 z3:=sizeOf3
 v3:=zeroValue3
 t4:=underlying4
 a4:=isAgg4
 z4:=sizeOf4
 v4:=zeroValue4
 t5:=underlying5
 a5:=isAgg5
 z5:=sizeOf5
 v5:=zeroValue5
 t9:=underlying9
 a9:=isAgg9
 z9:=sizeOf9
 v9:=zeroValue9
 t28:=underlying35
 a28:=isAgg35
 z28:=sizeOf35
 v28:=zeroValue35
 t46:=underlying277
 a46:=isAgg277
 z46:=sizeOf277
 v46:=zeroValue277
 t51:=underlying307
 a51:=isAgg307
 z51:=sizeOf307
 v51:=zeroValue307
 t53:=underlying309
 a53:=isAgg309
 z53:=sizeOf309
 v53:=zeroValue309
 t131:=underlying280
 a131:=isAgg280
 z131:=sizeOf280
 v131:=zeroValue280
 t182:=underlying300
 a182:=isAgg300
 z182:=sizeOf300
 v182:=zeroValue300
 t183:=underlying301
 a183:=isAgg301
 z183:=sizeOf301
 v183:=zeroValue301
 t218:=underlying320
 a218:=isAgg320
 z218:=sizeOf320
 v218:=zeroValue320
 t222:=underlying324
 a222:=isAgg324
 z222:=sizeOf324
 v222:=zeroValue324
 t228:=underlying335
 a228:=isAgg335
 z228:=sizeOf335
 v228:=zeroValue335
 t229:=underlying336
 a229:=isAgg336
 z229:=sizeOf336
 v229:=zeroValue336 }
open Go.Sort Go.RowKit in
theorem Q3Q(blk off cap:Nat)(zs:List Int)(w:World)(hH:Holds (Value.int .i64) w blk off zs.toArray)(hblk:blk<w.heap.size)(hsz:zs.length<4611686018427387904):
  Calls prog 142 #[.slice (some ⟨blk,off,none⟩) zs.length cap] w λe w'=>
   e=.returned (.tuple #[])/\∃n os,w'=grow (putRow (Value.int .i64) (Sort.ahead w n) blk off (zs.mergeSort λx y=>decide (x<=y)).toArray) os:=Any.slices_Sort_int Q5Y blk off cap zs w hH hblk hsz
def Q4K:Go.Shelf.Ren:=⟨fun|112=>143|n=>n,fun|28=>35|3=>3|4=>4|0=>0|n=>n,fun|n=>n⟩
theorem Q5W:Go.Proofs.Lays.n112 prog Q4K:={
 mixed:=by kernel_rfl
 f112:=func143.trans (BJ some (by kernel_rfl))
 t0:=underlying0
 a0:=isAgg0
 z0:=sizeOf0
 v0:=zeroValue0
 t3:=underlying3
 a3:=isAgg3
 z3:=sizeOf3
 v3:=zeroValue3
 t4:=underlying4
 a4:=isAgg4
 z4:=sizeOf4
 v4:=zeroValue4
 t28:=underlying35
 a28:=isAgg35
 z28:=sizeOf35
 v28:=zeroValue35 }
open Go.RowKit Go.Lib Go.Sort in
theorem Q2W(blk off cap:Nat)(zs:List Int)(w:World)(hH:Holds (Value.int .i64) w blk off zs.toArray)(hsz:zs.length<=9223372036854775807):
  Calls prog 143 #[.slice (some ⟨blk,off,none⟩) zs.length cap] w λe w'=>e=.returned (.tuple #[])/\∃n,w'=putRow (Value.int .i64) (Sort.ahead w n) blk off zs.reverse.toArray:=Any.slices_Reverse_int Q5W blk off cap zs w hH hsz
end Go.Proofs.YtolhbeekfjnfmaaGreatDoor
