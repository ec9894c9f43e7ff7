import Derived.Test.YtolhbeekfjnfmaaGreatDoorM45
namespace Go.Proofs.YtolhbeekfjnfmaaGreatDoor
open Go.ChangeShapes Go.WideShapes Go.ChangeAt Go.RowKit
open Go.WideMaps Go.WideElems
open Go.ChangeMaps (open_string shut_string)
theorem growsC1:(Rows.growsUptoRow.inPlace == Tryz.prog.inPlace 4)=true:=by kernel_rfl
theorem growsC2:(Rows.growsUptoRow.unfollowed == Tryz.prog.unfollowed 4)=true:=by kernel_rfl
theorem growsC3:(Rows.growsUptoRow.recurses == Tryz.prog.recurses 4)=true:=by kernel_rfl
theorem growsC4:(Rows.growsUptoRow.named == Tryz.prog.varsNamed 4)=true:=by kernel_rfl
theorem growsC:joinedFacts Tryz.prog 4 Tryz.f4 (Rows.OpenSpec.upto Rows.growsSpec).bare Rows.growsUptoRow=true:=by
 unfold joinedFacts
 rw [growsC1,growsC2,growsC3,growsC4]
 kernel_rfl
end Go.Proofs.YtolhbeekfjnfmaaGreatDoor
