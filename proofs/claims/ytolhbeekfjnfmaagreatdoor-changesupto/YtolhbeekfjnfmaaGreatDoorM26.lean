import Derived.Test.YtolhbeekfjnfmaaGreatDoorM24
import Derived.Test.YtolhbeekfjnfmaaGreatDoorM25
namespace Go.Proofs.YtolhbeekfjnfmaaGreatDoor
open Go.RowKit
theorem buildOK:∀m,Mq m
 | 0=>by
  intro U ru q k bc lb fst av cv ss cs w hm h;obtain rfl:=CM.1 hm;exact Vd U ru q k bc lb fst av cv ss w h
 | m+1=>by
  intro U ru q k bc lb fst av cv ss cs w hm h;cases cs with
  | nil=>simp at hm
  | cons c cs=>
   rw[AP] at hm;by_cases hn:c.neg=true
   ·exact Vc m (buildOK m) U ru q k bc lb fst av cv ss c cs w (by omega) h hn
   ·exact Ve m (buildOK m) U ru q k bc lb fst av cv ss c cs w (by omega) h (by simpa using hn)
theorem Tq:Ll:=fun U ru q nm cv cs w h1 h2 h3 h4=>Tr buildOK U ru q nm cv cs w h1 h2 h3 h4
end Go.Proofs.YtolhbeekfjnfmaaGreatDoor
