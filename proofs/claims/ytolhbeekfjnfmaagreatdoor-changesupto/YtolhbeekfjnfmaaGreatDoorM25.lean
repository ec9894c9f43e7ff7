import Derived.Test.YtolhbeekfjnfmaaGreatDoorMA
import Derived.Test.YtolhbeekfjnfmaaGreatDoorM23
import Derived.Test.YtolhbeekfjnfmaaGreatDoorM21
import Derived.Test.YtolhbeekfjnfmaaGreatDoorM24
namespace Go.Proofs.YtolhbeekfjnfmaaGreatDoor
open Go.RowKit
theorem buildOK:∀m,M2 m
 | 0=>by
  intro U ru q k bc lb fst av cv ss cs w hm h;obtain rfl:=CO.1 hm;exact Xp U ru q k bc lb fst av cv ss w h
 | m+1=>by
  intro U ru q k bc lb fst av cv ss cs w hm h;cases cs with
  | nil=>simp at hm
  | cons c cs=>
   rw[AP] at hm;by_cases hn:c.neg=true
   ·exact Xf m (buildOK m) U ru q k bc lb fst av cv ss c cs w (by omega) h hn
   ·exact Xq m (buildOK m) U ru q k bc lb fst av cv ss c cs w (by omega) h (by simpa using hn)
theorem Uh:Mq:=fun U ru q nm cv cs w h1 h2 h3 h4=>Tx buildOK U ru q nm cv cs w h1 h2 h3 h4
end Go.Proofs.YtolhbeekfjnfmaaGreatDoor
