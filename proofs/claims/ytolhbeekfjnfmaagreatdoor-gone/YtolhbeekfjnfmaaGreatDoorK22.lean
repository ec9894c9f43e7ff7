import Derived.Test.YtolhbeekfjnfmaaGreatDoorK20
import Derived.Test.YtolhbeekfjnfmaaGreatDoorK15
import Derived.Test.YtolhbeekfjnfmaaGreatDoorK21
namespace Go.Proofs.YtolhbeekfjnfmaaGreatDoor
open Go.RowKit
theorem buildOK:∀ m,BuildOK m
 | 0=>by
  intro U ru q k bc lb fst av cv ss cs w hm h
  obtain rfl:=List.length_eq_zero_iff.1 hm
  exact build_nil U ru q k bc lb fst av cv ss w h
 | m+1=>by
  intro U ru q k bc lb fst av cv ss cs w hm h
  cases cs with
  | nil=>simp at hm
  | cons c cs=>
   rw [List.length_cons] at hm
   by_cases hn:c.neg=true
   ·exact build_neg m (buildOK m) U ru q k bc lb fst av cv ss c cs w (by omega) h hn
   ·exact build_pos m (buildOK m) U ru q k bc lb fst av cv ss c cs w (by omega) h (by simpa using hn)
theorem newChainOK:NewChainOK:=fun U ru q nm cv cs w h1 h2 h3 h4=>newChain_w buildOK U ru q nm cv cs w h1 h2 h3 h4
end Go.Proofs.YtolhbeekfjnfmaaGreatDoor
