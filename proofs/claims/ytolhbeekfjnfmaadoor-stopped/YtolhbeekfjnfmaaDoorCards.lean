/-
  DERIVED. GIVEN WITH THE SEED: THE CARDS: each row of YtolhbeekfjnfmaaDoorRows.lean that lists a variable, with what it lists TIED to the program's text (the seventh form; the later family's looks); each row that meets fmt, with fmt's text TOLD by the authors' own Lean function (tested against real Go, not proved from fmt's source: count such statements apart). THE CARD IS WHAT COUNTS. Prove the row's statement (the work); the ties are given (YtolhbeekfjnfmaaDoorTie.lean); close each card by the builder's one call (the guide's Derived/Test/ToyasCard.lean, 'card_holds'). Laid BY PROGRAM, IN A SANDBOX (cutbox-door.mjs). By AI agents, Wed Nov 11 2026. No macro, syntax, notation, axiom, sorry.
-/
import Derived.Test.YtolhbeekfjnfmaaDoorRows
import GoSem.ClaimSeven
namespace Go.Proofs.YtolhbeekfjnfmaaDoor
namespace Rows

/-- THE TIED CARD OF 'sievekeep.Stopped'. -/
def stoppedCard : Claim7 := { stood := { row := stoppedRow, standIns := [], harness := (true, "ceac0e82394cad2aa7fd1784aee4956b4e6f6e5f7946884a985499aaab840952"), looks := true }, kinds := [], alts := [], laidByText := true, laidKinds := [.data, .data, .data, .handle, .sentinel, .sentinel], laidTests := true, laidLooks := .later }
def StoppedCardSaid : Prop := Claim7.holds Tryd.pinned (.plain (OpenSpec.ofChange stoppedSpec)) stoppedCard

/-- THE SECOND FORM's CARD OF 'sievekeep.Stopped'. -/
def stoppedUptoCard : Claim7 := { stood := { row := stoppedUptoRow, standIns := [], harness := (true, "ceac0e82394cad2aa7fd1784aee4956b4e6f6e5f7946884a985499aaab840952"), looks := true }, kinds := [], alts := [], laidByText := true, laidKinds := [.data, .data, .data, .handle, .sentinel, .sentinel], laidTests := true, laidLooks := .later }
def StoppedUptoCardSaid : Prop := Claim7.holds Tryd.pinned (.plain (OpenSpec.upto stoppedSpec)) stoppedUptoCard
end Rows
end Go.Proofs.YtolhbeekfjnfmaaDoor
