/-
  DERIVED. GIVEN WITH THE SEED: THE CARDS: each row of YtellieabhaphhabGreatDoorRows.lean that lists a variable, with what it lists TIED to the program's text (the seventh form; the later family's looks); each row that meets fmt, with fmt's text TOLD by the authors' own Lean function (tested against real Go, not proved from fmt's source: count such statements apart). THE CARD IS WHAT COUNTS. Prove the row's statement (the work); the ties are given (YtellieabhaphhabGreatDoorTie.lean); close each card by the builder's one call (the guide's Derived/Test/ToyasCard.lean, 'card_holds'). Laid BY PROGRAM, IN A SANDBOX (cutbox-door.mjs). By AI agents, Wed Nov 11 2026. No macro, syntax, notation, axiom, sorry.
-/
import Derived.Test.YtellieabhaphhabGreatDoorRows
import GoSem.ClaimSeven
namespace Go.Proofs.YtellieabhaphhabGreatDoor
namespace Rows

/-- THE TIED CARD OF 'narrowlaw.Pruned'. -/
def prunedCard : Claim7 := { stood := { row := prunedRow, standIns := [], harness := (true, "ca8102dabdad42c019309989037286ecafd45ef406ff59e71c7c6016f1799b8e"), looks := false }, kinds := [], alts := [], laidByText := true, laidKinds := [.data, .data, .data], laidTests := true, laidLooks := .later }
def PrunedCardSaid : Prop := Claim7.holds Tryz.pinned (.plain (OpenSpec.ofChange prunedSpec)) prunedCard

/-- THE TIED CARD OF 'narrowlaw.All'. -/
def allCard : Claim7 := { stood := { row := allRow, standIns := [], harness := (true, "ca8102dabdad42c019309989037286ecafd45ef406ff59e71c7c6016f1799b8e"), looks := false }, kinds := [], alts := [], laidByText := true, laidKinds := [.data, .data, .data], laidTests := true, laidLooks := .later }
def AllCardSaid : Prop := Claim7.holds Tryz.pinned (.plain (OpenSpec.ofChange allSpec)) allCard

/-- THE SECOND FORM's CARD OF 'narrowlaw.Pruned'. -/
def prunedUptoCard : Claim7 := { stood := { row := prunedUptoRow, standIns := [], harness := (true, "ca8102dabdad42c019309989037286ecafd45ef406ff59e71c7c6016f1799b8e"), looks := false }, kinds := [], alts := [], laidByText := true, laidKinds := [.data, .data, .data], laidTests := true, laidLooks := .later }
def PrunedUptoCardSaid : Prop := Claim7.holds Tryz.pinned (.plain (OpenSpec.upto prunedSpec)) prunedUptoCard

/-- THE SECOND FORM's CARD OF 'narrowlaw.All'. -/
def allUptoCard : Claim7 := { stood := { row := allUptoRow, standIns := [], harness := (true, "ca8102dabdad42c019309989037286ecafd45ef406ff59e71c7c6016f1799b8e"), looks := false }, kinds := [], alts := [], laidByText := true, laidKinds := [.data, .data, .data], laidTests := true, laidLooks := .later }
def AllUptoCardSaid : Prop := Claim7.holds Tryz.pinned (.plain (OpenSpec.upto allSpec)) allUptoCard
end Rows
end Go.Proofs.YtellieabhaphhabGreatDoor
