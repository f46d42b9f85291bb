/-
  DERIVED. GIVEN WITH THE SEED: THE CARDS: each row of YtellieabhaphhaaGreatDoorRows.lean that lists a variable, with what it lists TIED to the program's text (the seventh form; the later family's looks); each row that meets fmt, with fmt's text TOLD by the authors' own Lean function (tested against real Go, not proved from fmt's source: count such statements apart). THE CARD IS WHAT COUNTS. Prove the row's statement (the work); the ties are given (YtellieabhaphhaaGreatDoorTie.lean); close each card by the builder's one call (the guide's Derived/Test/ToyasCard.lean, 'card_holds'). Laid BY PROGRAM, IN A SANDBOX (cutbox-door.mjs). By AI agents, Wed Nov 11 2026. No macro, syntax, notation, axiom, sorry.
-/
import Derived.Test.YtellieabhaphhaaGreatDoorRows
import GoSem.ClaimSeven
namespace Go.Proofs.YtellieabhaphhaaGreatDoor
namespace Rows

/-- THE TIED CARD OF 'narrowlaw.Runs'. -/
def runsCard : Claim7 := { stood := { row := runsRow, standIns := [], harness := (true, "b2942351cbe3dcf1bdd89af25204dfede13c4116dfb47add95cf3ae56b6abcb0"), looks := false }, kinds := [], alts := [], laidByText := true, laidKinds := [.data, .data, .data], laidTests := true, laidLooks := .later }
def RunsCardSaid : Prop := Claim7.holds Tryz.pinned (.plain (OpenSpec.ofChange runsSpec)) runsCard

/-- THE TIED CARD OF 'narrowlaw.Graphs'. -/
def graphsCard : Claim7 := { stood := { row := graphsRow, standIns := [], harness := (true, "b2942351cbe3dcf1bdd89af25204dfede13c4116dfb47add95cf3ae56b6abcb0"), looks := false }, kinds := [], alts := [], laidByText := true, laidKinds := [.data, .data, .data], laidTests := true, laidLooks := .later }
def GraphsCardSaid : Prop := Claim7.holds Tryz.pinned (.plain (OpenSpec.ofChange graphsSpec)) graphsCard

/-- THE TIED CARD OF 'narrowlaw.Walks'. -/
def walksCard : Claim7 := { stood := { row := walksRow, standIns := [], harness := (true, "b2942351cbe3dcf1bdd89af25204dfede13c4116dfb47add95cf3ae56b6abcb0"), looks := false }, kinds := [], alts := [], laidByText := true, laidKinds := [.data, .data, .data], laidTests := true, laidLooks := .later }
def WalksCardSaid : Prop := Claim7.holds Tryz.pinned (.plain (OpenSpec.ofChange walksSpec)) walksCard

/-- THE TIED CARD OF 'narrowlaw.Faithful'. -/
def faithfulCard : Claim7 := { stood := { row := faithfulRow, standIns := [], harness := (true, "b2942351cbe3dcf1bdd89af25204dfede13c4116dfb47add95cf3ae56b6abcb0"), looks := false }, kinds := [], alts := [], laidByText := true, laidKinds := [.data, .data, .data], laidTests := true, laidLooks := .later }
def FaithfulCardSaid : Prop := Claim7.holds Tryz.pinned (.plain (OpenSpec.ofChange faithfulSpec)) faithfulCard

/-- THE TIED CARD OF 'narrowlaw.Longer'. -/
def longerCard : Claim7 := { stood := { row := longerRow, standIns := [], harness := (true, "b2942351cbe3dcf1bdd89af25204dfede13c4116dfb47add95cf3ae56b6abcb0"), looks := false }, kinds := [], alts := [], laidByText := true, laidKinds := [.data, .data, .data], laidTests := true, laidLooks := .later }
def LongerCardSaid : Prop := Claim7.holds Tryz.pinned (.plain (OpenSpec.ofChange longerSpec)) longerCard

/-- THE TIED CARD OF 'narrowlaw.Flows'. -/
def flowsCard : Claim7 := { stood := { row := flowsRow, standIns := [], harness := (true, "b2942351cbe3dcf1bdd89af25204dfede13c4116dfb47add95cf3ae56b6abcb0"), looks := false }, kinds := [], alts := [], laidByText := true, laidKinds := [.data, .data, .data], laidTests := true, laidLooks := .later }
def FlowsCardSaid : Prop := Claim7.holds Tryz.pinned (.plain (OpenSpec.ofChange flowsSpec)) flowsCard

/-- THE TIED CARD OF 'narrowlaw.Obeys'. -/
def obeysCard : Claim7 := { stood := { row := obeysRow, standIns := [], harness := (true, "b2942351cbe3dcf1bdd89af25204dfede13c4116dfb47add95cf3ae56b6abcb0"), looks := false }, kinds := [], alts := [], laidByText := true, laidKinds := [.data, .data, .data], laidTests := true, laidLooks := .later }
def ObeysCardSaid : Prop := Claim7.holds Tryz.pinned (.plain (OpenSpec.ofChange obeysSpec)) obeysCard

/-- THE TIED CARD OF 'narrowlaw.Least'. -/
def leastCard : Claim7 := { stood := { row := leastRow, standIns := [], harness := (true, "b2942351cbe3dcf1bdd89af25204dfede13c4116dfb47add95cf3ae56b6abcb0"), looks := false }, kinds := [], alts := [], laidByText := true, laidKinds := [.data, .data, .data], laidTests := true, laidLooks := .later }
def LeastCardSaid : Prop := Claim7.holds Tryz.pinned (.plain (OpenSpec.ofChange leastSpec)) leastCard

/-- THE TIED CARD OF 'narrowlaw.Sound'. -/
def soundCard : Claim7 := { stood := { row := soundRow, standIns := [], harness := (true, "b2942351cbe3dcf1bdd89af25204dfede13c4116dfb47add95cf3ae56b6abcb0"), looks := false }, kinds := [], alts := [], laidByText := true, laidKinds := [.data, .data, .data], laidTests := true, laidLooks := .later }
def SoundCardSaid : Prop := Claim7.holds Tryz.pinned (.plain (OpenSpec.ofChange soundSpec)) soundCard

/-- THE TIED CARD OF 'narrowlaw.Accepts'. -/
def acceptsCard : Claim7 := { stood := { row := acceptsRow, standIns := [], harness := (true, "b2942351cbe3dcf1bdd89af25204dfede13c4116dfb47add95cf3ae56b6abcb0"), looks := false }, kinds := [], alts := [], laidByText := true, laidKinds := [.data, .data, .data], laidTests := true, laidLooks := .later }
def AcceptsCardSaid : Prop := Claim7.holds Tryz.pinned (.plain (OpenSpec.ofChange acceptsSpec)) acceptsCard

/-- THE TIED CARD OF 'narrowlaw.Safe'. -/
def safeCard : Claim7 := { stood := { row := safeRow, standIns := [], harness := (true, "b2942351cbe3dcf1bdd89af25204dfede13c4116dfb47add95cf3ae56b6abcb0"), looks := false }, kinds := [], alts := [], laidByText := true, laidKinds := [.data, .data, .data], laidTests := true, laidLooks := .later }
def SafeCardSaid : Prop := Claim7.holds Tryz.pinned (.plain (OpenSpec.ofChange safeSpec)) safeCard

/-- THE TIED CARD OF 'narrowlaw.Prunes'. -/
def prunesCard : Claim7 := { stood := { row := prunesRow, standIns := [], harness := (true, "b2942351cbe3dcf1bdd89af25204dfede13c4116dfb47add95cf3ae56b6abcb0"), looks := false }, kinds := [], alts := [], laidByText := true, laidKinds := [.data, .data, .data], laidTests := true, laidLooks := .later }
def PrunesCardSaid : Prop := Claim7.holds Tryz.pinned (.plain (OpenSpec.ofChange prunesSpec)) prunesCard

/-- THE SECOND FORM's CARD OF 'narrowlaw.Runs'. -/
def runsUptoCard : Claim7 := { stood := { row := runsUptoRow, standIns := [], harness := (true, "b2942351cbe3dcf1bdd89af25204dfede13c4116dfb47add95cf3ae56b6abcb0"), looks := false }, kinds := [], alts := [], laidByText := true, laidKinds := [.data, .data, .data], laidTests := true, laidLooks := .later }
def RunsUptoCardSaid : Prop := Claim7.holds Tryz.pinned (.plain (OpenSpec.upto runsSpec)) runsUptoCard

/-- THE SECOND FORM's CARD OF 'narrowlaw.Graphs'. -/
def graphsUptoCard : Claim7 := { stood := { row := graphsUptoRow, standIns := [], harness := (true, "b2942351cbe3dcf1bdd89af25204dfede13c4116dfb47add95cf3ae56b6abcb0"), looks := false }, kinds := [], alts := [], laidByText := true, laidKinds := [.data, .data, .data], laidTests := true, laidLooks := .later }
def GraphsUptoCardSaid : Prop := Claim7.holds Tryz.pinned (.plain (OpenSpec.upto graphsSpec)) graphsUptoCard

/-- THE SECOND FORM's CARD OF 'narrowlaw.Walks'. -/
def walksUptoCard : Claim7 := { stood := { row := walksUptoRow, standIns := [], harness := (true, "b2942351cbe3dcf1bdd89af25204dfede13c4116dfb47add95cf3ae56b6abcb0"), looks := false }, kinds := [], alts := [], laidByText := true, laidKinds := [.data, .data, .data], laidTests := true, laidLooks := .later }
def WalksUptoCardSaid : Prop := Claim7.holds Tryz.pinned (.plain (OpenSpec.upto walksSpec)) walksUptoCard

/-- THE SECOND FORM's CARD OF 'narrowlaw.Faithful'. -/
def faithfulUptoCard : Claim7 := { stood := { row := faithfulUptoRow, standIns := [], harness := (true, "b2942351cbe3dcf1bdd89af25204dfede13c4116dfb47add95cf3ae56b6abcb0"), looks := false }, kinds := [], alts := [], laidByText := true, laidKinds := [.data, .data, .data], laidTests := true, laidLooks := .later }
def FaithfulUptoCardSaid : Prop := Claim7.holds Tryz.pinned (.plain (OpenSpec.upto faithfulSpec)) faithfulUptoCard

/-- THE SECOND FORM's CARD OF 'narrowlaw.Longer'. -/
def longerUptoCard : Claim7 := { stood := { row := longerUptoRow, standIns := [], harness := (true, "b2942351cbe3dcf1bdd89af25204dfede13c4116dfb47add95cf3ae56b6abcb0"), looks := false }, kinds := [], alts := [], laidByText := true, laidKinds := [.data, .data, .data], laidTests := true, laidLooks := .later }
def LongerUptoCardSaid : Prop := Claim7.holds Tryz.pinned (.plain (OpenSpec.upto longerSpec)) longerUptoCard

/-- THE SECOND FORM's CARD OF 'narrowlaw.Flows'. -/
def flowsUptoCard : Claim7 := { stood := { row := flowsUptoRow, standIns := [], harness := (true, "b2942351cbe3dcf1bdd89af25204dfede13c4116dfb47add95cf3ae56b6abcb0"), looks := false }, kinds := [], alts := [], laidByText := true, laidKinds := [.data, .data, .data], laidTests := true, laidLooks := .later }
def FlowsUptoCardSaid : Prop := Claim7.holds Tryz.pinned (.plain (OpenSpec.upto flowsSpec)) flowsUptoCard

/-- THE SECOND FORM's CARD OF 'narrowlaw.Obeys'. -/
def obeysUptoCard : Claim7 := { stood := { row := obeysUptoRow, standIns := [], harness := (true, "b2942351cbe3dcf1bdd89af25204dfede13c4116dfb47add95cf3ae56b6abcb0"), looks := false }, kinds := [], alts := [], laidByText := true, laidKinds := [.data, .data, .data], laidTests := true, laidLooks := .later }
def ObeysUptoCardSaid : Prop := Claim7.holds Tryz.pinned (.plain (OpenSpec.upto obeysSpec)) obeysUptoCard

/-- THE SECOND FORM's CARD OF 'narrowlaw.Least'. -/
def leastUptoCard : Claim7 := { stood := { row := leastUptoRow, standIns := [], harness := (true, "b2942351cbe3dcf1bdd89af25204dfede13c4116dfb47add95cf3ae56b6abcb0"), looks := false }, kinds := [], alts := [], laidByText := true, laidKinds := [.data, .data, .data], laidTests := true, laidLooks := .later }
def LeastUptoCardSaid : Prop := Claim7.holds Tryz.pinned (.plain (OpenSpec.upto leastSpec)) leastUptoCard

/-- THE SECOND FORM's CARD OF 'narrowlaw.Sound'. -/
def soundUptoCard : Claim7 := { stood := { row := soundUptoRow, standIns := [], harness := (true, "b2942351cbe3dcf1bdd89af25204dfede13c4116dfb47add95cf3ae56b6abcb0"), looks := false }, kinds := [], alts := [], laidByText := true, laidKinds := [.data, .data, .data], laidTests := true, laidLooks := .later }
def SoundUptoCardSaid : Prop := Claim7.holds Tryz.pinned (.plain (OpenSpec.upto soundSpec)) soundUptoCard

/-- THE SECOND FORM's CARD OF 'narrowlaw.Accepts'. -/
def acceptsUptoCard : Claim7 := { stood := { row := acceptsUptoRow, standIns := [], harness := (true, "b2942351cbe3dcf1bdd89af25204dfede13c4116dfb47add95cf3ae56b6abcb0"), looks := false }, kinds := [], alts := [], laidByText := true, laidKinds := [.data, .data, .data], laidTests := true, laidLooks := .later }
def AcceptsUptoCardSaid : Prop := Claim7.holds Tryz.pinned (.plain (OpenSpec.upto acceptsSpec)) acceptsUptoCard

/-- THE SECOND FORM's CARD OF 'narrowlaw.Safe'. -/
def safeUptoCard : Claim7 := { stood := { row := safeUptoRow, standIns := [], harness := (true, "b2942351cbe3dcf1bdd89af25204dfede13c4116dfb47add95cf3ae56b6abcb0"), looks := false }, kinds := [], alts := [], laidByText := true, laidKinds := [.data, .data, .data], laidTests := true, laidLooks := .later }
def SafeUptoCardSaid : Prop := Claim7.holds Tryz.pinned (.plain (OpenSpec.upto safeSpec)) safeUptoCard

/-- THE SECOND FORM's CARD OF 'narrowlaw.Prunes'. -/
def prunesUptoCard : Claim7 := { stood := { row := prunesUptoRow, standIns := [], harness := (true, "b2942351cbe3dcf1bdd89af25204dfede13c4116dfb47add95cf3ae56b6abcb0"), looks := false }, kinds := [], alts := [], laidByText := true, laidKinds := [.data, .data, .data], laidTests := true, laidLooks := .later }
def PrunesUptoCardSaid : Prop := Claim7.holds Tryz.pinned (.plain (OpenSpec.upto prunesSpec)) prunesUptoCard
end Rows
end Go.Proofs.YtellieabhaphhaaGreatDoor
