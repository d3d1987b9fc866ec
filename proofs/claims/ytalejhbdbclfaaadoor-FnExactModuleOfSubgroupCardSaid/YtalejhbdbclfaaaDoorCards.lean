/-
  DERIVED. GIVEN WITH THE SEED: THE CARDS: each row of YtalejhbdbclfaaaDoorRows.lean that lists a variable, with what it lists TIED to the program's text (the seventh form; the later family's looks); each row that meets fmt, with fmt's text TOLD by the authors' own Lean function (tested against real Go, not proved from fmt's source: count such statements apart). THE CARD IS WHAT COUNTS. Prove the row's statement (the work); the ties are given (YtalejhbdbclfaaaDoorTie.lean); close each card by the builder's one call (the guide's Derived/Test/ToyasCard.lean, 'card_holds'). Laid BY PROGRAM, IN A SANDBOX (cutbox-door.mjs). By AI agents, Wed Nov 11 2026. No macro, syntax, notation, axiom, sorry.
-/
import Derived.Test.YtalejhbdbclfaaaDoorRows
import GoSem.ClaimSeven
namespace Go.Proofs.YtalejhbdbclfaaaDoor
namespace Rows

/-- THE TIED CARD OF 'laws.FnExactGroupOfSubgroup'. -/
def fnExactGroupOfSubgroupCard : Claim7 := { stood := { row := fnExactGroupOfSubgroupRow, standIns := [], harness := (true, "8d197146cf650eeb4008695533fd218b4f3951d8a79fa783c8e23111f4cdd38f"), looks := false }, kinds := [], alts := [], laidByText := true, laidKinds := [.data], laidTests := true, laidLooks := .later }
def FnExactGroupOfSubgroupCardSaid : Prop := Claim7.holds Tryd.pinned (.plain (OpenSpec.ofChange fnExactGroupOfSubgroupSpec)) fnExactGroupOfSubgroupCard

/-- THE TIED CARD OF 'laws.FnExactModuleOfSubgroup'. -/
def fnExactModuleOfSubgroupCard : Claim7 := { stood := { row := fnExactModuleOfSubgroupRow, standIns := [], harness := (true, "8d197146cf650eeb4008695533fd218b4f3951d8a79fa783c8e23111f4cdd38f"), looks := false }, kinds := [], alts := [], laidByText := true, laidKinds := [.data], laidTests := true, laidLooks := .later }
def FnExactModuleOfSubgroupCardSaid : Prop := Claim7.holds Tryd.pinned (.plain (OpenSpec.ofChange fnExactModuleOfSubgroupSpec)) fnExactModuleOfSubgroupCard

/-- THE TIED CARD OF 'laws.FnExactRepresentativesOf'. -/
def fnExactRepresentativesOfCard : Claim7 := { stood := { row := fnExactRepresentativesOfRow, standIns := [], harness := (true, "8d197146cf650eeb4008695533fd218b4f3951d8a79fa783c8e23111f4cdd38f"), looks := false }, kinds := [], alts := [], laidByText := true, laidKinds := [.data], laidTests := true, laidLooks := .later }
def FnExactRepresentativesOfCardSaid : Prop := Claim7.holds Tryd.pinned (.plain (OpenSpec.ofChange fnExactRepresentativesOfSpec)) fnExactRepresentativesOfCard

/-- THE TIED CARD OF 'laws.FnExactConjugateSubgroup'. -/
def fnExactConjugateSubgroupCard : Claim7 := { stood := { row := fnExactConjugateSubgroupRow, standIns := [], harness := (true, "8d197146cf650eeb4008695533fd218b4f3951d8a79fa783c8e23111f4cdd38f"), looks := false }, kinds := [], alts := [], laidByText := true, laidKinds := [.data], laidTests := true, laidLooks := .later }
def FnExactConjugateSubgroupCardSaid : Prop := Claim7.holds Tryd.pinned (.plain (OpenSpec.ofChange fnExactConjugateSubgroupSpec)) fnExactConjugateSubgroupCard

/-- THE TIED CARD OF 'laws.FnExactIndexOf'. -/
def fnExactIndexOfCard : Claim7 := { stood := { row := fnExactIndexOfRow, standIns := [], harness := (true, "8d197146cf650eeb4008695533fd218b4f3951d8a79fa783c8e23111f4cdd38f"), looks := false }, kinds := [], alts := [], laidByText := true, laidKinds := [.data], laidTests := true, laidLooks := .later }
def FnExactIndexOfCardSaid : Prop := Claim7.holds Tryd.pinned (.plain (OpenSpec.ofChange fnExactIndexOfSpec)) fnExactIndexOfCard

/-- THE TIED CARD OF 'laws.FnExactTransferElement'. -/
def fnExactTransferElementCard : Claim7 := { stood := { row := fnExactTransferElementRow, standIns := [], harness := (true, "8d197146cf650eeb4008695533fd218b4f3951d8a79fa783c8e23111f4cdd38f"), looks := false }, kinds := [], alts := [], laidByText := true, laidKinds := [.data], laidTests := true, laidLooks := .later }
def FnExactTransferElementCardSaid : Prop := Claim7.holds Tryd.pinned (.plain (OpenSpec.ofChange fnExactTransferElementSpec)) fnExactTransferElementCard

/-- THE TIED CARD OF 'laws.FnExactMoveCochain'. -/
def fnExactMoveCochainCard : Claim7 := { stood := { row := fnExactMoveCochainRow, standIns := [], harness := (true, "8d197146cf650eeb4008695533fd218b4f3951d8a79fa783c8e23111f4cdd38f"), looks := false }, kinds := [], alts := [], laidByText := true, laidKinds := [.sentinel], laidTests := true, laidLooks := .later }
def FnExactMoveCochainCardSaid : Prop := Claim7.holds Tryd.pinned (.plain (OpenSpec.ofChange fnExactMoveCochainSpec)) fnExactMoveCochainCard

/-- THE TIED CARD OF 'laws.FnExactPullBack'. -/
def fnExactPullBackCard : Claim7 := { stood := { row := fnExactPullBackRow, standIns := [], harness := (true, "8d197146cf650eeb4008695533fd218b4f3951d8a79fa783c8e23111f4cdd38f"), looks := false }, kinds := [], alts := [], laidByText := true, laidKinds := [.sentinel], laidTests := true, laidLooks := .later }
def FnExactPullBackCardSaid : Prop := Claim7.holds Tryd.pinned (.plain (OpenSpec.ofChange fnExactPullBackSpec)) fnExactPullBackCard

/-- THE TIED CARD OF 'laws.FnExactModuleOfChoice'. -/
def fnExactModuleOfChoiceCard : Claim7 := { stood := { row := fnExactModuleOfChoiceRow, standIns := [], harness := (true, "8d197146cf650eeb4008695533fd218b4f3951d8a79fa783c8e23111f4cdd38f"), looks := false }, kinds := [], alts := [], laidByText := true, laidKinds := [.data], laidTests := true, laidLooks := .later }
def FnExactModuleOfChoiceCardSaid : Prop := Claim7.holds Tryd.pinned (.plain (OpenSpec.ofChange fnExactModuleOfChoiceSpec)) fnExactModuleOfChoiceCard

/-- THE TIED CARD OF 'laws.FnExactFactorSetOfChoice'. -/
def fnExactFactorSetOfChoiceCard : Claim7 := { stood := { row := fnExactFactorSetOfChoiceRow, standIns := [], harness := (true, "8d197146cf650eeb4008695533fd218b4f3951d8a79fa783c8e23111f4cdd38f"), looks := false }, kinds := [], alts := [], laidByText := true, laidKinds := [.data, .sentinel], laidTests := true, laidLooks := .later }
def FnExactFactorSetOfChoiceCardSaid : Prop := Claim7.holds Tryd.pinned (.plain (OpenSpec.ofChange fnExactFactorSetOfChoiceSpec)) fnExactFactorSetOfChoiceCard

/-- THE TIED CARD OF 'laws.FnExactSubgroupsOf'. -/
def fnExactSubgroupsOfCard : Claim7 := { stood := { row := fnExactSubgroupsOfRow, standIns := [], harness := (true, "8d197146cf650eeb4008695533fd218b4f3951d8a79fa783c8e23111f4cdd38f"), looks := false }, kinds := [], alts := [], laidByText := true, laidKinds := [.data], laidTests := true, laidLooks := .later }
def FnExactSubgroupsOfCardSaid : Prop := Claim7.holds Tryd.pinned (.plain (OpenSpec.ofChange fnExactSubgroupsOfSpec)) fnExactSubgroupsOfCard

/-- THE TIED CARD OF 'laws.FnExactCentreOfExtension'. -/
def fnExactCentreOfExtensionCard : Claim7 := { stood := { row := fnExactCentreOfExtensionRow, standIns := [], harness := (true, "8d197146cf650eeb4008695533fd218b4f3951d8a79fa783c8e23111f4cdd38f"), looks := false }, kinds := [], alts := [], laidByText := true, laidKinds := [.data, .sentinel], laidTests := true, laidLooks := .later }
def FnExactCentreOfExtensionCardSaid : Prop := Claim7.holds Tryd.pinned (.plain (OpenSpec.ofChange fnExactCentreOfExtensionSpec)) fnExactCentreOfExtensionCard

/-- THE SECOND FORM's CARD OF 'laws.FnExactGroupOfSubgroup'. -/
def fnExactGroupOfSubgroupUptoCard : Claim7 := { stood := { row := fnExactGroupOfSubgroupUptoRow, standIns := [], harness := (true, "8d197146cf650eeb4008695533fd218b4f3951d8a79fa783c8e23111f4cdd38f"), looks := false }, kinds := [], alts := [], laidByText := true, laidKinds := [.data], laidTests := true, laidLooks := .later }
def FnExactGroupOfSubgroupUptoCardSaid : Prop := Claim7.holds Tryd.pinned (.plain (OpenSpec.upto fnExactGroupOfSubgroupSpec)) fnExactGroupOfSubgroupUptoCard

/-- THE SECOND FORM's CARD OF 'laws.FnExactModuleOfSubgroup'. -/
def fnExactModuleOfSubgroupUptoCard : Claim7 := { stood := { row := fnExactModuleOfSubgroupUptoRow, standIns := [], harness := (true, "8d197146cf650eeb4008695533fd218b4f3951d8a79fa783c8e23111f4cdd38f"), looks := false }, kinds := [], alts := [], laidByText := true, laidKinds := [.data], laidTests := true, laidLooks := .later }
def FnExactModuleOfSubgroupUptoCardSaid : Prop := Claim7.holds Tryd.pinned (.plain (OpenSpec.upto fnExactModuleOfSubgroupSpec)) fnExactModuleOfSubgroupUptoCard

/-- THE SECOND FORM's CARD OF 'laws.FnExactRepresentativesOf'. -/
def fnExactRepresentativesOfUptoCard : Claim7 := { stood := { row := fnExactRepresentativesOfUptoRow, standIns := [], harness := (true, "8d197146cf650eeb4008695533fd218b4f3951d8a79fa783c8e23111f4cdd38f"), looks := false }, kinds := [], alts := [], laidByText := true, laidKinds := [.data], laidTests := true, laidLooks := .later }
def FnExactRepresentativesOfUptoCardSaid : Prop := Claim7.holds Tryd.pinned (.plain (OpenSpec.upto fnExactRepresentativesOfSpec)) fnExactRepresentativesOfUptoCard

/-- THE SECOND FORM's CARD OF 'laws.FnExactConjugateSubgroup'. -/
def fnExactConjugateSubgroupUptoCard : Claim7 := { stood := { row := fnExactConjugateSubgroupUptoRow, standIns := [], harness := (true, "8d197146cf650eeb4008695533fd218b4f3951d8a79fa783c8e23111f4cdd38f"), looks := false }, kinds := [], alts := [], laidByText := true, laidKinds := [.data], laidTests := true, laidLooks := .later }
def FnExactConjugateSubgroupUptoCardSaid : Prop := Claim7.holds Tryd.pinned (.plain (OpenSpec.upto fnExactConjugateSubgroupSpec)) fnExactConjugateSubgroupUptoCard

/-- THE SECOND FORM's CARD OF 'laws.FnExactIndexOf'. -/
def fnExactIndexOfUptoCard : Claim7 := { stood := { row := fnExactIndexOfUptoRow, standIns := [], harness := (true, "8d197146cf650eeb4008695533fd218b4f3951d8a79fa783c8e23111f4cdd38f"), looks := false }, kinds := [], alts := [], laidByText := true, laidKinds := [.data], laidTests := true, laidLooks := .later }
def FnExactIndexOfUptoCardSaid : Prop := Claim7.holds Tryd.pinned (.plain (OpenSpec.upto fnExactIndexOfSpec)) fnExactIndexOfUptoCard

/-- THE SECOND FORM's CARD OF 'laws.FnExactTransferElement'. -/
def fnExactTransferElementUptoCard : Claim7 := { stood := { row := fnExactTransferElementUptoRow, standIns := [], harness := (true, "8d197146cf650eeb4008695533fd218b4f3951d8a79fa783c8e23111f4cdd38f"), looks := false }, kinds := [], alts := [], laidByText := true, laidKinds := [.data], laidTests := true, laidLooks := .later }
def FnExactTransferElementUptoCardSaid : Prop := Claim7.holds Tryd.pinned (.plain (OpenSpec.upto fnExactTransferElementSpec)) fnExactTransferElementUptoCard

/-- THE SECOND FORM's CARD OF 'laws.FnExactMoveCochain'. -/
def fnExactMoveCochainUptoCard : Claim7 := { stood := { row := fnExactMoveCochainUptoRow, standIns := [], harness := (true, "8d197146cf650eeb4008695533fd218b4f3951d8a79fa783c8e23111f4cdd38f"), looks := false }, kinds := [], alts := [], laidByText := true, laidKinds := [.sentinel], laidTests := true, laidLooks := .later }
def FnExactMoveCochainUptoCardSaid : Prop := Claim7.holds Tryd.pinned (.plain (OpenSpec.upto fnExactMoveCochainSpec)) fnExactMoveCochainUptoCard

/-- THE SECOND FORM's CARD OF 'laws.FnExactPullBack'. -/
def fnExactPullBackUptoCard : Claim7 := { stood := { row := fnExactPullBackUptoRow, standIns := [], harness := (true, "8d197146cf650eeb4008695533fd218b4f3951d8a79fa783c8e23111f4cdd38f"), looks := false }, kinds := [], alts := [], laidByText := true, laidKinds := [.sentinel], laidTests := true, laidLooks := .later }
def FnExactPullBackUptoCardSaid : Prop := Claim7.holds Tryd.pinned (.plain (OpenSpec.upto fnExactPullBackSpec)) fnExactPullBackUptoCard

/-- THE SECOND FORM's CARD OF 'laws.FnExactModuleOfChoice'. -/
def fnExactModuleOfChoiceUptoCard : Claim7 := { stood := { row := fnExactModuleOfChoiceUptoRow, standIns := [], harness := (true, "8d197146cf650eeb4008695533fd218b4f3951d8a79fa783c8e23111f4cdd38f"), looks := false }, kinds := [], alts := [], laidByText := true, laidKinds := [.data], laidTests := true, laidLooks := .later }
def FnExactModuleOfChoiceUptoCardSaid : Prop := Claim7.holds Tryd.pinned (.plain (OpenSpec.upto fnExactModuleOfChoiceSpec)) fnExactModuleOfChoiceUptoCard

/-- THE SECOND FORM's CARD OF 'laws.FnExactFactorSetOfChoice'. -/
def fnExactFactorSetOfChoiceUptoCard : Claim7 := { stood := { row := fnExactFactorSetOfChoiceUptoRow, standIns := [], harness := (true, "8d197146cf650eeb4008695533fd218b4f3951d8a79fa783c8e23111f4cdd38f"), looks := false }, kinds := [], alts := [], laidByText := true, laidKinds := [.data, .sentinel], laidTests := true, laidLooks := .later }
def FnExactFactorSetOfChoiceUptoCardSaid : Prop := Claim7.holds Tryd.pinned (.plain (OpenSpec.upto fnExactFactorSetOfChoiceSpec)) fnExactFactorSetOfChoiceUptoCard

/-- THE SECOND FORM's CARD OF 'laws.FnExactSubgroupsOf'. -/
def fnExactSubgroupsOfUptoCard : Claim7 := { stood := { row := fnExactSubgroupsOfUptoRow, standIns := [], harness := (true, "8d197146cf650eeb4008695533fd218b4f3951d8a79fa783c8e23111f4cdd38f"), looks := false }, kinds := [], alts := [], laidByText := true, laidKinds := [.data], laidTests := true, laidLooks := .later }
def FnExactSubgroupsOfUptoCardSaid : Prop := Claim7.holds Tryd.pinned (.plain (OpenSpec.upto fnExactSubgroupsOfSpec)) fnExactSubgroupsOfUptoCard

/-- THE SECOND FORM's CARD OF 'laws.FnExactCentreOfExtension'. -/
def fnExactCentreOfExtensionUptoCard : Claim7 := { stood := { row := fnExactCentreOfExtensionUptoRow, standIns := [], harness := (true, "8d197146cf650eeb4008695533fd218b4f3951d8a79fa783c8e23111f4cdd38f"), looks := false }, kinds := [], alts := [], laidByText := true, laidKinds := [.data, .sentinel], laidTests := true, laidLooks := .later }
def FnExactCentreOfExtensionUptoCardSaid : Prop := Claim7.holds Tryd.pinned (.plain (OpenSpec.upto fnExactCentreOfExtensionSpec)) fnExactCentreOfExtensionUptoCard
end Rows
end Go.Proofs.YtalejhbdbclfaaaDoor
