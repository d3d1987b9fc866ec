/-
  DERIVED. GIVEN WITH THE SEED: THE CARDS: each row of YtcdijeeabgmgmaaDoorRows.lean that lists a variable, with what it lists TIED to the program's text (the seventh form; the later family's looks); each row that meets fmt, with fmt's text TOLD by the authors' own Lean function (tested against real Go, not proved from fmt's source: count such statements apart). THE CARD IS WHAT COUNTS. Prove the row's statement (the work); the ties are given (YtcdijeeabgmgmaaDoorTie.lean); close each card by the builder's one call (the guide's Derived/Test/ToyasCard.lean, 'card_holds'). Laid BY PROGRAM, IN A SANDBOX (cutbox-door.mjs). By AI agents, Wed Nov 11 2026. No macro, syntax, notation, axiom, sorry.
-/
import Derived.Test.YtcdijeeabgmgmaaDoorRows
import GoSem.ClaimSeven
namespace Go.Proofs.YtcdijeeabgmgmaaDoor
namespace Rows

/-- THE TIED CARD OF 'laws.FnExactIsSymmetric'. -/
def fnExactIsSymmetricCard : Claim7 := { stood := { row := fnExactIsSymmetricRow, standIns := [], harness := (true, "0c102a5a98e1bf60530964a0250febf39e4b55b43209aba23b204005de95e86a"), looks := false }, kinds := [], alts := [], laidByText := true, laidKinds := [.sentinel], laidTests := true, laidLooks := .later }
def FnExactIsSymmetricCardSaid : Prop := Claim7.holds Tryd.pinned (.plain (OpenSpec.ofChange fnExactIsSymmetricSpec)) fnExactIsSymmetricCard

/-- THE TIED CARD OF 'laws.FnExactFormOf'. -/
def fnExactFormOfCard : Claim7 := { stood := { row := fnExactFormOfRow, standIns := [], harness := (true, "0c102a5a98e1bf60530964a0250febf39e4b55b43209aba23b204005de95e86a"), looks := false }, kinds := [], alts := [], laidByText := true, laidKinds := [.sentinel], laidTests := true, laidLooks := .later }
def FnExactFormOfCardSaid : Prop := Claim7.holds Tryd.pinned (.plain (OpenSpec.ofChange fnExactFormOfSpec)) fnExactFormOfCard

/-- THE TIED CARD OF 'laws.FnExactAbelianInvariants'. -/
def fnExactAbelianInvariantsCard : Claim7 := { stood := { row := fnExactAbelianInvariantsRow, standIns := [], harness := (true, "0c102a5a98e1bf60530964a0250febf39e4b55b43209aba23b204005de95e86a"), looks := false }, kinds := [], alts := [], laidByText := true, laidKinds := [.sentinel], laidTests := true, laidLooks := .later }
def FnExactAbelianInvariantsCardSaid : Prop := Claim7.holds Tryd.pinned (.plain (OpenSpec.ofChange fnExactAbelianInvariantsSpec)) fnExactAbelianInvariantsCard

/-- THE TIED CARD OF 'laws.FnExactMultiplierOf'. -/
def fnExactMultiplierOfCard : Claim7 := { stood := { row := fnExactMultiplierOfRow, standIns := [], harness := (true, "0c102a5a98e1bf60530964a0250febf39e4b55b43209aba23b204005de95e86a"), looks := false }, kinds := [], alts := [], laidByText := true, laidKinds := [.sentinel], laidTests := true, laidLooks := .later }
def FnExactMultiplierOfCardSaid : Prop := Claim7.holds Tryd.pinned (.plain (OpenSpec.ofChange fnExactMultiplierOfSpec)) fnExactMultiplierOfCard

/-- THE TIED CARD OF 'laws.FnExactModuleOfChoice'. -/
def fnExactModuleOfChoiceCard : Claim7 := { stood := { row := fnExactModuleOfChoiceRow, standIns := [], harness := (true, "0c102a5a98e1bf60530964a0250febf39e4b55b43209aba23b204005de95e86a"), looks := false }, kinds := [], alts := [], laidByText := true, laidKinds := [.data], laidTests := true, laidLooks := .later }
def FnExactModuleOfChoiceCardSaid : Prop := Claim7.holds Tryd.pinned (.plain (OpenSpec.ofChange fnExactModuleOfChoiceSpec)) fnExactModuleOfChoiceCard

/-- THE TIED CARD OF 'laws.FnExactFactorSetOfChoice'. -/
def fnExactFactorSetOfChoiceCard : Claim7 := { stood := { row := fnExactFactorSetOfChoiceRow, standIns := [], harness := (true, "0c102a5a98e1bf60530964a0250febf39e4b55b43209aba23b204005de95e86a"), looks := false }, kinds := [], alts := [], laidByText := true, laidKinds := [.data, .sentinel], laidTests := true, laidLooks := .later }
def FnExactFactorSetOfChoiceCardSaid : Prop := Claim7.holds Tryd.pinned (.plain (OpenSpec.ofChange fnExactFactorSetOfChoiceSpec)) fnExactFactorSetOfChoiceCard

/-- THE TIED CARD OF 'laws.FnExactCentreOfExtension'. -/
def fnExactCentreOfExtensionCard : Claim7 := { stood := { row := fnExactCentreOfExtensionRow, standIns := [], harness := (true, "0c102a5a98e1bf60530964a0250febf39e4b55b43209aba23b204005de95e86a"), looks := false }, kinds := [], alts := [], laidByText := true, laidKinds := [.data, .sentinel], laidTests := true, laidLooks := .later }
def FnExactCentreOfExtensionCardSaid : Prop := Claim7.holds Tryd.pinned (.plain (OpenSpec.ofChange fnExactCentreOfExtensionSpec)) fnExactCentreOfExtensionCard

/-- THE TIED CARD OF 'laws.FnExactSubgroupsOf'. -/
def fnExactSubgroupsOfCard : Claim7 := { stood := { row := fnExactSubgroupsOfRow, standIns := [], harness := (true, "0c102a5a98e1bf60530964a0250febf39e4b55b43209aba23b204005de95e86a"), looks := false }, kinds := [], alts := [], laidByText := true, laidKinds := [.data], laidTests := true, laidLooks := .later }
def FnExactSubgroupsOfCardSaid : Prop := Claim7.holds Tryd.pinned (.plain (OpenSpec.ofChange fnExactSubgroupsOfSpec)) fnExactSubgroupsOfCard

/-- THE TIED CARD OF 'laws.FnExactCocycleSteps'. -/
def fnExactCocycleStepsCard : Claim7 := { stood := { row := fnExactCocycleStepsRow, standIns := [], harness := (true, "0c102a5a98e1bf60530964a0250febf39e4b55b43209aba23b204005de95e86a"), looks := false }, kinds := [], alts := [], laidByText := true, laidKinds := [.sentinel], laidTests := true, laidLooks := .later }
def FnExactCocycleStepsCardSaid : Prop := Claim7.holds Tryd.pinned (.plain (OpenSpec.ofChange fnExactCocycleStepsSpec)) fnExactCocycleStepsCard

/-- THE TIED CARD OF 'laws.FnExactBoundingSteps'. -/
def fnExactBoundingStepsCard : Claim7 := { stood := { row := fnExactBoundingStepsRow, standIns := [], harness := (true, "0c102a5a98e1bf60530964a0250febf39e4b55b43209aba23b204005de95e86a"), looks := false }, kinds := [], alts := [], laidByText := true, laidKinds := [.sentinel], laidTests := true, laidLooks := .later }
def FnExactBoundingStepsCardSaid : Prop := Claim7.holds Tryd.pinned (.plain (OpenSpec.ofChange fnExactBoundingStepsSpec)) fnExactBoundingStepsCard

/-- THE SECOND FORM's CARD OF 'laws.FnExactIsSymmetric'. -/
def fnExactIsSymmetricUptoCard : Claim7 := { stood := { row := fnExactIsSymmetricUptoRow, standIns := [], harness := (true, "0c102a5a98e1bf60530964a0250febf39e4b55b43209aba23b204005de95e86a"), looks := false }, kinds := [], alts := [], laidByText := true, laidKinds := [.sentinel], laidTests := true, laidLooks := .later }
def FnExactIsSymmetricUptoCardSaid : Prop := Claim7.holds Tryd.pinned (.plain (OpenSpec.upto fnExactIsSymmetricSpec)) fnExactIsSymmetricUptoCard

/-- THE SECOND FORM's CARD OF 'laws.FnExactFormOf'. -/
def fnExactFormOfUptoCard : Claim7 := { stood := { row := fnExactFormOfUptoRow, standIns := [], harness := (true, "0c102a5a98e1bf60530964a0250febf39e4b55b43209aba23b204005de95e86a"), looks := false }, kinds := [], alts := [], laidByText := true, laidKinds := [.sentinel], laidTests := true, laidLooks := .later }
def FnExactFormOfUptoCardSaid : Prop := Claim7.holds Tryd.pinned (.plain (OpenSpec.upto fnExactFormOfSpec)) fnExactFormOfUptoCard

/-- THE SECOND FORM's CARD OF 'laws.FnExactAbelianInvariants'. -/
def fnExactAbelianInvariantsUptoCard : Claim7 := { stood := { row := fnExactAbelianInvariantsUptoRow, standIns := [], harness := (true, "0c102a5a98e1bf60530964a0250febf39e4b55b43209aba23b204005de95e86a"), looks := false }, kinds := [], alts := [], laidByText := true, laidKinds := [.sentinel], laidTests := true, laidLooks := .later }
def FnExactAbelianInvariantsUptoCardSaid : Prop := Claim7.holds Tryd.pinned (.plain (OpenSpec.upto fnExactAbelianInvariantsSpec)) fnExactAbelianInvariantsUptoCard

/-- THE SECOND FORM's CARD OF 'laws.FnExactMultiplierOf'. -/
def fnExactMultiplierOfUptoCard : Claim7 := { stood := { row := fnExactMultiplierOfUptoRow, standIns := [], harness := (true, "0c102a5a98e1bf60530964a0250febf39e4b55b43209aba23b204005de95e86a"), looks := false }, kinds := [], alts := [], laidByText := true, laidKinds := [.sentinel], laidTests := true, laidLooks := .later }
def FnExactMultiplierOfUptoCardSaid : Prop := Claim7.holds Tryd.pinned (.plain (OpenSpec.upto fnExactMultiplierOfSpec)) fnExactMultiplierOfUptoCard

/-- THE SECOND FORM's CARD OF 'laws.FnExactModuleOfChoice'. -/
def fnExactModuleOfChoiceUptoCard : Claim7 := { stood := { row := fnExactModuleOfChoiceUptoRow, standIns := [], harness := (true, "0c102a5a98e1bf60530964a0250febf39e4b55b43209aba23b204005de95e86a"), looks := false }, kinds := [], alts := [], laidByText := true, laidKinds := [.data], laidTests := true, laidLooks := .later }
def FnExactModuleOfChoiceUptoCardSaid : Prop := Claim7.holds Tryd.pinned (.plain (OpenSpec.upto fnExactModuleOfChoiceSpec)) fnExactModuleOfChoiceUptoCard

/-- THE SECOND FORM's CARD OF 'laws.FnExactFactorSetOfChoice'. -/
def fnExactFactorSetOfChoiceUptoCard : Claim7 := { stood := { row := fnExactFactorSetOfChoiceUptoRow, standIns := [], harness := (true, "0c102a5a98e1bf60530964a0250febf39e4b55b43209aba23b204005de95e86a"), looks := false }, kinds := [], alts := [], laidByText := true, laidKinds := [.data, .sentinel], laidTests := true, laidLooks := .later }
def FnExactFactorSetOfChoiceUptoCardSaid : Prop := Claim7.holds Tryd.pinned (.plain (OpenSpec.upto fnExactFactorSetOfChoiceSpec)) fnExactFactorSetOfChoiceUptoCard

/-- THE SECOND FORM's CARD OF 'laws.FnExactCentreOfExtension'. -/
def fnExactCentreOfExtensionUptoCard : Claim7 := { stood := { row := fnExactCentreOfExtensionUptoRow, standIns := [], harness := (true, "0c102a5a98e1bf60530964a0250febf39e4b55b43209aba23b204005de95e86a"), looks := false }, kinds := [], alts := [], laidByText := true, laidKinds := [.data, .sentinel], laidTests := true, laidLooks := .later }
def FnExactCentreOfExtensionUptoCardSaid : Prop := Claim7.holds Tryd.pinned (.plain (OpenSpec.upto fnExactCentreOfExtensionSpec)) fnExactCentreOfExtensionUptoCard

/-- THE SECOND FORM's CARD OF 'laws.FnExactSubgroupsOf'. -/
def fnExactSubgroupsOfUptoCard : Claim7 := { stood := { row := fnExactSubgroupsOfUptoRow, standIns := [], harness := (true, "0c102a5a98e1bf60530964a0250febf39e4b55b43209aba23b204005de95e86a"), looks := false }, kinds := [], alts := [], laidByText := true, laidKinds := [.data], laidTests := true, laidLooks := .later }
def FnExactSubgroupsOfUptoCardSaid : Prop := Claim7.holds Tryd.pinned (.plain (OpenSpec.upto fnExactSubgroupsOfSpec)) fnExactSubgroupsOfUptoCard

/-- THE SECOND FORM's CARD OF 'laws.FnExactCocycleSteps'. -/
def fnExactCocycleStepsUptoCard : Claim7 := { stood := { row := fnExactCocycleStepsUptoRow, standIns := [], harness := (true, "0c102a5a98e1bf60530964a0250febf39e4b55b43209aba23b204005de95e86a"), looks := false }, kinds := [], alts := [], laidByText := true, laidKinds := [.sentinel], laidTests := true, laidLooks := .later }
def FnExactCocycleStepsUptoCardSaid : Prop := Claim7.holds Tryd.pinned (.plain (OpenSpec.upto fnExactCocycleStepsSpec)) fnExactCocycleStepsUptoCard

/-- THE SECOND FORM's CARD OF 'laws.FnExactBoundingSteps'. -/
def fnExactBoundingStepsUptoCard : Claim7 := { stood := { row := fnExactBoundingStepsUptoRow, standIns := [], harness := (true, "0c102a5a98e1bf60530964a0250febf39e4b55b43209aba23b204005de95e86a"), looks := false }, kinds := [], alts := [], laidByText := true, laidKinds := [.sentinel], laidTests := true, laidLooks := .later }
def FnExactBoundingStepsUptoCardSaid : Prop := Claim7.holds Tryd.pinned (.plain (OpenSpec.upto fnExactBoundingStepsSpec)) fnExactBoundingStepsUptoCard
end Rows
end Go.Proofs.YtcdijeeabgmgmaaDoor
