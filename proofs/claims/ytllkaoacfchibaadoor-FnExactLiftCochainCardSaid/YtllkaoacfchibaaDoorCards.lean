/-
  DERIVED. GIVEN WITH THE SEED: THE CARDS: each row of YtllkaoacfchibaaDoorRows.lean that lists a variable, with what it lists TIED to the program's text (the seventh form; the later family's looks); each row that meets fmt, with fmt's text TOLD by the authors' own Lean function (tested against real Go, not proved from fmt's source: count such statements apart). THE CARD IS WHAT COUNTS. Prove the row's statement (the work); the ties are given (YtllkaoacfchibaaDoorTie.lean); close each card by the builder's one call (the guide's Derived/Test/ToyasCard.lean, 'card_holds'). Laid BY PROGRAM, IN A SANDBOX (cutbox-door.mjs). By AI agents, Wed Nov 11 2026. No macro, syntax, notation, axiom, sorry.
-/
import Derived.Test.YtllkaoacfchibaaDoorRows
import GoSem.ClaimSeven
namespace Go.Proofs.YtllkaoacfchibaaDoor
namespace Rows

/-- THE TIED CARD OF 'laws.FnExactInnerModule'. -/
def fnExactInnerModuleCard : Claim7 := { stood := { row := fnExactInnerModuleRow, standIns := [], harness := (true, "2d1561944eaff5542e5512ca0fc9d968f16e10eaa3bda3a526ed1d9f0f3addab"), looks := true }, kinds := [], alts := [], laidByText := true, laidKinds := [.sentinel], laidTests := true, laidLooks := .later }
def FnExactInnerModuleCardSaid : Prop := Claim7.holds Tryd.pinned (.plain (OpenSpec.ofChange fnExactInnerModuleSpec)) fnExactInnerModuleCard

/-- THE TIED CARD OF 'laws.FnExactOuterModule'. -/
def fnExactOuterModuleCard : Claim7 := { stood := { row := fnExactOuterModuleRow, standIns := [], harness := (true, "2d1561944eaff5542e5512ca0fc9d968f16e10eaa3bda3a526ed1d9f0f3addab"), looks := true }, kinds := [], alts := [], laidByText := true, laidKinds := [.sentinel], laidTests := true, laidLooks := .later }
def FnExactOuterModuleCardSaid : Prop := Claim7.holds Tryd.pinned (.plain (OpenSpec.ofChange fnExactOuterModuleSpec)) fnExactOuterModuleCard

/-- THE TIED CARD OF 'laws.FnExactEmbedCochain'. -/
def fnExactEmbedCochainCard : Claim7 := { stood := { row := fnExactEmbedCochainRow, standIns := [], harness := (true, "2d1561944eaff5542e5512ca0fc9d968f16e10eaa3bda3a526ed1d9f0f3addab"), looks := true }, kinds := [], alts := [], laidByText := true, laidKinds := [.sentinel], laidTests := true, laidLooks := .later }
def FnExactEmbedCochainCardSaid : Prop := Claim7.holds Tryd.pinned (.plain (OpenSpec.ofChange fnExactEmbedCochainSpec)) fnExactEmbedCochainCard

/-- THE TIED CARD OF 'laws.FnExactReduceCochain'. -/
def fnExactReduceCochainCard : Claim7 := { stood := { row := fnExactReduceCochainRow, standIns := [], harness := (true, "2d1561944eaff5542e5512ca0fc9d968f16e10eaa3bda3a526ed1d9f0f3addab"), looks := true }, kinds := [], alts := [], laidByText := true, laidKinds := [.sentinel], laidTests := true, laidLooks := .later }
def FnExactReduceCochainCardSaid : Prop := Claim7.holds Tryd.pinned (.plain (OpenSpec.ofChange fnExactReduceCochainSpec)) fnExactReduceCochainCard

/-- THE TIED CARD OF 'laws.FnExactLiftCochain'. -/
def fnExactLiftCochainCard : Claim7 := { stood := { row := fnExactLiftCochainRow, standIns := [], harness := (true, "2d1561944eaff5542e5512ca0fc9d968f16e10eaa3bda3a526ed1d9f0f3addab"), looks := true }, kinds := [], alts := [], laidByText := true, laidKinds := [.sentinel], laidTests := true, laidLooks := .later }
def FnExactLiftCochainCardSaid : Prop := Claim7.holds Tryd.pinned (.plain (OpenSpec.ofChange fnExactLiftCochainSpec)) fnExactLiftCochainCard

/-- THE TIED CARD OF 'laws.FnExactBoundaryOf'. -/
def fnExactBoundaryOfCard : Claim7 := { stood := { row := fnExactBoundaryOfRow, standIns := [], harness := (true, "2d1561944eaff5542e5512ca0fc9d968f16e10eaa3bda3a526ed1d9f0f3addab"), looks := true }, kinds := [], alts := [], laidByText := true, laidKinds := [.sentinel], laidTests := true, laidLooks := .later }
def FnExactBoundaryOfCardSaid : Prop := Claim7.holds Tryd.pinned (.plain (OpenSpec.ofChange fnExactBoundaryOfSpec)) fnExactBoundaryOfCard

/-- THE TIED CARD OF 'laws.FnExactTransferElement'. -/
def fnExactTransferElementCard : Claim7 := { stood := { row := fnExactTransferElementRow, standIns := [], harness := (true, "2d1561944eaff5542e5512ca0fc9d968f16e10eaa3bda3a526ed1d9f0f3addab"), looks := true }, kinds := [], alts := [], laidByText := true, laidKinds := [.data], laidTests := true, laidLooks := .later }
def FnExactTransferElementCardSaid : Prop := Claim7.holds Tryd.pinned (.plain (OpenSpec.ofChange fnExactTransferElementSpec)) fnExactTransferElementCard

/-- THE TIED CARD OF 'laws.FnExactModuleOfChoice'. -/
def fnExactModuleOfChoiceCard : Claim7 := { stood := { row := fnExactModuleOfChoiceRow, standIns := [], harness := (true, "2d1561944eaff5542e5512ca0fc9d968f16e10eaa3bda3a526ed1d9f0f3addab"), looks := true }, kinds := [], alts := [], laidByText := true, laidKinds := [.data], laidTests := true, laidLooks := .later }
def FnExactModuleOfChoiceCardSaid : Prop := Claim7.holds Tryd.pinned (.plain (OpenSpec.ofChange fnExactModuleOfChoiceSpec)) fnExactModuleOfChoiceCard

/-- THE TIED CARD OF 'laws.FnExactFactorSetOfChoice'. -/
def fnExactFactorSetOfChoiceCard : Claim7 := { stood := { row := fnExactFactorSetOfChoiceRow, standIns := [], harness := (true, "2d1561944eaff5542e5512ca0fc9d968f16e10eaa3bda3a526ed1d9f0f3addab"), looks := true }, kinds := [], alts := [], laidByText := true, laidKinds := [.data, .sentinel], laidTests := true, laidLooks := .later }
def FnExactFactorSetOfChoiceCardSaid : Prop := Claim7.holds Tryd.pinned (.plain (OpenSpec.ofChange fnExactFactorSetOfChoiceSpec)) fnExactFactorSetOfChoiceCard

/-- THE TIED CARD OF 'laws.FnExactSubgroupsOf'. -/
def fnExactSubgroupsOfCard : Claim7 := { stood := { row := fnExactSubgroupsOfRow, standIns := [], harness := (true, "2d1561944eaff5542e5512ca0fc9d968f16e10eaa3bda3a526ed1d9f0f3addab"), looks := true }, kinds := [], alts := [], laidByText := true, laidKinds := [.data], laidTests := true, laidLooks := .later }
def FnExactSubgroupsOfCardSaid : Prop := Claim7.holds Tryd.pinned (.plain (OpenSpec.ofChange fnExactSubgroupsOfSpec)) fnExactSubgroupsOfCard

/-- THE TIED CARD OF 'laws.FnExactCentreOfExtension'. -/
def fnExactCentreOfExtensionCard : Claim7 := { stood := { row := fnExactCentreOfExtensionRow, standIns := [], harness := (true, "2d1561944eaff5542e5512ca0fc9d968f16e10eaa3bda3a526ed1d9f0f3addab"), looks := true }, kinds := [], alts := [], laidByText := true, laidKinds := [.data, .sentinel], laidTests := true, laidLooks := .later }
def FnExactCentreOfExtensionCardSaid : Prop := Claim7.holds Tryd.pinned (.plain (OpenSpec.ofChange fnExactCentreOfExtensionSpec)) fnExactCentreOfExtensionCard

/-- THE SECOND FORM's CARD OF 'laws.FnExactInnerModule'. -/
def fnExactInnerModuleUptoCard : Claim7 := { stood := { row := fnExactInnerModuleUptoRow, standIns := [], harness := (true, "2d1561944eaff5542e5512ca0fc9d968f16e10eaa3bda3a526ed1d9f0f3addab"), looks := true }, kinds := [], alts := [], laidByText := true, laidKinds := [.sentinel], laidTests := true, laidLooks := .later }
def FnExactInnerModuleUptoCardSaid : Prop := Claim7.holds Tryd.pinned (.plain (OpenSpec.upto fnExactInnerModuleSpec)) fnExactInnerModuleUptoCard

/-- THE SECOND FORM's CARD OF 'laws.FnExactOuterModule'. -/
def fnExactOuterModuleUptoCard : Claim7 := { stood := { row := fnExactOuterModuleUptoRow, standIns := [], harness := (true, "2d1561944eaff5542e5512ca0fc9d968f16e10eaa3bda3a526ed1d9f0f3addab"), looks := true }, kinds := [], alts := [], laidByText := true, laidKinds := [.sentinel], laidTests := true, laidLooks := .later }
def FnExactOuterModuleUptoCardSaid : Prop := Claim7.holds Tryd.pinned (.plain (OpenSpec.upto fnExactOuterModuleSpec)) fnExactOuterModuleUptoCard

/-- THE SECOND FORM's CARD OF 'laws.FnExactEmbedCochain'. -/
def fnExactEmbedCochainUptoCard : Claim7 := { stood := { row := fnExactEmbedCochainUptoRow, standIns := [], harness := (true, "2d1561944eaff5542e5512ca0fc9d968f16e10eaa3bda3a526ed1d9f0f3addab"), looks := true }, kinds := [], alts := [], laidByText := true, laidKinds := [.sentinel], laidTests := true, laidLooks := .later }
def FnExactEmbedCochainUptoCardSaid : Prop := Claim7.holds Tryd.pinned (.plain (OpenSpec.upto fnExactEmbedCochainSpec)) fnExactEmbedCochainUptoCard

/-- THE SECOND FORM's CARD OF 'laws.FnExactReduceCochain'. -/
def fnExactReduceCochainUptoCard : Claim7 := { stood := { row := fnExactReduceCochainUptoRow, standIns := [], harness := (true, "2d1561944eaff5542e5512ca0fc9d968f16e10eaa3bda3a526ed1d9f0f3addab"), looks := true }, kinds := [], alts := [], laidByText := true, laidKinds := [.sentinel], laidTests := true, laidLooks := .later }
def FnExactReduceCochainUptoCardSaid : Prop := Claim7.holds Tryd.pinned (.plain (OpenSpec.upto fnExactReduceCochainSpec)) fnExactReduceCochainUptoCard

/-- THE SECOND FORM's CARD OF 'laws.FnExactLiftCochain'. -/
def fnExactLiftCochainUptoCard : Claim7 := { stood := { row := fnExactLiftCochainUptoRow, standIns := [], harness := (true, "2d1561944eaff5542e5512ca0fc9d968f16e10eaa3bda3a526ed1d9f0f3addab"), looks := true }, kinds := [], alts := [], laidByText := true, laidKinds := [.sentinel], laidTests := true, laidLooks := .later }
def FnExactLiftCochainUptoCardSaid : Prop := Claim7.holds Tryd.pinned (.plain (OpenSpec.upto fnExactLiftCochainSpec)) fnExactLiftCochainUptoCard

/-- THE SECOND FORM's CARD OF 'laws.FnExactBoundaryOf'. -/
def fnExactBoundaryOfUptoCard : Claim7 := { stood := { row := fnExactBoundaryOfUptoRow, standIns := [], harness := (true, "2d1561944eaff5542e5512ca0fc9d968f16e10eaa3bda3a526ed1d9f0f3addab"), looks := true }, kinds := [], alts := [], laidByText := true, laidKinds := [.sentinel], laidTests := true, laidLooks := .later }
def FnExactBoundaryOfUptoCardSaid : Prop := Claim7.holds Tryd.pinned (.plain (OpenSpec.upto fnExactBoundaryOfSpec)) fnExactBoundaryOfUptoCard

/-- THE SECOND FORM's CARD OF 'laws.FnExactTransferElement'. -/
def fnExactTransferElementUptoCard : Claim7 := { stood := { row := fnExactTransferElementUptoRow, standIns := [], harness := (true, "2d1561944eaff5542e5512ca0fc9d968f16e10eaa3bda3a526ed1d9f0f3addab"), looks := true }, kinds := [], alts := [], laidByText := true, laidKinds := [.data], laidTests := true, laidLooks := .later }
def FnExactTransferElementUptoCardSaid : Prop := Claim7.holds Tryd.pinned (.plain (OpenSpec.upto fnExactTransferElementSpec)) fnExactTransferElementUptoCard

/-- THE SECOND FORM's CARD OF 'laws.FnExactModuleOfChoice'. -/
def fnExactModuleOfChoiceUptoCard : Claim7 := { stood := { row := fnExactModuleOfChoiceUptoRow, standIns := [], harness := (true, "2d1561944eaff5542e5512ca0fc9d968f16e10eaa3bda3a526ed1d9f0f3addab"), looks := true }, kinds := [], alts := [], laidByText := true, laidKinds := [.data], laidTests := true, laidLooks := .later }
def FnExactModuleOfChoiceUptoCardSaid : Prop := Claim7.holds Tryd.pinned (.plain (OpenSpec.upto fnExactModuleOfChoiceSpec)) fnExactModuleOfChoiceUptoCard

/-- THE SECOND FORM's CARD OF 'laws.FnExactFactorSetOfChoice'. -/
def fnExactFactorSetOfChoiceUptoCard : Claim7 := { stood := { row := fnExactFactorSetOfChoiceUptoRow, standIns := [], harness := (true, "2d1561944eaff5542e5512ca0fc9d968f16e10eaa3bda3a526ed1d9f0f3addab"), looks := true }, kinds := [], alts := [], laidByText := true, laidKinds := [.data, .sentinel], laidTests := true, laidLooks := .later }
def FnExactFactorSetOfChoiceUptoCardSaid : Prop := Claim7.holds Tryd.pinned (.plain (OpenSpec.upto fnExactFactorSetOfChoiceSpec)) fnExactFactorSetOfChoiceUptoCard

/-- THE SECOND FORM's CARD OF 'laws.FnExactSubgroupsOf'. -/
def fnExactSubgroupsOfUptoCard : Claim7 := { stood := { row := fnExactSubgroupsOfUptoRow, standIns := [], harness := (true, "2d1561944eaff5542e5512ca0fc9d968f16e10eaa3bda3a526ed1d9f0f3addab"), looks := true }, kinds := [], alts := [], laidByText := true, laidKinds := [.data], laidTests := true, laidLooks := .later }
def FnExactSubgroupsOfUptoCardSaid : Prop := Claim7.holds Tryd.pinned (.plain (OpenSpec.upto fnExactSubgroupsOfSpec)) fnExactSubgroupsOfUptoCard

/-- THE SECOND FORM's CARD OF 'laws.FnExactCentreOfExtension'. -/
def fnExactCentreOfExtensionUptoCard : Claim7 := { stood := { row := fnExactCentreOfExtensionUptoRow, standIns := [], harness := (true, "2d1561944eaff5542e5512ca0fc9d968f16e10eaa3bda3a526ed1d9f0f3addab"), looks := true }, kinds := [], alts := [], laidByText := true, laidKinds := [.data, .sentinel], laidTests := true, laidLooks := .later }
def FnExactCentreOfExtensionUptoCardSaid : Prop := Claim7.holds Tryd.pinned (.plain (OpenSpec.upto fnExactCentreOfExtensionSpec)) fnExactCentreOfExtensionUptoCard
end Rows
end Go.Proofs.YtllkaoacfchibaaDoor
