/-
  DERIVED. GIVEN WITH THE SEED: THE CARDS: each row of YtenenlpfpkdplaaDoorRows.lean that lists a variable, with what it lists TIED to the program's text (the seventh form; the later family's looks); each row that meets fmt, with fmt's text TOLD by the authors' own Lean function (tested against real Go, not proved from fmt's source: count such statements apart). THE CARD IS WHAT COUNTS. Prove the row's statement (the work); the ties are given (YtenenlpfpkdplaaDoorTie.lean); close each card by the builder's one call (the guide's Derived/Test/ToyasCard.lean, 'card_holds'). Laid BY PROGRAM, IN A SANDBOX (cutbox-door.mjs). By AI agents, Wed Nov 11 2026. No macro, syntax, notation, axiom, sorry.
-/
import Derived.Test.YtenenlpfpkdplaaDoorRows
import GoSem.ClaimSeven
namespace Go.Proofs.YtenenlpfpkdplaaDoor
namespace Rows

/-- THE TIED CARD OF 'laws.FnExactExtensionTable'. -/
def fnExactExtensionTableCard : Claim7 := { stood := { row := fnExactExtensionTableRow, standIns := [], harness := (true, "05fe4f74def715e412a6b06496137dc0873a1f4bae4d625be7309486e0c57b1d"), looks := false }, kinds := [], alts := [], laidByText := true, laidKinds := [.sentinel], laidTests := true, laidLooks := .later }
def FnExactExtensionTableCardSaid : Prop := Claim7.holds Tryd.pinned (.plain (OpenSpec.ofChange fnExactExtensionTableSpec)) fnExactExtensionTableCard

/-- THE TIED CARD OF 'laws.FnExactExtensionGroup'. -/
def fnExactExtensionGroupCard : Claim7 := { stood := { row := fnExactExtensionGroupRow, standIns := [], harness := (true, "05fe4f74def715e412a6b06496137dc0873a1f4bae4d625be7309486e0c57b1d"), looks := false }, kinds := [], alts := [], laidByText := true, laidKinds := [.sentinel], laidTests := true, laidLooks := .later }
def FnExactExtensionGroupCardSaid : Prop := Claim7.holds Tryd.pinned (.plain (OpenSpec.ofChange fnExactExtensionGroupSpec)) fnExactExtensionGroupCard

/-- THE TIED CARD OF 'laws.FnExactSplits'. -/
def fnExactSplitsCard : Claim7 := { stood := { row := fnExactSplitsRow, standIns := [], harness := (true, "05fe4f74def715e412a6b06496137dc0873a1f4bae4d625be7309486e0c57b1d"), looks := false }, kinds := [], alts := [], laidByText := true, laidKinds := [.sentinel], laidTests := true, laidLooks := .later }
def FnExactSplitsCardSaid : Prop := Claim7.holds Tryd.pinned (.plain (OpenSpec.ofChange fnExactSplitsSpec)) fnExactSplitsCard

/-- THE TIED CARD OF 'laws.FnExactFirstSection'. -/
def fnExactFirstSectionCard : Claim7 := { stood := { row := fnExactFirstSectionRow, standIns := [], harness := (true, "05fe4f74def715e412a6b06496137dc0873a1f4bae4d625be7309486e0c57b1d"), looks := false }, kinds := [], alts := [], laidByText := true, laidKinds := [.sentinel], laidTests := true, laidLooks := .later }
def FnExactFirstSectionCardSaid : Prop := Claim7.holds Tryd.pinned (.plain (OpenSpec.ofChange fnExactFirstSectionSpec)) fnExactFirstSectionCard

/-- THE TIED CARD OF 'laws.FnExactOrdersOfExtension'. -/
def fnExactOrdersOfExtensionCard : Claim7 := { stood := { row := fnExactOrdersOfExtensionRow, standIns := [], harness := (true, "05fe4f74def715e412a6b06496137dc0873a1f4bae4d625be7309486e0c57b1d"), looks := false }, kinds := [], alts := [], laidByText := true, laidKinds := [.sentinel], laidTests := true, laidLooks := .later }
def FnExactOrdersOfExtensionCardSaid : Prop := Claim7.holds Tryd.pinned (.plain (OpenSpec.ofChange fnExactOrdersOfExtensionSpec)) fnExactOrdersOfExtensionCard

/-- THE TIED CARD OF 'laws.FnExactCentreOfExtension'. -/
def fnExactCentreOfExtensionCard : Claim7 := { stood := { row := fnExactCentreOfExtensionRow, standIns := [], harness := (true, "05fe4f74def715e412a6b06496137dc0873a1f4bae4d625be7309486e0c57b1d"), looks := false }, kinds := [], alts := [], laidByText := true, laidKinds := [.data, .sentinel], laidTests := true, laidLooks := .later }
def FnExactCentreOfExtensionCardSaid : Prop := Claim7.holds Tryd.pinned (.plain (OpenSpec.ofChange fnExactCentreOfExtensionSpec)) fnExactCentreOfExtensionCard

/-- THE TIED CARD OF 'laws.FnExactModuleOfChoice'. -/
def fnExactModuleOfChoiceCard : Claim7 := { stood := { row := fnExactModuleOfChoiceRow, standIns := [], harness := (true, "05fe4f74def715e412a6b06496137dc0873a1f4bae4d625be7309486e0c57b1d"), looks := false }, kinds := [], alts := [], laidByText := true, laidKinds := [.data], laidTests := true, laidLooks := .later }
def FnExactModuleOfChoiceCardSaid : Prop := Claim7.holds Tryd.pinned (.plain (OpenSpec.ofChange fnExactModuleOfChoiceSpec)) fnExactModuleOfChoiceCard

/-- THE TIED CARD OF 'laws.FnExactFactorSetOfChoice'. -/
def fnExactFactorSetOfChoiceCard : Claim7 := { stood := { row := fnExactFactorSetOfChoiceRow, standIns := [], harness := (true, "05fe4f74def715e412a6b06496137dc0873a1f4bae4d625be7309486e0c57b1d"), looks := false }, kinds := [], alts := [], laidByText := true, laidKinds := [.data, .sentinel], laidTests := true, laidLooks := .later }
def FnExactFactorSetOfChoiceCardSaid : Prop := Claim7.holds Tryd.pinned (.plain (OpenSpec.ofChange fnExactFactorSetOfChoiceSpec)) fnExactFactorSetOfChoiceCard

/-- THE TIED CARD OF 'laws.FnExactQuotientOf'. -/
def fnExactQuotientOfCard : Claim7 := { stood := { row := fnExactQuotientOfRow, standIns := [], harness := (true, "05fe4f74def715e412a6b06496137dc0873a1f4bae4d625be7309486e0c57b1d"), looks := false }, kinds := [], alts := [], laidByText := true, laidKinds := [.data], laidTests := true, laidLooks := .later }
def FnExactQuotientOfCardSaid : Prop := Claim7.holds Tryd.pinned (.plain (OpenSpec.ofChange fnExactQuotientOfSpec)) fnExactQuotientOfCard

/-- THE TIED CARD OF 'laws.FnExactClassesOf'. -/
def fnExactClassesOfCard : Claim7 := { stood := { row := fnExactClassesOfRow, standIns := [], harness := (true, "05fe4f74def715e412a6b06496137dc0873a1f4bae4d625be7309486e0c57b1d"), looks := false }, kinds := [], alts := [], laidByText := true, laidKinds := [.data], laidTests := true, laidLooks := .later }
def FnExactClassesOfCardSaid : Prop := Claim7.holds Tryd.pinned (.plain (OpenSpec.ofChange fnExactClassesOfSpec)) fnExactClassesOfCard

/-- THE TIED CARD OF 'laws.FnExactSubgroupsOf'. -/
def fnExactSubgroupsOfCard : Claim7 := { stood := { row := fnExactSubgroupsOfRow, standIns := [], harness := (true, "05fe4f74def715e412a6b06496137dc0873a1f4bae4d625be7309486e0c57b1d"), looks := false }, kinds := [], alts := [], laidByText := true, laidKinds := [.data], laidTests := true, laidLooks := .later }
def FnExactSubgroupsOfCardSaid : Prop := Claim7.holds Tryd.pinned (.plain (OpenSpec.ofChange fnExactSubgroupsOfSpec)) fnExactSubgroupsOfCard

/-- THE SECOND FORM's CARD OF 'laws.FnExactExtensionTable'. -/
def fnExactExtensionTableUptoCard : Claim7 := { stood := { row := fnExactExtensionTableUptoRow, standIns := [], harness := (true, "05fe4f74def715e412a6b06496137dc0873a1f4bae4d625be7309486e0c57b1d"), looks := false }, kinds := [], alts := [], laidByText := true, laidKinds := [.sentinel], laidTests := true, laidLooks := .later }
def FnExactExtensionTableUptoCardSaid : Prop := Claim7.holds Tryd.pinned (.plain (OpenSpec.upto fnExactExtensionTableSpec)) fnExactExtensionTableUptoCard

/-- THE SECOND FORM's CARD OF 'laws.FnExactExtensionGroup'. -/
def fnExactExtensionGroupUptoCard : Claim7 := { stood := { row := fnExactExtensionGroupUptoRow, standIns := [], harness := (true, "05fe4f74def715e412a6b06496137dc0873a1f4bae4d625be7309486e0c57b1d"), looks := false }, kinds := [], alts := [], laidByText := true, laidKinds := [.sentinel], laidTests := true, laidLooks := .later }
def FnExactExtensionGroupUptoCardSaid : Prop := Claim7.holds Tryd.pinned (.plain (OpenSpec.upto fnExactExtensionGroupSpec)) fnExactExtensionGroupUptoCard

/-- THE SECOND FORM's CARD OF 'laws.FnExactSplits'. -/
def fnExactSplitsUptoCard : Claim7 := { stood := { row := fnExactSplitsUptoRow, standIns := [], harness := (true, "05fe4f74def715e412a6b06496137dc0873a1f4bae4d625be7309486e0c57b1d"), looks := false }, kinds := [], alts := [], laidByText := true, laidKinds := [.sentinel], laidTests := true, laidLooks := .later }
def FnExactSplitsUptoCardSaid : Prop := Claim7.holds Tryd.pinned (.plain (OpenSpec.upto fnExactSplitsSpec)) fnExactSplitsUptoCard

/-- THE SECOND FORM's CARD OF 'laws.FnExactFirstSection'. -/
def fnExactFirstSectionUptoCard : Claim7 := { stood := { row := fnExactFirstSectionUptoRow, standIns := [], harness := (true, "05fe4f74def715e412a6b06496137dc0873a1f4bae4d625be7309486e0c57b1d"), looks := false }, kinds := [], alts := [], laidByText := true, laidKinds := [.sentinel], laidTests := true, laidLooks := .later }
def FnExactFirstSectionUptoCardSaid : Prop := Claim7.holds Tryd.pinned (.plain (OpenSpec.upto fnExactFirstSectionSpec)) fnExactFirstSectionUptoCard

/-- THE SECOND FORM's CARD OF 'laws.FnExactOrdersOfExtension'. -/
def fnExactOrdersOfExtensionUptoCard : Claim7 := { stood := { row := fnExactOrdersOfExtensionUptoRow, standIns := [], harness := (true, "05fe4f74def715e412a6b06496137dc0873a1f4bae4d625be7309486e0c57b1d"), looks := false }, kinds := [], alts := [], laidByText := true, laidKinds := [.sentinel], laidTests := true, laidLooks := .later }
def FnExactOrdersOfExtensionUptoCardSaid : Prop := Claim7.holds Tryd.pinned (.plain (OpenSpec.upto fnExactOrdersOfExtensionSpec)) fnExactOrdersOfExtensionUptoCard

/-- THE SECOND FORM's CARD OF 'laws.FnExactCentreOfExtension'. -/
def fnExactCentreOfExtensionUptoCard : Claim7 := { stood := { row := fnExactCentreOfExtensionUptoRow, standIns := [], harness := (true, "05fe4f74def715e412a6b06496137dc0873a1f4bae4d625be7309486e0c57b1d"), looks := false }, kinds := [], alts := [], laidByText := true, laidKinds := [.data, .sentinel], laidTests := true, laidLooks := .later }
def FnExactCentreOfExtensionUptoCardSaid : Prop := Claim7.holds Tryd.pinned (.plain (OpenSpec.upto fnExactCentreOfExtensionSpec)) fnExactCentreOfExtensionUptoCard

/-- THE SECOND FORM's CARD OF 'laws.FnExactModuleOfChoice'. -/
def fnExactModuleOfChoiceUptoCard : Claim7 := { stood := { row := fnExactModuleOfChoiceUptoRow, standIns := [], harness := (true, "05fe4f74def715e412a6b06496137dc0873a1f4bae4d625be7309486e0c57b1d"), looks := false }, kinds := [], alts := [], laidByText := true, laidKinds := [.data], laidTests := true, laidLooks := .later }
def FnExactModuleOfChoiceUptoCardSaid : Prop := Claim7.holds Tryd.pinned (.plain (OpenSpec.upto fnExactModuleOfChoiceSpec)) fnExactModuleOfChoiceUptoCard

/-- THE SECOND FORM's CARD OF 'laws.FnExactFactorSetOfChoice'. -/
def fnExactFactorSetOfChoiceUptoCard : Claim7 := { stood := { row := fnExactFactorSetOfChoiceUptoRow, standIns := [], harness := (true, "05fe4f74def715e412a6b06496137dc0873a1f4bae4d625be7309486e0c57b1d"), looks := false }, kinds := [], alts := [], laidByText := true, laidKinds := [.data, .sentinel], laidTests := true, laidLooks := .later }
def FnExactFactorSetOfChoiceUptoCardSaid : Prop := Claim7.holds Tryd.pinned (.plain (OpenSpec.upto fnExactFactorSetOfChoiceSpec)) fnExactFactorSetOfChoiceUptoCard

/-- THE SECOND FORM's CARD OF 'laws.FnExactQuotientOf'. -/
def fnExactQuotientOfUptoCard : Claim7 := { stood := { row := fnExactQuotientOfUptoRow, standIns := [], harness := (true, "05fe4f74def715e412a6b06496137dc0873a1f4bae4d625be7309486e0c57b1d"), looks := false }, kinds := [], alts := [], laidByText := true, laidKinds := [.data], laidTests := true, laidLooks := .later }
def FnExactQuotientOfUptoCardSaid : Prop := Claim7.holds Tryd.pinned (.plain (OpenSpec.upto fnExactQuotientOfSpec)) fnExactQuotientOfUptoCard

/-- THE SECOND FORM's CARD OF 'laws.FnExactClassesOf'. -/
def fnExactClassesOfUptoCard : Claim7 := { stood := { row := fnExactClassesOfUptoRow, standIns := [], harness := (true, "05fe4f74def715e412a6b06496137dc0873a1f4bae4d625be7309486e0c57b1d"), looks := false }, kinds := [], alts := [], laidByText := true, laidKinds := [.data], laidTests := true, laidLooks := .later }
def FnExactClassesOfUptoCardSaid : Prop := Claim7.holds Tryd.pinned (.plain (OpenSpec.upto fnExactClassesOfSpec)) fnExactClassesOfUptoCard

/-- THE SECOND FORM's CARD OF 'laws.FnExactSubgroupsOf'. -/
def fnExactSubgroupsOfUptoCard : Claim7 := { stood := { row := fnExactSubgroupsOfUptoRow, standIns := [], harness := (true, "05fe4f74def715e412a6b06496137dc0873a1f4bae4d625be7309486e0c57b1d"), looks := false }, kinds := [], alts := [], laidByText := true, laidKinds := [.data], laidTests := true, laidLooks := .later }
def FnExactSubgroupsOfUptoCardSaid : Prop := Claim7.holds Tryd.pinned (.plain (OpenSpec.upto fnExactSubgroupsOfSpec)) fnExactSubgroupsOfUptoCard
end Rows
end Go.Proofs.YtenenlpfpkdplaaDoor
