/-
  DERIVED. GIVEN WITH THE SEED: THE CARDS: each row of YtilhnmclleiodaaDoorRows.lean that lists a variable, with what it lists TIED to the program's text (the seventh form; the later family's looks); each row that meets fmt, with fmt's text TOLD by the authors' own Lean function (tested against real Go, not proved from fmt's source: count such statements apart). THE CARD IS WHAT COUNTS. Prove the row's statement (the work); the ties are given (YtilhnmclleiodaaDoorTie.lean); close each card by the builder's one call (the guide's Derived/Test/ToyasCard.lean, 'card_holds'). Laid BY PROGRAM, IN A SANDBOX (cutbox-door.mjs). By AI agents, Wed Nov 11 2026. No macro, syntax, notation, axiom, sorry.
-/
import Derived.Test.YtilhnmclleiodaaDoorRows
import GoSem.ClaimSeven
namespace Go.Proofs.YtilhnmclleiodaaDoor
namespace Rows

/-- THE TIED CARD OF 'laws.FnExactParseModule'. -/
def fnExactParseModuleCard : Claim7 := { stood := { row := fnExactParseModuleRow, standIns := [], harness := (true, "3da17110c08dcd94810aa807ff0ba27dcd5ea6a6cb486b2d07b7971ce02eb077"), looks := false }, kinds := [], alts := [], laidByText := true, laidKinds := [.data, .pinned], laidTests := true, laidLooks := .later }
def FnExactParseModuleCardSaid : Prop := Claim7.holds Tryd.pinned (.plain (OpenSpec.ofChange fnExactParseModuleSpec)) fnExactParseModuleCard

/-- THE TIED CARD OF 'laws.FnExactBoundaryOf'. -/
def fnExactBoundaryOfCard : Claim7 := { stood := { row := fnExactBoundaryOfRow, standIns := [], harness := (true, "3da17110c08dcd94810aa807ff0ba27dcd5ea6a6cb486b2d07b7971ce02eb077"), looks := false }, kinds := [], alts := [], laidByText := true, laidKinds := [.sentinel], laidTests := true, laidLooks := .later }
def FnExactBoundaryOfCardSaid : Prop := Claim7.holds Tryd.pinned (.plain (OpenSpec.ofChange fnExactBoundaryOfSpec)) fnExactBoundaryOfCard

/-- THE TIED CARD OF 'laws.FnExactIsCocycle'. -/
def fnExactIsCocycleCard : Claim7 := { stood := { row := fnExactIsCocycleRow, standIns := [], harness := (true, "3da17110c08dcd94810aa807ff0ba27dcd5ea6a6cb486b2d07b7971ce02eb077"), looks := false }, kinds := [], alts := [], laidByText := true, laidKinds := [.sentinel], laidTests := true, laidLooks := .later }
def FnExactIsCocycleCardSaid : Prop := Claim7.holds Tryd.pinned (.plain (OpenSpec.ofChange fnExactIsCocycleSpec)) fnExactIsCocycleCard

/-- THE TIED CARD OF 'laws.FnExactProductOfCochains'. -/
def fnExactProductOfCochainsCard : Claim7 := { stood := { row := fnExactProductOfCochainsRow, standIns := [], harness := (true, "3da17110c08dcd94810aa807ff0ba27dcd5ea6a6cb486b2d07b7971ce02eb077"), looks := false }, kinds := [], alts := [], laidByText := true, laidKinds := [.sentinel], laidTests := true, laidLooks := .later }
def FnExactProductOfCochainsCardSaid : Prop := Claim7.holds Tryd.pinned (.plain (OpenSpec.ofChange fnExactProductOfCochainsSpec)) fnExactProductOfCochainsCard

/-- THE TIED CARD OF 'laws.FnExactPullBack'. -/
def fnExactPullBackCard : Claim7 := { stood := { row := fnExactPullBackRow, standIns := [], harness := (true, "3da17110c08dcd94810aa807ff0ba27dcd5ea6a6cb486b2d07b7971ce02eb077"), looks := false }, kinds := [], alts := [], laidByText := true, laidKinds := [.sentinel], laidTests := true, laidLooks := .later }
def FnExactPullBackCardSaid : Prop := Claim7.holds Tryd.pinned (.plain (OpenSpec.ofChange fnExactPullBackSpec)) fnExactPullBackCard

/-- THE TIED CARD OF 'laws.FnExactMoveCochain'. -/
def fnExactMoveCochainCard : Claim7 := { stood := { row := fnExactMoveCochainRow, standIns := [], harness := (true, "3da17110c08dcd94810aa807ff0ba27dcd5ea6a6cb486b2d07b7971ce02eb077"), looks := false }, kinds := [], alts := [], laidByText := true, laidKinds := [.sentinel], laidTests := true, laidLooks := .later }
def FnExactMoveCochainCardSaid : Prop := Claim7.holds Tryd.pinned (.plain (OpenSpec.ofChange fnExactMoveCochainSpec)) fnExactMoveCochainCard

/-- THE TIED CARD OF 'laws.FnExactParseCochain'. -/
def fnExactParseCochainCard : Claim7 := { stood := { row := fnExactParseCochainRow, standIns := [], harness := (true, "3da17110c08dcd94810aa807ff0ba27dcd5ea6a6cb486b2d07b7971ce02eb077"), looks := false }, kinds := [], alts := [], laidByText := true, laidKinds := [.data, .pinned], laidTests := true, laidLooks := .later }
def FnExactParseCochainCardSaid : Prop := Claim7.holds Tryd.pinned (.plain (OpenSpec.ofChange fnExactParseCochainSpec)) fnExactParseCochainCard

/-- THE TIED CARD OF 'laws.FnExactCocycleSteps'. -/
def fnExactCocycleStepsCard : Claim7 := { stood := { row := fnExactCocycleStepsRow, standIns := [], harness := (true, "3da17110c08dcd94810aa807ff0ba27dcd5ea6a6cb486b2d07b7971ce02eb077"), looks := false }, kinds := [], alts := [], laidByText := true, laidKinds := [.sentinel], laidTests := true, laidLooks := .later }
def FnExactCocycleStepsCardSaid : Prop := Claim7.holds Tryd.pinned (.plain (OpenSpec.ofChange fnExactCocycleStepsSpec)) fnExactCocycleStepsCard

/-- THE TIED CARD OF 'laws.FnExactBoundingSteps'. -/
def fnExactBoundingStepsCard : Claim7 := { stood := { row := fnExactBoundingStepsRow, standIns := [], harness := (true, "3da17110c08dcd94810aa807ff0ba27dcd5ea6a6cb486b2d07b7971ce02eb077"), looks := false }, kinds := [], alts := [], laidByText := true, laidKinds := [.sentinel], laidTests := true, laidLooks := .later }
def FnExactBoundingStepsCardSaid : Prop := Claim7.holds Tryd.pinned (.plain (OpenSpec.ofChange fnExactBoundingStepsSpec)) fnExactBoundingStepsCard

/-- THE TIED CARD OF 'laws.FnExactInvariantsOf'. -/
def fnExactInvariantsOfCard : Claim7 := { stood := { row := fnExactInvariantsOfRow, standIns := [], harness := (true, "3da17110c08dcd94810aa807ff0ba27dcd5ea6a6cb486b2d07b7971ce02eb077"), looks := false }, kinds := [], alts := [], laidByText := true, laidKinds := [.sentinel], laidTests := true, laidLooks := .later }
def FnExactInvariantsOfCardSaid : Prop := Claim7.holds Tryd.pinned (.plain (OpenSpec.ofChange fnExactInvariantsOfSpec)) fnExactInvariantsOfCard

/-- THE TIED CARD OF 'laws.FnExactOrderOfCohomology'. -/
def fnExactOrderOfCohomologyCard : Claim7 := { stood := { row := fnExactOrderOfCohomologyRow, standIns := [], harness := (true, "3da17110c08dcd94810aa807ff0ba27dcd5ea6a6cb486b2d07b7971ce02eb077"), looks := false }, kinds := [], alts := [], laidByText := true, laidKinds := [.sentinel], laidTests := true, laidLooks := .later }
def FnExactOrderOfCohomologyCardSaid : Prop := Claim7.holds Tryd.pinned (.plain (OpenSpec.ofChange fnExactOrderOfCohomologySpec)) fnExactOrderOfCohomologyCard

/-- THE TIED CARD OF 'laws.FnExactIsBounding'. -/
def fnExactIsBoundingCard : Claim7 := { stood := { row := fnExactIsBoundingRow, standIns := [], harness := (true, "3da17110c08dcd94810aa807ff0ba27dcd5ea6a6cb486b2d07b7971ce02eb077"), looks := false }, kinds := [], alts := [], laidByText := true, laidKinds := [.sentinel], laidTests := true, laidLooks := .later }
def FnExactIsBoundingCardSaid : Prop := Claim7.holds Tryd.pinned (.plain (OpenSpec.ofChange fnExactIsBoundingSpec)) fnExactIsBoundingCard

/-- THE TIED CARD OF 'laws.FnExactLeastBounded'. -/
def fnExactLeastBoundedCard : Claim7 := { stood := { row := fnExactLeastBoundedRow, standIns := [], harness := (true, "3da17110c08dcd94810aa807ff0ba27dcd5ea6a6cb486b2d07b7971ce02eb077"), looks := false }, kinds := [], alts := [], laidByText := true, laidKinds := [.sentinel], laidTests := true, laidLooks := .later }
def FnExactLeastBoundedCardSaid : Prop := Claim7.holds Tryd.pinned (.plain (OpenSpec.ofChange fnExactLeastBoundedSpec)) fnExactLeastBoundedCard

/-- THE SECOND FORM's CARD OF 'laws.FnExactParseModule'. -/
def fnExactParseModuleUptoCard : Claim7 := { stood := { row := fnExactParseModuleUptoRow, standIns := [], harness := (true, "3da17110c08dcd94810aa807ff0ba27dcd5ea6a6cb486b2d07b7971ce02eb077"), looks := false }, kinds := [], alts := [], laidByText := true, laidKinds := [.data, .pinned], laidTests := true, laidLooks := .later }
def FnExactParseModuleUptoCardSaid : Prop := Claim7.holds Tryd.pinned (.plain (OpenSpec.upto fnExactParseModuleSpec)) fnExactParseModuleUptoCard

/-- THE SECOND FORM's CARD OF 'laws.FnExactBoundaryOf'. -/
def fnExactBoundaryOfUptoCard : Claim7 := { stood := { row := fnExactBoundaryOfUptoRow, standIns := [], harness := (true, "3da17110c08dcd94810aa807ff0ba27dcd5ea6a6cb486b2d07b7971ce02eb077"), looks := false }, kinds := [], alts := [], laidByText := true, laidKinds := [.sentinel], laidTests := true, laidLooks := .later }
def FnExactBoundaryOfUptoCardSaid : Prop := Claim7.holds Tryd.pinned (.plain (OpenSpec.upto fnExactBoundaryOfSpec)) fnExactBoundaryOfUptoCard

/-- THE SECOND FORM's CARD OF 'laws.FnExactIsCocycle'. -/
def fnExactIsCocycleUptoCard : Claim7 := { stood := { row := fnExactIsCocycleUptoRow, standIns := [], harness := (true, "3da17110c08dcd94810aa807ff0ba27dcd5ea6a6cb486b2d07b7971ce02eb077"), looks := false }, kinds := [], alts := [], laidByText := true, laidKinds := [.sentinel], laidTests := true, laidLooks := .later }
def FnExactIsCocycleUptoCardSaid : Prop := Claim7.holds Tryd.pinned (.plain (OpenSpec.upto fnExactIsCocycleSpec)) fnExactIsCocycleUptoCard

/-- THE SECOND FORM's CARD OF 'laws.FnExactProductOfCochains'. -/
def fnExactProductOfCochainsUptoCard : Claim7 := { stood := { row := fnExactProductOfCochainsUptoRow, standIns := [], harness := (true, "3da17110c08dcd94810aa807ff0ba27dcd5ea6a6cb486b2d07b7971ce02eb077"), looks := false }, kinds := [], alts := [], laidByText := true, laidKinds := [.sentinel], laidTests := true, laidLooks := .later }
def FnExactProductOfCochainsUptoCardSaid : Prop := Claim7.holds Tryd.pinned (.plain (OpenSpec.upto fnExactProductOfCochainsSpec)) fnExactProductOfCochainsUptoCard

/-- THE SECOND FORM's CARD OF 'laws.FnExactPullBack'. -/
def fnExactPullBackUptoCard : Claim7 := { stood := { row := fnExactPullBackUptoRow, standIns := [], harness := (true, "3da17110c08dcd94810aa807ff0ba27dcd5ea6a6cb486b2d07b7971ce02eb077"), looks := false }, kinds := [], alts := [], laidByText := true, laidKinds := [.sentinel], laidTests := true, laidLooks := .later }
def FnExactPullBackUptoCardSaid : Prop := Claim7.holds Tryd.pinned (.plain (OpenSpec.upto fnExactPullBackSpec)) fnExactPullBackUptoCard

/-- THE SECOND FORM's CARD OF 'laws.FnExactMoveCochain'. -/
def fnExactMoveCochainUptoCard : Claim7 := { stood := { row := fnExactMoveCochainUptoRow, standIns := [], harness := (true, "3da17110c08dcd94810aa807ff0ba27dcd5ea6a6cb486b2d07b7971ce02eb077"), looks := false }, kinds := [], alts := [], laidByText := true, laidKinds := [.sentinel], laidTests := true, laidLooks := .later }
def FnExactMoveCochainUptoCardSaid : Prop := Claim7.holds Tryd.pinned (.plain (OpenSpec.upto fnExactMoveCochainSpec)) fnExactMoveCochainUptoCard

/-- THE SECOND FORM's CARD OF 'laws.FnExactParseCochain'. -/
def fnExactParseCochainUptoCard : Claim7 := { stood := { row := fnExactParseCochainUptoRow, standIns := [], harness := (true, "3da17110c08dcd94810aa807ff0ba27dcd5ea6a6cb486b2d07b7971ce02eb077"), looks := false }, kinds := [], alts := [], laidByText := true, laidKinds := [.data, .pinned], laidTests := true, laidLooks := .later }
def FnExactParseCochainUptoCardSaid : Prop := Claim7.holds Tryd.pinned (.plain (OpenSpec.upto fnExactParseCochainSpec)) fnExactParseCochainUptoCard

/-- THE SECOND FORM's CARD OF 'laws.FnExactCocycleSteps'. -/
def fnExactCocycleStepsUptoCard : Claim7 := { stood := { row := fnExactCocycleStepsUptoRow, standIns := [], harness := (true, "3da17110c08dcd94810aa807ff0ba27dcd5ea6a6cb486b2d07b7971ce02eb077"), looks := false }, kinds := [], alts := [], laidByText := true, laidKinds := [.sentinel], laidTests := true, laidLooks := .later }
def FnExactCocycleStepsUptoCardSaid : Prop := Claim7.holds Tryd.pinned (.plain (OpenSpec.upto fnExactCocycleStepsSpec)) fnExactCocycleStepsUptoCard

/-- THE SECOND FORM's CARD OF 'laws.FnExactBoundingSteps'. -/
def fnExactBoundingStepsUptoCard : Claim7 := { stood := { row := fnExactBoundingStepsUptoRow, standIns := [], harness := (true, "3da17110c08dcd94810aa807ff0ba27dcd5ea6a6cb486b2d07b7971ce02eb077"), looks := false }, kinds := [], alts := [], laidByText := true, laidKinds := [.sentinel], laidTests := true, laidLooks := .later }
def FnExactBoundingStepsUptoCardSaid : Prop := Claim7.holds Tryd.pinned (.plain (OpenSpec.upto fnExactBoundingStepsSpec)) fnExactBoundingStepsUptoCard

/-- THE SECOND FORM's CARD OF 'laws.FnExactInvariantsOf'. -/
def fnExactInvariantsOfUptoCard : Claim7 := { stood := { row := fnExactInvariantsOfUptoRow, standIns := [], harness := (true, "3da17110c08dcd94810aa807ff0ba27dcd5ea6a6cb486b2d07b7971ce02eb077"), looks := false }, kinds := [], alts := [], laidByText := true, laidKinds := [.sentinel], laidTests := true, laidLooks := .later }
def FnExactInvariantsOfUptoCardSaid : Prop := Claim7.holds Tryd.pinned (.plain (OpenSpec.upto fnExactInvariantsOfSpec)) fnExactInvariantsOfUptoCard

/-- THE SECOND FORM's CARD OF 'laws.FnExactOrderOfCohomology'. -/
def fnExactOrderOfCohomologyUptoCard : Claim7 := { stood := { row := fnExactOrderOfCohomologyUptoRow, standIns := [], harness := (true, "3da17110c08dcd94810aa807ff0ba27dcd5ea6a6cb486b2d07b7971ce02eb077"), looks := false }, kinds := [], alts := [], laidByText := true, laidKinds := [.sentinel], laidTests := true, laidLooks := .later }
def FnExactOrderOfCohomologyUptoCardSaid : Prop := Claim7.holds Tryd.pinned (.plain (OpenSpec.upto fnExactOrderOfCohomologySpec)) fnExactOrderOfCohomologyUptoCard

/-- THE SECOND FORM's CARD OF 'laws.FnExactIsBounding'. -/
def fnExactIsBoundingUptoCard : Claim7 := { stood := { row := fnExactIsBoundingUptoRow, standIns := [], harness := (true, "3da17110c08dcd94810aa807ff0ba27dcd5ea6a6cb486b2d07b7971ce02eb077"), looks := false }, kinds := [], alts := [], laidByText := true, laidKinds := [.sentinel], laidTests := true, laidLooks := .later }
def FnExactIsBoundingUptoCardSaid : Prop := Claim7.holds Tryd.pinned (.plain (OpenSpec.upto fnExactIsBoundingSpec)) fnExactIsBoundingUptoCard

/-- THE SECOND FORM's CARD OF 'laws.FnExactLeastBounded'. -/
def fnExactLeastBoundedUptoCard : Claim7 := { stood := { row := fnExactLeastBoundedUptoRow, standIns := [], harness := (true, "3da17110c08dcd94810aa807ff0ba27dcd5ea6a6cb486b2d07b7971ce02eb077"), looks := false }, kinds := [], alts := [], laidByText := true, laidKinds := [.sentinel], laidTests := true, laidLooks := .later }
def FnExactLeastBoundedUptoCardSaid : Prop := Claim7.holds Tryd.pinned (.plain (OpenSpec.upto fnExactLeastBoundedSpec)) fnExactLeastBoundedUptoCard
end Rows
end Go.Proofs.YtilhnmclleiodaaDoor
