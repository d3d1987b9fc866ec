/-
  DERIVED. GIVEN WITH THE SEED: THE CARDS: each row of YtdehalkebneaoaaDoorRows.lean that lists a variable, with what it lists TIED to the program's text (the seventh form; the later family's looks); each row that meets fmt, with fmt's text TOLD by the authors' own Lean function (tested against real Go, not proved from fmt's source: count such statements apart). THE CARD IS WHAT COUNTS. Prove the row's statement (the work); the ties are given (YtdehalkebneaoaaDoorTie.lean); close each card by the builder's one call (the guide's Derived/Test/ToyasCard.lean, 'card_holds'). Laid BY PROGRAM, IN A SANDBOX (cutbox-door.mjs). By AI agents, Wed Nov 11 2026. No macro, syntax, notation, axiom, sorry.
-/
import Derived.Test.YtdehalkebneaoaaDoorRows
import GoSem.ClaimSeven
namespace Go.Proofs.YtdehalkebneaoaaDoor
namespace Rows

/-- THE TIED CARD OF 'laws.FnExactListOf'. -/
def fnExactListOfCard : Claim7 := { stood := { row := fnExactListOfRow, standIns := [], harness := (true, "697a55497da7b66d679a1e8fab121d12f0f71d94e397438a1facfe2e1e9ab373"), looks := true }, kinds := [], alts := [], laidByText := true, laidKinds := [.sentinel], laidTests := true, laidLooks := .later }
def FnExactListOfCardSaid : Prop := Claim7.holds Tryd.pinned (.plain (OpenSpec.ofChange fnExactListOfSpec)) fnExactListOfCard

/-- THE TIED CARD OF 'laws.FnExactValueOf'. -/
def fnExactValueOfCard : Claim7 := { stood := { row := fnExactValueOfRow, standIns := [], harness := (true, "697a55497da7b66d679a1e8fab121d12f0f71d94e397438a1facfe2e1e9ab373"), looks := true }, kinds := [], alts := [], laidByText := true, laidKinds := [.sentinel], laidTests := true, laidLooks := .later }
def FnExactValueOfCardSaid : Prop := Claim7.holds Tryd.pinned (.plain (OpenSpec.ofChange fnExactValueOfSpec)) fnExactValueOfCard

/-- THE TIED CARD OF 'laws.FnExactBoundaryOf'. -/
def fnExactBoundaryOfCard : Claim7 := { stood := { row := fnExactBoundaryOfRow, standIns := [], harness := (true, "697a55497da7b66d679a1e8fab121d12f0f71d94e397438a1facfe2e1e9ab373"), looks := true }, kinds := [], alts := [], laidByText := true, laidKinds := [.sentinel], laidTests := true, laidLooks := .later }
def FnExactBoundaryOfCardSaid : Prop := Claim7.holds Tryd.pinned (.plain (OpenSpec.ofChange fnExactBoundaryOfSpec)) fnExactBoundaryOfCard

/-- THE TIED CARD OF 'laws.FnExactIsCocycle'. -/
def fnExactIsCocycleCard : Claim7 := { stood := { row := fnExactIsCocycleRow, standIns := [], harness := (true, "697a55497da7b66d679a1e8fab121d12f0f71d94e397438a1facfe2e1e9ab373"), looks := true }, kinds := [], alts := [], laidByText := true, laidKinds := [.sentinel], laidTests := true, laidLooks := .later }
def FnExactIsCocycleCardSaid : Prop := Claim7.holds Tryd.pinned (.plain (OpenSpec.ofChange fnExactIsCocycleSpec)) fnExactIsCocycleCard

/-- THE TIED CARD OF 'laws.FnExactProductOfCochains'. -/
def fnExactProductOfCochainsCard : Claim7 := { stood := { row := fnExactProductOfCochainsRow, standIns := [], harness := (true, "697a55497da7b66d679a1e8fab121d12f0f71d94e397438a1facfe2e1e9ab373"), looks := true }, kinds := [], alts := [], laidByText := true, laidKinds := [.sentinel], laidTests := true, laidLooks := .later }
def FnExactProductOfCochainsCardSaid : Prop := Claim7.holds Tryd.pinned (.plain (OpenSpec.ofChange fnExactProductOfCochainsSpec)) fnExactProductOfCochainsCard

/-- THE TIED CARD OF 'laws.FnExactPullBack'. -/
def fnExactPullBackCard : Claim7 := { stood := { row := fnExactPullBackRow, standIns := [], harness := (true, "697a55497da7b66d679a1e8fab121d12f0f71d94e397438a1facfe2e1e9ab373"), looks := true }, kinds := [], alts := [], laidByText := true, laidKinds := [.sentinel], laidTests := true, laidLooks := .later }
def FnExactPullBackCardSaid : Prop := Claim7.holds Tryd.pinned (.plain (OpenSpec.ofChange fnExactPullBackSpec)) fnExactPullBackCard

/-- THE TIED CARD OF 'laws.FnExactMoveCochain'. -/
def fnExactMoveCochainCard : Claim7 := { stood := { row := fnExactMoveCochainRow, standIns := [], harness := (true, "697a55497da7b66d679a1e8fab121d12f0f71d94e397438a1facfe2e1e9ab373"), looks := true }, kinds := [], alts := [], laidByText := true, laidKinds := [.sentinel], laidTests := true, laidLooks := .later }
def FnExactMoveCochainCardSaid : Prop := Claim7.holds Tryd.pinned (.plain (OpenSpec.ofChange fnExactMoveCochainSpec)) fnExactMoveCochainCard

/-- THE TIED CARD OF 'laws.FnExactKernelOf'. -/
def fnExactKernelOfCard : Claim7 := { stood := { row := fnExactKernelOfRow, standIns := [], harness := (true, "697a55497da7b66d679a1e8fab121d12f0f71d94e397438a1facfe2e1e9ab373"), looks := true }, kinds := [], alts := [], laidByText := true, laidKinds := [.data], laidTests := true, laidLooks := .later }
def FnExactKernelOfCardSaid : Prop := Claim7.holds Tryd.pinned (.plain (OpenSpec.ofChange fnExactKernelOfSpec)) fnExactKernelOfCard

/-- THE TIED CARD OF 'laws.FnExactModuleText'. -/
def fnExactModuleTextCard : Claim7 := { stood := { row := fnExactModuleTextRow, standIns := [], harness := (true, "697a55497da7b66d679a1e8fab121d12f0f71d94e397438a1facfe2e1e9ab373"), looks := true }, kinds := [], alts := [], laidByText := true, laidKinds := [.data, .data, .data], laidTests := true, laidLooks := .later }
def FnExactModuleTextCardSaid : Prop := Claim7.holds Tryd.pinned (.plain (OpenSpec.ofChange fnExactModuleTextSpec)) fnExactModuleTextCard

/-- THE TIED CARD OF 'laws.FnExactParseModule'. -/
def fnExactParseModuleCard : Claim7 := { stood := { row := fnExactParseModuleRow, standIns := [], harness := (true, "697a55497da7b66d679a1e8fab121d12f0f71d94e397438a1facfe2e1e9ab373"), looks := true }, kinds := [], alts := [], laidByText := true, laidKinds := [.data, .pinned], laidTests := true, laidLooks := .later }
def FnExactParseModuleCardSaid : Prop := Claim7.holds Tryd.pinned (.plain (OpenSpec.ofChange fnExactParseModuleSpec)) fnExactParseModuleCard

/-- THE TIED CARD OF 'laws.FnExactCochainText'. -/
def fnExactCochainTextCard : Claim7 := { stood := { row := fnExactCochainTextRow, standIns := [], harness := (true, "697a55497da7b66d679a1e8fab121d12f0f71d94e397438a1facfe2e1e9ab373"), looks := true }, kinds := [], alts := [], laidByText := true, laidKinds := [.data, .data, .data], laidTests := true, laidLooks := .later }
def FnExactCochainTextCardSaid : Prop := Claim7.holds Tryd.pinned (.plain (OpenSpec.ofChange fnExactCochainTextSpec)) fnExactCochainTextCard

/-- THE TIED CARD OF 'laws.FnExactParseCochain'. -/
def fnExactParseCochainCard : Claim7 := { stood := { row := fnExactParseCochainRow, standIns := [], harness := (true, "697a55497da7b66d679a1e8fab121d12f0f71d94e397438a1facfe2e1e9ab373"), looks := true }, kinds := [], alts := [], laidByText := true, laidKinds := [.data, .pinned], laidTests := true, laidLooks := .later }
def FnExactParseCochainCardSaid : Prop := Claim7.holds Tryd.pinned (.plain (OpenSpec.ofChange fnExactParseCochainSpec)) fnExactParseCochainCard

/-- THE SECOND FORM's CARD OF 'laws.FnExactListOf'. -/
def fnExactListOfUptoCard : Claim7 := { stood := { row := fnExactListOfUptoRow, standIns := [], harness := (true, "697a55497da7b66d679a1e8fab121d12f0f71d94e397438a1facfe2e1e9ab373"), looks := true }, kinds := [], alts := [], laidByText := true, laidKinds := [.sentinel], laidTests := true, laidLooks := .later }
def FnExactListOfUptoCardSaid : Prop := Claim7.holds Tryd.pinned (.plain (OpenSpec.upto fnExactListOfSpec)) fnExactListOfUptoCard

/-- THE SECOND FORM's CARD OF 'laws.FnExactValueOf'. -/
def fnExactValueOfUptoCard : Claim7 := { stood := { row := fnExactValueOfUptoRow, standIns := [], harness := (true, "697a55497da7b66d679a1e8fab121d12f0f71d94e397438a1facfe2e1e9ab373"), looks := true }, kinds := [], alts := [], laidByText := true, laidKinds := [.sentinel], laidTests := true, laidLooks := .later }
def FnExactValueOfUptoCardSaid : Prop := Claim7.holds Tryd.pinned (.plain (OpenSpec.upto fnExactValueOfSpec)) fnExactValueOfUptoCard

/-- THE SECOND FORM's CARD OF 'laws.FnExactBoundaryOf'. -/
def fnExactBoundaryOfUptoCard : Claim7 := { stood := { row := fnExactBoundaryOfUptoRow, standIns := [], harness := (true, "697a55497da7b66d679a1e8fab121d12f0f71d94e397438a1facfe2e1e9ab373"), looks := true }, kinds := [], alts := [], laidByText := true, laidKinds := [.sentinel], laidTests := true, laidLooks := .later }
def FnExactBoundaryOfUptoCardSaid : Prop := Claim7.holds Tryd.pinned (.plain (OpenSpec.upto fnExactBoundaryOfSpec)) fnExactBoundaryOfUptoCard

/-- THE SECOND FORM's CARD OF 'laws.FnExactIsCocycle'. -/
def fnExactIsCocycleUptoCard : Claim7 := { stood := { row := fnExactIsCocycleUptoRow, standIns := [], harness := (true, "697a55497da7b66d679a1e8fab121d12f0f71d94e397438a1facfe2e1e9ab373"), looks := true }, kinds := [], alts := [], laidByText := true, laidKinds := [.sentinel], laidTests := true, laidLooks := .later }
def FnExactIsCocycleUptoCardSaid : Prop := Claim7.holds Tryd.pinned (.plain (OpenSpec.upto fnExactIsCocycleSpec)) fnExactIsCocycleUptoCard

/-- THE SECOND FORM's CARD OF 'laws.FnExactProductOfCochains'. -/
def fnExactProductOfCochainsUptoCard : Claim7 := { stood := { row := fnExactProductOfCochainsUptoRow, standIns := [], harness := (true, "697a55497da7b66d679a1e8fab121d12f0f71d94e397438a1facfe2e1e9ab373"), looks := true }, kinds := [], alts := [], laidByText := true, laidKinds := [.sentinel], laidTests := true, laidLooks := .later }
def FnExactProductOfCochainsUptoCardSaid : Prop := Claim7.holds Tryd.pinned (.plain (OpenSpec.upto fnExactProductOfCochainsSpec)) fnExactProductOfCochainsUptoCard

/-- THE SECOND FORM's CARD OF 'laws.FnExactPullBack'. -/
def fnExactPullBackUptoCard : Claim7 := { stood := { row := fnExactPullBackUptoRow, standIns := [], harness := (true, "697a55497da7b66d679a1e8fab121d12f0f71d94e397438a1facfe2e1e9ab373"), looks := true }, kinds := [], alts := [], laidByText := true, laidKinds := [.sentinel], laidTests := true, laidLooks := .later }
def FnExactPullBackUptoCardSaid : Prop := Claim7.holds Tryd.pinned (.plain (OpenSpec.upto fnExactPullBackSpec)) fnExactPullBackUptoCard

/-- THE SECOND FORM's CARD OF 'laws.FnExactMoveCochain'. -/
def fnExactMoveCochainUptoCard : Claim7 := { stood := { row := fnExactMoveCochainUptoRow, standIns := [], harness := (true, "697a55497da7b66d679a1e8fab121d12f0f71d94e397438a1facfe2e1e9ab373"), looks := true }, kinds := [], alts := [], laidByText := true, laidKinds := [.sentinel], laidTests := true, laidLooks := .later }
def FnExactMoveCochainUptoCardSaid : Prop := Claim7.holds Tryd.pinned (.plain (OpenSpec.upto fnExactMoveCochainSpec)) fnExactMoveCochainUptoCard

/-- THE SECOND FORM's CARD OF 'laws.FnExactKernelOf'. -/
def fnExactKernelOfUptoCard : Claim7 := { stood := { row := fnExactKernelOfUptoRow, standIns := [], harness := (true, "697a55497da7b66d679a1e8fab121d12f0f71d94e397438a1facfe2e1e9ab373"), looks := true }, kinds := [], alts := [], laidByText := true, laidKinds := [.data], laidTests := true, laidLooks := .later }
def FnExactKernelOfUptoCardSaid : Prop := Claim7.holds Tryd.pinned (.plain (OpenSpec.upto fnExactKernelOfSpec)) fnExactKernelOfUptoCard

/-- THE SECOND FORM's CARD OF 'laws.FnExactModuleText'. -/
def fnExactModuleTextUptoCard : Claim7 := { stood := { row := fnExactModuleTextUptoRow, standIns := [], harness := (true, "697a55497da7b66d679a1e8fab121d12f0f71d94e397438a1facfe2e1e9ab373"), looks := true }, kinds := [], alts := [], laidByText := true, laidKinds := [.data, .data, .data], laidTests := true, laidLooks := .later }
def FnExactModuleTextUptoCardSaid : Prop := Claim7.holds Tryd.pinned (.plain (OpenSpec.upto fnExactModuleTextSpec)) fnExactModuleTextUptoCard

/-- THE SECOND FORM's CARD OF 'laws.FnExactParseModule'. -/
def fnExactParseModuleUptoCard : Claim7 := { stood := { row := fnExactParseModuleUptoRow, standIns := [], harness := (true, "697a55497da7b66d679a1e8fab121d12f0f71d94e397438a1facfe2e1e9ab373"), looks := true }, kinds := [], alts := [], laidByText := true, laidKinds := [.data, .pinned], laidTests := true, laidLooks := .later }
def FnExactParseModuleUptoCardSaid : Prop := Claim7.holds Tryd.pinned (.plain (OpenSpec.upto fnExactParseModuleSpec)) fnExactParseModuleUptoCard

/-- THE SECOND FORM's CARD OF 'laws.FnExactCochainText'. -/
def fnExactCochainTextUptoCard : Claim7 := { stood := { row := fnExactCochainTextUptoRow, standIns := [], harness := (true, "697a55497da7b66d679a1e8fab121d12f0f71d94e397438a1facfe2e1e9ab373"), looks := true }, kinds := [], alts := [], laidByText := true, laidKinds := [.data, .data, .data], laidTests := true, laidLooks := .later }
def FnExactCochainTextUptoCardSaid : Prop := Claim7.holds Tryd.pinned (.plain (OpenSpec.upto fnExactCochainTextSpec)) fnExactCochainTextUptoCard

/-- THE SECOND FORM's CARD OF 'laws.FnExactParseCochain'. -/
def fnExactParseCochainUptoCard : Claim7 := { stood := { row := fnExactParseCochainUptoRow, standIns := [], harness := (true, "697a55497da7b66d679a1e8fab121d12f0f71d94e397438a1facfe2e1e9ab373"), looks := true }, kinds := [], alts := [], laidByText := true, laidKinds := [.data, .pinned], laidTests := true, laidLooks := .later }
def FnExactParseCochainUptoCardSaid : Prop := Claim7.holds Tryd.pinned (.plain (OpenSpec.upto fnExactParseCochainSpec)) fnExactParseCochainUptoCard
end Rows
end Go.Proofs.YtdehalkebneaoaaDoor
