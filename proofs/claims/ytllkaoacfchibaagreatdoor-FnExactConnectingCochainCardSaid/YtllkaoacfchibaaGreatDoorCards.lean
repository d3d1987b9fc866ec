/-
  DERIVED. GIVEN WITH THE SEED: THE CARDS: each row of YtllkaoacfchibaaGreatDoorRows.lean that lists a variable, with what it lists TIED to the program's text (the seventh form; the later family's looks); each row that meets fmt, with fmt's text TOLD by the authors' own Lean function (tested against real Go, not proved from fmt's source: count such statements apart). THE CARD IS WHAT COUNTS. Prove the row's statement (the work); the ties are given (YtllkaoacfchibaaGreatDoorTie.lean); close each card by the builder's one call (the guide's Derived/Test/ToyasCard.lean, 'card_holds'). Laid BY PROGRAM, IN A SANDBOX (cutbox-door.mjs). By AI agents, Wed Nov 11 2026. No macro, syntax, notation, axiom, sorry.
-/
import Derived.Test.YtllkaoacfchibaaGreatDoorRows
import GoSem.ClaimSeven
namespace Go.Proofs.YtllkaoacfchibaaGreatDoor
namespace Rows

/-- THE TIED CARD OF 'laws.FnExactConnectingCochain'. -/
def fnExactConnectingCochainCard : Claim7 := { stood := { row := fnExactConnectingCochainRow, standIns := [], harness := (true, "7ae48dbfa54a875e3010787c82247de9dd732dfd69532034e4e142e95543e1a0"), looks := true }, kinds := [], alts := [], laidByText := true, laidKinds := [.sentinel, .sentinel], laidTests := true, laidLooks := .later }
def FnExactConnectingCochainCardSaid : Prop := Claim7.holds Tryz.pinned (.plain (OpenSpec.ofChange fnExactConnectingCochainSpec)) fnExactConnectingCochainCard

/-- THE TIED CARD OF 'laws.FnExactImageOrders'. -/
def fnExactImageOrdersCard : Claim7 := { stood := { row := fnExactImageOrdersRow, standIns := [], harness := (true, "7ae48dbfa54a875e3010787c82247de9dd732dfd69532034e4e142e95543e1a0"), looks := true }, kinds := [], alts := [], laidByText := true, laidKinds := [.sentinel, .sentinel], laidTests := true, laidLooks := .later }
def FnExactImageOrdersCardSaid : Prop := Claim7.holds Tryz.pinned (.plain (OpenSpec.ofChange fnExactImageOrdersSpec)) fnExactImageOrdersCard

/-- THE TIED CARD OF 'laws.FnExactRestrictCochain'. -/
def fnExactRestrictCochainCard : Claim7 := { stood := { row := fnExactRestrictCochainRow, standIns := [], harness := (true, "7ae48dbfa54a875e3010787c82247de9dd732dfd69532034e4e142e95543e1a0"), looks := true }, kinds := [], alts := [], laidByText := true, laidKinds := [.data, .sentinel], laidTests := true, laidLooks := .later }
def FnExactRestrictCochainCardSaid : Prop := Claim7.holds Tryz.pinned (.plain (OpenSpec.ofChange fnExactRestrictCochainSpec)) fnExactRestrictCochainCard

/-- THE TIED CARD OF 'laws.FnExactTransferCochain'. -/
def fnExactTransferCochainCard : Claim7 := { stood := { row := fnExactTransferCochainRow, standIns := [], harness := (true, "7ae48dbfa54a875e3010787c82247de9dd732dfd69532034e4e142e95543e1a0"), looks := true }, kinds := [], alts := [], laidByText := true, laidKinds := [.data, .sentinel], laidTests := true, laidLooks := .later }
def FnExactTransferCochainCardSaid : Prop := Claim7.holds Tryz.pinned (.plain (OpenSpec.ofChange fnExactTransferCochainSpec)) fnExactTransferCochainCard

/-- THE TIED CARD OF 'laws.FnExactInflateCochain'. -/
def fnExactInflateCochainCard : Claim7 := { stood := { row := fnExactInflateCochainRow, standIns := [], harness := (true, "7ae48dbfa54a875e3010787c82247de9dd732dfd69532034e4e142e95543e1a0"), looks := true }, kinds := [], alts := [], laidByText := true, laidKinds := [.data, .sentinel], laidTests := true, laidLooks := .later }
def FnExactInflateCochainCardSaid : Prop := Claim7.holds Tryz.pinned (.plain (OpenSpec.ofChange fnExactInflateCochainSpec)) fnExactInflateCochainCard

/-- THE TIED CARD OF 'laws.FnExactConjugateCochain'. -/
def fnExactConjugateCochainCard : Claim7 := { stood := { row := fnExactConjugateCochainRow, standIns := [], harness := (true, "7ae48dbfa54a875e3010787c82247de9dd732dfd69532034e4e142e95543e1a0"), looks := true }, kinds := [], alts := [], laidByText := true, laidKinds := [.data, .sentinel], laidTests := true, laidLooks := .later }
def FnExactConjugateCochainCardSaid : Prop := Claim7.holds Tryz.pinned (.plain (OpenSpec.ofChange fnExactConjugateCochainSpec)) fnExactConjugateCochainCard

/-- THE SECOND FORM's CARD OF 'laws.FnExactConnectingCochain'. -/
def fnExactConnectingCochainUptoCard : Claim7 := { stood := { row := fnExactConnectingCochainUptoRow, standIns := [], harness := (true, "7ae48dbfa54a875e3010787c82247de9dd732dfd69532034e4e142e95543e1a0"), looks := true }, kinds := [], alts := [], laidByText := true, laidKinds := [.sentinel, .sentinel], laidTests := true, laidLooks := .later }
def FnExactConnectingCochainUptoCardSaid : Prop := Claim7.holds Tryz.pinned (.plain (OpenSpec.upto fnExactConnectingCochainSpec)) fnExactConnectingCochainUptoCard

/-- THE SECOND FORM's CARD OF 'laws.FnExactImageOrders'. -/
def fnExactImageOrdersUptoCard : Claim7 := { stood := { row := fnExactImageOrdersUptoRow, standIns := [], harness := (true, "7ae48dbfa54a875e3010787c82247de9dd732dfd69532034e4e142e95543e1a0"), looks := true }, kinds := [], alts := [], laidByText := true, laidKinds := [.sentinel, .sentinel], laidTests := true, laidLooks := .later }
def FnExactImageOrdersUptoCardSaid : Prop := Claim7.holds Tryz.pinned (.plain (OpenSpec.upto fnExactImageOrdersSpec)) fnExactImageOrdersUptoCard

/-- THE SECOND FORM's CARD OF 'laws.FnExactRestrictCochain'. -/
def fnExactRestrictCochainUptoCard : Claim7 := { stood := { row := fnExactRestrictCochainUptoRow, standIns := [], harness := (true, "7ae48dbfa54a875e3010787c82247de9dd732dfd69532034e4e142e95543e1a0"), looks := true }, kinds := [], alts := [], laidByText := true, laidKinds := [.data, .sentinel], laidTests := true, laidLooks := .later }
def FnExactRestrictCochainUptoCardSaid : Prop := Claim7.holds Tryz.pinned (.plain (OpenSpec.upto fnExactRestrictCochainSpec)) fnExactRestrictCochainUptoCard

/-- THE SECOND FORM's CARD OF 'laws.FnExactTransferCochain'. -/
def fnExactTransferCochainUptoCard : Claim7 := { stood := { row := fnExactTransferCochainUptoRow, standIns := [], harness := (true, "7ae48dbfa54a875e3010787c82247de9dd732dfd69532034e4e142e95543e1a0"), looks := true }, kinds := [], alts := [], laidByText := true, laidKinds := [.data, .sentinel], laidTests := true, laidLooks := .later }
def FnExactTransferCochainUptoCardSaid : Prop := Claim7.holds Tryz.pinned (.plain (OpenSpec.upto fnExactTransferCochainSpec)) fnExactTransferCochainUptoCard

/-- THE SECOND FORM's CARD OF 'laws.FnExactInflateCochain'. -/
def fnExactInflateCochainUptoCard : Claim7 := { stood := { row := fnExactInflateCochainUptoRow, standIns := [], harness := (true, "7ae48dbfa54a875e3010787c82247de9dd732dfd69532034e4e142e95543e1a0"), looks := true }, kinds := [], alts := [], laidByText := true, laidKinds := [.data, .sentinel], laidTests := true, laidLooks := .later }
def FnExactInflateCochainUptoCardSaid : Prop := Claim7.holds Tryz.pinned (.plain (OpenSpec.upto fnExactInflateCochainSpec)) fnExactInflateCochainUptoCard

/-- THE SECOND FORM's CARD OF 'laws.FnExactConjugateCochain'. -/
def fnExactConjugateCochainUptoCard : Claim7 := { stood := { row := fnExactConjugateCochainUptoRow, standIns := [], harness := (true, "7ae48dbfa54a875e3010787c82247de9dd732dfd69532034e4e142e95543e1a0"), looks := true }, kinds := [], alts := [], laidByText := true, laidKinds := [.data, .sentinel], laidTests := true, laidLooks := .later }
def FnExactConjugateCochainUptoCardSaid : Prop := Claim7.holds Tryz.pinned (.plain (OpenSpec.upto fnExactConjugateCochainSpec)) fnExactConjugateCochainUptoCard
end Rows
end Go.Proofs.YtllkaoacfchibaaGreatDoor
