/-
  DERIVED. GIVEN WITH THE SEED: THE CARDS: each row of YtfnjpbjlikajbaaGreatDoorRows.lean that lists a variable, with what it lists TIED to the program's text (the seventh form; the later family's looks); each row that meets fmt, with fmt's text TOLD by the authors' own Lean function (tested against real Go, not proved from fmt's source: count such statements apart). THE CARD IS WHAT COUNTS. Prove the row's statement (the work); the ties are given (YtfnjpbjlikajbaaGreatDoorTie.lean); close each card by the builder's one call (the guide's Derived/Test/ToyasCard.lean, 'card_holds'). Laid BY PROGRAM, IN A SANDBOX (cutbox-door.mjs). By AI agents, Wed Nov 11 2026. No macro, syntax, notation, axiom, sorry.
-/
import Derived.Test.YtfnjpbjlikajbaaGreatDoorRows
import GoSem.ClaimSeven
namespace Go.Proofs.YtfnjpbjlikajbaaGreatDoor
namespace Rows

/-- THE TIED CARD OF 'laws.FnExactRestrictCochain'. -/
def fnExactRestrictCochainCard : Claim7 := { stood := { row := fnExactRestrictCochainRow, standIns := [], harness := (true, "b6f5d49a12f0d78465609ec366784d77ced3fb099a43532ca09582d6aa3fbc8e"), looks := false }, kinds := [], alts := [], laidByText := true, laidKinds := [.data, .sentinel], laidTests := true, laidLooks := .later }
def FnExactRestrictCochainCardSaid : Prop := Claim7.holds Tryz.pinned (.plain (OpenSpec.ofChange fnExactRestrictCochainSpec)) fnExactRestrictCochainCard

/-- THE TIED CARD OF 'laws.FnExactInflateCochain'. -/
def fnExactInflateCochainCard : Claim7 := { stood := { row := fnExactInflateCochainRow, standIns := [], harness := (true, "b6f5d49a12f0d78465609ec366784d77ced3fb099a43532ca09582d6aa3fbc8e"), looks := false }, kinds := [], alts := [], laidByText := true, laidKinds := [.data, .sentinel], laidTests := true, laidLooks := .later }
def FnExactInflateCochainCardSaid : Prop := Claim7.holds Tryz.pinned (.plain (OpenSpec.ofChange fnExactInflateCochainSpec)) fnExactInflateCochainCard

/-- THE TIED CARD OF 'laws.FnExactConjugateCochain'. -/
def fnExactConjugateCochainCard : Claim7 := { stood := { row := fnExactConjugateCochainRow, standIns := [], harness := (true, "b6f5d49a12f0d78465609ec366784d77ced3fb099a43532ca09582d6aa3fbc8e"), looks := false }, kinds := [], alts := [], laidByText := true, laidKinds := [.data, .sentinel], laidTests := true, laidLooks := .later }
def FnExactConjugateCochainCardSaid : Prop := Claim7.holds Tryz.pinned (.plain (OpenSpec.ofChange fnExactConjugateCochainSpec)) fnExactConjugateCochainCard

/-- THE TIED CARD OF 'laws.FnExactTransferCochain'. -/
def fnExactTransferCochainCard : Claim7 := { stood := { row := fnExactTransferCochainRow, standIns := [], harness := (true, "b6f5d49a12f0d78465609ec366784d77ced3fb099a43532ca09582d6aa3fbc8e"), looks := false }, kinds := [], alts := [], laidByText := true, laidKinds := [.data, .sentinel], laidTests := true, laidLooks := .later }
def FnExactTransferCochainCardSaid : Prop := Claim7.holds Tryz.pinned (.plain (OpenSpec.ofChange fnExactTransferCochainSpec)) fnExactTransferCochainCard

/-- THE SECOND FORM's CARD OF 'laws.FnExactRestrictCochain'. -/
def fnExactRestrictCochainUptoCard : Claim7 := { stood := { row := fnExactRestrictCochainUptoRow, standIns := [], harness := (true, "b6f5d49a12f0d78465609ec366784d77ced3fb099a43532ca09582d6aa3fbc8e"), looks := false }, kinds := [], alts := [], laidByText := true, laidKinds := [.data, .sentinel], laidTests := true, laidLooks := .later }
def FnExactRestrictCochainUptoCardSaid : Prop := Claim7.holds Tryz.pinned (.plain (OpenSpec.upto fnExactRestrictCochainSpec)) fnExactRestrictCochainUptoCard

/-- THE SECOND FORM's CARD OF 'laws.FnExactInflateCochain'. -/
def fnExactInflateCochainUptoCard : Claim7 := { stood := { row := fnExactInflateCochainUptoRow, standIns := [], harness := (true, "b6f5d49a12f0d78465609ec366784d77ced3fb099a43532ca09582d6aa3fbc8e"), looks := false }, kinds := [], alts := [], laidByText := true, laidKinds := [.data, .sentinel], laidTests := true, laidLooks := .later }
def FnExactInflateCochainUptoCardSaid : Prop := Claim7.holds Tryz.pinned (.plain (OpenSpec.upto fnExactInflateCochainSpec)) fnExactInflateCochainUptoCard

/-- THE SECOND FORM's CARD OF 'laws.FnExactConjugateCochain'. -/
def fnExactConjugateCochainUptoCard : Claim7 := { stood := { row := fnExactConjugateCochainUptoRow, standIns := [], harness := (true, "b6f5d49a12f0d78465609ec366784d77ced3fb099a43532ca09582d6aa3fbc8e"), looks := false }, kinds := [], alts := [], laidByText := true, laidKinds := [.data, .sentinel], laidTests := true, laidLooks := .later }
def FnExactConjugateCochainUptoCardSaid : Prop := Claim7.holds Tryz.pinned (.plain (OpenSpec.upto fnExactConjugateCochainSpec)) fnExactConjugateCochainUptoCard

/-- THE SECOND FORM's CARD OF 'laws.FnExactTransferCochain'. -/
def fnExactTransferCochainUptoCard : Claim7 := { stood := { row := fnExactTransferCochainUptoRow, standIns := [], harness := (true, "b6f5d49a12f0d78465609ec366784d77ced3fb099a43532ca09582d6aa3fbc8e"), looks := false }, kinds := [], alts := [], laidByText := true, laidKinds := [.data, .sentinel], laidTests := true, laidLooks := .later }
def FnExactTransferCochainUptoCardSaid : Prop := Claim7.holds Tryz.pinned (.plain (OpenSpec.upto fnExactTransferCochainSpec)) fnExactTransferCochainUptoCard
end Rows
end Go.Proofs.YtfnjpbjlikajbaaGreatDoor
