/-
  DERIVED. GIVEN WITH THE SEED: THE CARDS: each row of YtmmgmbgnlcfabaaDoorRows.lean that lists a variable, with what it lists TIED to the program's text (the seventh form; the later family's looks); each row that meets fmt, with fmt's text TOLD by the authors' own Lean function (tested against real Go, not proved from fmt's source: count such statements apart). THE CARD IS WHAT COUNTS. Prove the row's statement (the work); the ties are given (YtmmgmbgnlcfabaaDoorTie.lean); close each card by the builder's one call (the guide's Derived/Test/ToyasCard.lean, 'card_holds'). Laid BY PROGRAM, IN A SANDBOX (cutbox-door.mjs). By AI agents, Wed Nov 11 2026. No macro, syntax, notation, axiom, sorry.
-/
import Derived.Test.YtmmgmbgnlcfabaaDoorRows
import GoSem.ClaimSeven
namespace Go.Proofs.YtmmgmbgnlcfabaaDoor
namespace Rows

/-- THE TIED CARD OF 'laws.FnExactCentreOf'. -/
def fnExactCentreOfCard : Claim7 := { stood := { row := fnExactCentreOfRow, standIns := [], harness := (true, "8f3dae8c68efbe2e276ec336b7f6fc4684fc7de8cff77fdf685a3a2eae2fdfe0"), looks := false }, kinds := [], alts := [], laidByText := true, laidKinds := [.data], laidTests := true, laidLooks := .later }
def FnExactCentreOfCardSaid : Prop := Claim7.holds Tryd.pinned (.plain (OpenSpec.ofChange fnExactCentreOfSpec)) fnExactCentreOfCard

/-- THE TIED CARD OF 'laws.FnExactSubgroupOf'. -/
def fnExactSubgroupOfCard : Claim7 := { stood := { row := fnExactSubgroupOfRow, standIns := [], harness := (true, "8f3dae8c68efbe2e276ec336b7f6fc4684fc7de8cff77fdf685a3a2eae2fdfe0"), looks := false }, kinds := [], alts := [], laidByText := true, laidKinds := [.data], laidTests := true, laidLooks := .later }
def FnExactSubgroupOfCardSaid : Prop := Claim7.holds Tryd.pinned (.plain (OpenSpec.ofChange fnExactSubgroupOfSpec)) fnExactSubgroupOfCard

/-- THE TIED CARD OF 'laws.FnExactSubgroupsOf'. -/
def fnExactSubgroupsOfCard : Claim7 := { stood := { row := fnExactSubgroupsOfRow, standIns := [], harness := (true, "8f3dae8c68efbe2e276ec336b7f6fc4684fc7de8cff77fdf685a3a2eae2fdfe0"), looks := false }, kinds := [], alts := [], laidByText := true, laidKinds := [.data], laidTests := true, laidLooks := .later }
def FnExactSubgroupsOfCardSaid : Prop := Claim7.holds Tryd.pinned (.plain (OpenSpec.ofChange fnExactSubgroupsOfSpec)) fnExactSubgroupsOfCard

/-- THE TIED CARD OF 'laws.FnExactIsNormal'. -/
def fnExactIsNormalCard : Claim7 := { stood := { row := fnExactIsNormalRow, standIns := [], harness := (true, "8f3dae8c68efbe2e276ec336b7f6fc4684fc7de8cff77fdf685a3a2eae2fdfe0"), looks := false }, kinds := [], alts := [], laidByText := true, laidKinds := [.data], laidTests := true, laidLooks := .later }
def FnExactIsNormalCardSaid : Prop := Claim7.holds Tryd.pinned (.plain (OpenSpec.ofChange fnExactIsNormalSpec)) fnExactIsNormalCard

/-- THE TIED CARD OF 'laws.FnExactQuotientOf'. -/
def fnExactQuotientOfCard : Claim7 := { stood := { row := fnExactQuotientOfRow, standIns := [], harness := (true, "8f3dae8c68efbe2e276ec336b7f6fc4684fc7de8cff77fdf685a3a2eae2fdfe0"), looks := false }, kinds := [], alts := [], laidByText := true, laidKinds := [.data], laidTests := true, laidLooks := .later }
def FnExactQuotientOfCardSaid : Prop := Claim7.holds Tryd.pinned (.plain (OpenSpec.ofChange fnExactQuotientOfSpec)) fnExactQuotientOfCard

/-- THE TIED CARD OF 'laws.FnExactClassesOf'. -/
def fnExactClassesOfCard : Claim7 := { stood := { row := fnExactClassesOfRow, standIns := [], harness := (true, "8f3dae8c68efbe2e276ec336b7f6fc4684fc7de8cff77fdf685a3a2eae2fdfe0"), looks := false }, kinds := [], alts := [], laidByText := true, laidKinds := [.data], laidTests := true, laidLooks := .later }
def FnExactClassesOfCardSaid : Prop := Claim7.holds Tryd.pinned (.plain (OpenSpec.ofChange fnExactClassesOfSpec)) fnExactClassesOfCard

/-- THE TIED CARD OF 'laws.FnExactDerivedOf'. -/
def fnExactDerivedOfCard : Claim7 := { stood := { row := fnExactDerivedOfRow, standIns := [], harness := (true, "8f3dae8c68efbe2e276ec336b7f6fc4684fc7de8cff77fdf685a3a2eae2fdfe0"), looks := false }, kinds := [], alts := [], laidByText := true, laidKinds := [.data], laidTests := true, laidLooks := .later }
def FnExactDerivedOfCardSaid : Prop := Claim7.holds Tryd.pinned (.plain (OpenSpec.ofChange fnExactDerivedOfSpec)) fnExactDerivedOfCard

/-- THE SECOND FORM's CARD OF 'laws.FnExactCentreOf'. -/
def fnExactCentreOfUptoCard : Claim7 := { stood := { row := fnExactCentreOfUptoRow, standIns := [], harness := (true, "8f3dae8c68efbe2e276ec336b7f6fc4684fc7de8cff77fdf685a3a2eae2fdfe0"), looks := false }, kinds := [], alts := [], laidByText := true, laidKinds := [.data], laidTests := true, laidLooks := .later }
def FnExactCentreOfUptoCardSaid : Prop := Claim7.holds Tryd.pinned (.plain (OpenSpec.upto fnExactCentreOfSpec)) fnExactCentreOfUptoCard

/-- THE SECOND FORM's CARD OF 'laws.FnExactSubgroupOf'. -/
def fnExactSubgroupOfUptoCard : Claim7 := { stood := { row := fnExactSubgroupOfUptoRow, standIns := [], harness := (true, "8f3dae8c68efbe2e276ec336b7f6fc4684fc7de8cff77fdf685a3a2eae2fdfe0"), looks := false }, kinds := [], alts := [], laidByText := true, laidKinds := [.data], laidTests := true, laidLooks := .later }
def FnExactSubgroupOfUptoCardSaid : Prop := Claim7.holds Tryd.pinned (.plain (OpenSpec.upto fnExactSubgroupOfSpec)) fnExactSubgroupOfUptoCard

/-- THE SECOND FORM's CARD OF 'laws.FnExactSubgroupsOf'. -/
def fnExactSubgroupsOfUptoCard : Claim7 := { stood := { row := fnExactSubgroupsOfUptoRow, standIns := [], harness := (true, "8f3dae8c68efbe2e276ec336b7f6fc4684fc7de8cff77fdf685a3a2eae2fdfe0"), looks := false }, kinds := [], alts := [], laidByText := true, laidKinds := [.data], laidTests := true, laidLooks := .later }
def FnExactSubgroupsOfUptoCardSaid : Prop := Claim7.holds Tryd.pinned (.plain (OpenSpec.upto fnExactSubgroupsOfSpec)) fnExactSubgroupsOfUptoCard

/-- THE SECOND FORM's CARD OF 'laws.FnExactIsNormal'. -/
def fnExactIsNormalUptoCard : Claim7 := { stood := { row := fnExactIsNormalUptoRow, standIns := [], harness := (true, "8f3dae8c68efbe2e276ec336b7f6fc4684fc7de8cff77fdf685a3a2eae2fdfe0"), looks := false }, kinds := [], alts := [], laidByText := true, laidKinds := [.data], laidTests := true, laidLooks := .later }
def FnExactIsNormalUptoCardSaid : Prop := Claim7.holds Tryd.pinned (.plain (OpenSpec.upto fnExactIsNormalSpec)) fnExactIsNormalUptoCard

/-- THE SECOND FORM's CARD OF 'laws.FnExactQuotientOf'. -/
def fnExactQuotientOfUptoCard : Claim7 := { stood := { row := fnExactQuotientOfUptoRow, standIns := [], harness := (true, "8f3dae8c68efbe2e276ec336b7f6fc4684fc7de8cff77fdf685a3a2eae2fdfe0"), looks := false }, kinds := [], alts := [], laidByText := true, laidKinds := [.data], laidTests := true, laidLooks := .later }
def FnExactQuotientOfUptoCardSaid : Prop := Claim7.holds Tryd.pinned (.plain (OpenSpec.upto fnExactQuotientOfSpec)) fnExactQuotientOfUptoCard

/-- THE SECOND FORM's CARD OF 'laws.FnExactClassesOf'. -/
def fnExactClassesOfUptoCard : Claim7 := { stood := { row := fnExactClassesOfUptoRow, standIns := [], harness := (true, "8f3dae8c68efbe2e276ec336b7f6fc4684fc7de8cff77fdf685a3a2eae2fdfe0"), looks := false }, kinds := [], alts := [], laidByText := true, laidKinds := [.data], laidTests := true, laidLooks := .later }
def FnExactClassesOfUptoCardSaid : Prop := Claim7.holds Tryd.pinned (.plain (OpenSpec.upto fnExactClassesOfSpec)) fnExactClassesOfUptoCard

/-- THE SECOND FORM's CARD OF 'laws.FnExactDerivedOf'. -/
def fnExactDerivedOfUptoCard : Claim7 := { stood := { row := fnExactDerivedOfUptoRow, standIns := [], harness := (true, "8f3dae8c68efbe2e276ec336b7f6fc4684fc7de8cff77fdf685a3a2eae2fdfe0"), looks := false }, kinds := [], alts := [], laidByText := true, laidKinds := [.data], laidTests := true, laidLooks := .later }
def FnExactDerivedOfUptoCardSaid : Prop := Claim7.holds Tryd.pinned (.plain (OpenSpec.upto fnExactDerivedOfSpec)) fnExactDerivedOfUptoCard
end Rows
end Go.Proofs.YtmmgmbgnlcfabaaDoor
