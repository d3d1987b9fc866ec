/-
  DERIVED. GIVEN WITH THE SEED: THE CARDS: each row of YtcdijeeabgmgmaaGreatDoorRows.lean that lists a variable, with what it lists TIED to the program's text (the seventh form; the later family's looks); each row that meets fmt, with fmt's text TOLD by the authors' own Lean function (tested against real Go, not proved from fmt's source: count such statements apart). THE CARD IS WHAT COUNTS. Prove the row's statement (the work); the ties are given (YtcdijeeabgmgmaaGreatDoorTie.lean); close each card by the builder's one call (the guide's Derived/Test/ToyasCard.lean, 'card_holds'). Laid BY PROGRAM, IN A SANDBOX (cutbox-door.mjs). By AI agents, Wed Nov 11 2026. No macro, syntax, notation, axiom, sorry.
-/
import Derived.Test.YtcdijeeabgmgmaaGreatDoorRows
import GoSem.ClaimSeven
namespace Go.Proofs.YtcdijeeabgmgmaaGreatDoor
namespace Rows

/-- THE TIED CARD OF 'laws.FnExactRegularElements'. -/
def fnExactRegularElementsCard : Claim7 := { stood := { row := fnExactRegularElementsRow, standIns := [], harness := (true, "71fe9c2740dd734d292cb89263cd5a3dc3fd38f92351f410a9ca87662ca41fb2"), looks := false }, kinds := [], alts := [], laidByText := true, laidKinds := [.data, .sentinel], laidTests := true, laidLooks := .later }
def FnExactRegularElementsCardSaid : Prop := Claim7.holds Tryz.pinned (.plain (OpenSpec.ofChange fnExactRegularElementsSpec)) fnExactRegularElementsCard

/-- THE TIED CARD OF 'laws.FnExactRegularClasses'. -/
def fnExactRegularClassesCard : Claim7 := { stood := { row := fnExactRegularClassesRow, standIns := [], harness := (true, "71fe9c2740dd734d292cb89263cd5a3dc3fd38f92351f410a9ca87662ca41fb2"), looks := false }, kinds := [], alts := [], laidByText := true, laidKinds := [.data, .sentinel], laidTests := true, laidLooks := .later }
def FnExactRegularClassesCardSaid : Prop := Claim7.holds Tryz.pinned (.plain (OpenSpec.ofChange fnExactRegularClassesSpec)) fnExactRegularClassesCard

/-- THE TIED CARD OF 'laws.FnExactTransferCochain'. -/
def fnExactTransferCochainCard : Claim7 := { stood := { row := fnExactTransferCochainRow, standIns := [], harness := (true, "71fe9c2740dd734d292cb89263cd5a3dc3fd38f92351f410a9ca87662ca41fb2"), looks := false }, kinds := [], alts := [], laidByText := true, laidKinds := [.data, .sentinel], laidTests := true, laidLooks := .later }
def FnExactTransferCochainCardSaid : Prop := Claim7.holds Tryz.pinned (.plain (OpenSpec.ofChange fnExactTransferCochainSpec)) fnExactTransferCochainCard

/-- THE SECOND FORM's CARD OF 'laws.FnExactRegularElements'. -/
def fnExactRegularElementsUptoCard : Claim7 := { stood := { row := fnExactRegularElementsUptoRow, standIns := [], harness := (true, "71fe9c2740dd734d292cb89263cd5a3dc3fd38f92351f410a9ca87662ca41fb2"), looks := false }, kinds := [], alts := [], laidByText := true, laidKinds := [.data, .sentinel], laidTests := true, laidLooks := .later }
def FnExactRegularElementsUptoCardSaid : Prop := Claim7.holds Tryz.pinned (.plain (OpenSpec.upto fnExactRegularElementsSpec)) fnExactRegularElementsUptoCard

/-- THE SECOND FORM's CARD OF 'laws.FnExactRegularClasses'. -/
def fnExactRegularClassesUptoCard : Claim7 := { stood := { row := fnExactRegularClassesUptoRow, standIns := [], harness := (true, "71fe9c2740dd734d292cb89263cd5a3dc3fd38f92351f410a9ca87662ca41fb2"), looks := false }, kinds := [], alts := [], laidByText := true, laidKinds := [.data, .sentinel], laidTests := true, laidLooks := .later }
def FnExactRegularClassesUptoCardSaid : Prop := Claim7.holds Tryz.pinned (.plain (OpenSpec.upto fnExactRegularClassesSpec)) fnExactRegularClassesUptoCard

/-- THE SECOND FORM's CARD OF 'laws.FnExactTransferCochain'. -/
def fnExactTransferCochainUptoCard : Claim7 := { stood := { row := fnExactTransferCochainUptoRow, standIns := [], harness := (true, "71fe9c2740dd734d292cb89263cd5a3dc3fd38f92351f410a9ca87662ca41fb2"), looks := false }, kinds := [], alts := [], laidByText := true, laidKinds := [.data, .sentinel], laidTests := true, laidLooks := .later }
def FnExactTransferCochainUptoCardSaid : Prop := Claim7.holds Tryz.pinned (.plain (OpenSpec.upto fnExactTransferCochainSpec)) fnExactTransferCochainUptoCard
end Rows
end Go.Proofs.YtcdijeeabgmgmaaGreatDoor
