/-
  DERIVED. GIVEN WITH THE SEED: THE CARDS: each row of YtfnjpbjlikajbaaDoorRows.lean that lists a variable, with what it lists TIED to the program's text (the seventh form; the later family's looks); each row that meets fmt, with fmt's text TOLD by the authors' own Lean function (tested against real Go, not proved from fmt's source: count such statements apart). THE CARD IS WHAT COUNTS. Prove the row's statement (the work); the ties are given (YtfnjpbjlikajbaaDoorTie.lean); close each card by the builder's one call (the guide's Derived/Test/ToyasCard.lean, 'card_holds'). Laid BY PROGRAM, IN A SANDBOX (cutbox-door.mjs). By AI agents, Wed Nov 11 2026. No macro, syntax, notation, axiom, sorry.
-/
import Derived.Test.YtfnjpbjlikajbaaDoorRows
import GoSem.ClaimSeven
namespace Go.Proofs.YtfnjpbjlikajbaaDoor
namespace Rows

/-- THE TIED CARD OF 'laws.FnExactWrapOf'. -/
def fnExactWrapOfCard : Claim7 := { stood := { row := fnExactWrapOfRow, standIns := [], harness := (true, "275edeee1f17bea2e3d831f694458565cdeee9503bd1485b3b1cf7d126fc339b"), looks := false }, kinds := [], alts := [], laidByText := true, laidKinds := [.sentinel], laidTests := true, laidLooks := .later }
def FnExactWrapOfCardSaid : Prop := Claim7.holds Tryd.pinned (.plain (OpenSpec.ofChange fnExactWrapOfSpec)) fnExactWrapOfCard

/-- THE TIED CARD OF 'laws.FnExactLadderOf'. -/
def fnExactLadderOfCard : Claim7 := { stood := { row := fnExactLadderOfRow, standIns := [], harness := (true, "275edeee1f17bea2e3d831f694458565cdeee9503bd1485b3b1cf7d126fc339b"), looks := false }, kinds := [], alts := [], laidByText := true, laidKinds := [.sentinel], laidTests := true, laidLooks := .later }
def FnExactLadderOfCardSaid : Prop := Claim7.holds Tryd.pinned (.plain (OpenSpec.ofChange fnExactLadderOfSpec)) fnExactLadderOfCard

/-- THE TIED CARD OF 'laws.FnExactTransferElement'. -/
def fnExactTransferElementCard : Claim7 := { stood := { row := fnExactTransferElementRow, standIns := [], harness := (true, "275edeee1f17bea2e3d831f694458565cdeee9503bd1485b3b1cf7d126fc339b"), looks := false }, kinds := [], alts := [], laidByText := true, laidKinds := [.data], laidTests := true, laidLooks := .later }
def FnExactTransferElementCardSaid : Prop := Claim7.holds Tryd.pinned (.plain (OpenSpec.ofChange fnExactTransferElementSpec)) fnExactTransferElementCard

/-- THE SECOND FORM's CARD OF 'laws.FnExactWrapOf'. -/
def fnExactWrapOfUptoCard : Claim7 := { stood := { row := fnExactWrapOfUptoRow, standIns := [], harness := (true, "275edeee1f17bea2e3d831f694458565cdeee9503bd1485b3b1cf7d126fc339b"), looks := false }, kinds := [], alts := [], laidByText := true, laidKinds := [.sentinel], laidTests := true, laidLooks := .later }
def FnExactWrapOfUptoCardSaid : Prop := Claim7.holds Tryd.pinned (.plain (OpenSpec.upto fnExactWrapOfSpec)) fnExactWrapOfUptoCard

/-- THE SECOND FORM's CARD OF 'laws.FnExactLadderOf'. -/
def fnExactLadderOfUptoCard : Claim7 := { stood := { row := fnExactLadderOfUptoRow, standIns := [], harness := (true, "275edeee1f17bea2e3d831f694458565cdeee9503bd1485b3b1cf7d126fc339b"), looks := false }, kinds := [], alts := [], laidByText := true, laidKinds := [.sentinel], laidTests := true, laidLooks := .later }
def FnExactLadderOfUptoCardSaid : Prop := Claim7.holds Tryd.pinned (.plain (OpenSpec.upto fnExactLadderOfSpec)) fnExactLadderOfUptoCard

/-- THE SECOND FORM's CARD OF 'laws.FnExactTransferElement'. -/
def fnExactTransferElementUptoCard : Claim7 := { stood := { row := fnExactTransferElementUptoRow, standIns := [], harness := (true, "275edeee1f17bea2e3d831f694458565cdeee9503bd1485b3b1cf7d126fc339b"), looks := false }, kinds := [], alts := [], laidByText := true, laidKinds := [.data], laidTests := true, laidLooks := .later }
def FnExactTransferElementUptoCardSaid : Prop := Claim7.holds Tryd.pinned (.plain (OpenSpec.upto fnExactTransferElementSpec)) fnExactTransferElementUptoCard
end Rows
end Go.Proofs.YtfnjpbjlikajbaaDoor
