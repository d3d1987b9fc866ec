/-
  DERIVED. GIVEN WITH THE SEED: THE CARDS: each row of YtfafccldngekgaaDoorRows.lean that lists a variable, with what it lists TIED to the program's text (the seventh form; the later family's looks); each row that meets fmt, with fmt's text TOLD by the authors' own Lean function (tested against real Go, not proved from fmt's source: count such statements apart). THE CARD IS WHAT COUNTS. Prove the row's statement (the work); the ties are given (YtfafccldngekgaaDoorTie.lean); close each card by the builder's one call (the guide's Derived/Test/ToyasCard.lean, 'card_holds'). Laid BY PROGRAM, IN A SANDBOX (cutbox-door.mjs). By AI agents, Wed Nov 11 2026. No macro, syntax, notation, axiom, sorry.
-/
import Derived.Test.YtfafccldngekgaaDoorRows
import GoSem.ClaimSeven
namespace Go.Proofs.YtfafccldngekgaaDoor
namespace Rows

/-- THE TIED CARD OF 'laws.FnExactKernelOfCrossed'. -/
def fnExactKernelOfCrossedCard : Claim7 := { stood := { row := fnExactKernelOfCrossedRow, standIns := [], harness := (true, "e55ebffcefe5382972fa38533dc36ed62fb9f8d82f5cffa37ba8a8a6f4d6cd8e"), looks := false }, kinds := [], alts := [], laidByText := true, laidKinds := [.data], laidTests := true, laidLooks := .later }
def FnExactKernelOfCrossedCardSaid : Prop := Claim7.holds Tryd.pinned (.plain (OpenSpec.ofChange fnExactKernelOfCrossedSpec)) fnExactKernelOfCrossedCard

/-- THE TIED CARD OF 'laws.FnExactKernelOf'. -/
def fnExactKernelOfCard : Claim7 := { stood := { row := fnExactKernelOfRow, standIns := [], harness := (true, "e55ebffcefe5382972fa38533dc36ed62fb9f8d82f5cffa37ba8a8a6f4d6cd8e"), looks := false }, kinds := [], alts := [], laidByText := true, laidKinds := [.data], laidTests := true, laidLooks := .later }
def FnExactKernelOfCardSaid : Prop := Claim7.holds Tryd.pinned (.plain (OpenSpec.ofChange fnExactKernelOfSpec)) fnExactKernelOfCard

/-- THE SECOND FORM's CARD OF 'laws.FnExactKernelOfCrossed'. -/
def fnExactKernelOfCrossedUptoCard : Claim7 := { stood := { row := fnExactKernelOfCrossedUptoRow, standIns := [], harness := (true, "e55ebffcefe5382972fa38533dc36ed62fb9f8d82f5cffa37ba8a8a6f4d6cd8e"), looks := false }, kinds := [], alts := [], laidByText := true, laidKinds := [.data], laidTests := true, laidLooks := .later }
def FnExactKernelOfCrossedUptoCardSaid : Prop := Claim7.holds Tryd.pinned (.plain (OpenSpec.upto fnExactKernelOfCrossedSpec)) fnExactKernelOfCrossedUptoCard

/-- THE SECOND FORM's CARD OF 'laws.FnExactKernelOf'. -/
def fnExactKernelOfUptoCard : Claim7 := { stood := { row := fnExactKernelOfUptoRow, standIns := [], harness := (true, "e55ebffcefe5382972fa38533dc36ed62fb9f8d82f5cffa37ba8a8a6f4d6cd8e"), looks := false }, kinds := [], alts := [], laidByText := true, laidKinds := [.data], laidTests := true, laidLooks := .later }
def FnExactKernelOfUptoCardSaid : Prop := Claim7.holds Tryd.pinned (.plain (OpenSpec.upto fnExactKernelOfSpec)) fnExactKernelOfUptoCard
end Rows
end Go.Proofs.YtfafccldngekgaaDoor
