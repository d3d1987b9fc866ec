/-
  NARROWER THAN 'FOR EVERY INPUT', by the rows' own cells (each row's printed sentence says how): FnExactGroupOfSubgroup: laid · FnExactModuleOfSubgroup: laid · FnExactRepresentativesOf: laid · FnExactConjugateSubgroup: laid · FnExactIndexOf: laid · FnExactTransferElement: laid · FnExactMoveCochain: ifaces, laid · FnExactPullBack: ifaces, laid · FnExactModuleOfChoice: laid · FnExactFactorSetOfChoice: ifaces, laid · FnExactSubgroupsOf: laid · FnExactCentreOfExtension: ifaces, laid.
  DERIVED. THE GIVEN ROWS OF THIS SEAT. 12 by the template 'for every input the law returns true; each argument reads behind the call as it read before'; 0 by the template 'total and deterministic' (their statements: YtalejhbdbclfaaaDoorTotals.lean).
  GIVEN WITH THE SEED: the statements are not yours to turn. If you find one false, say at which input.
  Laid BY PROGRAM, IN A SANDBOX (cutbox-rows.mjs): the forced cells as the released guide's own fill.sh prints them over the translation 449422731d9c9dbe… (all of the seat's roots in one cut). By AI agents, Wed Nov 11 2026. No macro, syntax, notation, axiom, sorry.
-/
import Derived.Test.YtalejhbdbclfaaaDoorChecked
import GoSem.Claim
import GoSem.ClaimJoined
import GoSem.ClaimMapViews
import Derived.JoinedTies
import Derived.KernelRfl
namespace Go.Proofs.YtalejhbdbclfaaaDoor
/- THE CELL 'sum', in the pinned program and in every row, IS THE sha256 OF THE DUMP (.gsa) THAT YtalejhbdbclfaaaDoorProg.lean LOADS. Nothing in Lean hashes anything: it is a label: what it is worth is what the hold of that sum in a sandbox is worth. -/
noncomputable def Tryd.pinned : Pinned := { name := "ytalejhbdbclfaaadoor", sum := "449422731d9c9dbe1af18754d19d5ddc89de41dae88c5d825defa21a96bc8d72", checked := Tryd.checked }
namespace Rows
def none {H : Type} : Left H := { results := [], args := [] }

/- WHAT THE LISTED PACKAGE-LEVEL VARIABLES READ AS WHEN THE CALL BEGINS. Each datum BY PROGRAM (the guide's laid-datum.mjs) off the statement by which the dump's own 'gosem.cut.vars' lays the variable. In a bare row this is a premise. The card (YtalejhbdbclfaaaDoorCards.lean) ties it to the program's text. -/
def laid_math_bits_deBruijn64tab {H : Type} : DataW H := .agg [.lit (.int .u8 0), .lit (.int .u8 1), .lit (.int .u8 56), .lit (.int .u8 2), .lit (.int .u8 57), .lit (.int .u8 49), .lit (.int .u8 28), .lit (.int .u8 3), .lit (.int .u8 61), .lit (.int .u8 58), .lit (.int .u8 42), .lit (.int .u8 50), .lit (.int .u8 38), .lit (.int .u8 29), .lit (.int .u8 17), .lit (.int .u8 4), .lit (.int .u8 62), .lit (.int .u8 47), .lit (.int .u8 59), .lit (.int .u8 36), .lit (.int .u8 45), .lit (.int .u8 43), .lit (.int .u8 51), .lit (.int .u8 22), .lit (.int .u8 53), .lit (.int .u8 39), .lit (.int .u8 33), .lit (.int .u8 30), .lit (.int .u8 24), .lit (.int .u8 18), .lit (.int .u8 12), .lit (.int .u8 5), .lit (.int .u8 63), .lit (.int .u8 55), .lit (.int .u8 48), .lit (.int .u8 27), .lit (.int .u8 60), .lit (.int .u8 41), .lit (.int .u8 37), .lit (.int .u8 16), .lit (.int .u8 46), .lit (.int .u8 35), .lit (.int .u8 44), .lit (.int .u8 21), .lit (.int .u8 52), .lit (.int .u8 32), .lit (.int .u8 23), .lit (.int .u8 11), .lit (.int .u8 54), .lit (.int .u8 26), .lit (.int .u8 40), .lit (.int .u8 15), .lit (.int .u8 34), .lit (.int .u8 20), .lit (.int .u8 31), .lit (.int .u8 10), .lit (.int .u8 25), .lit (.int .u8 14), .lit (.int .u8 19), .lit (.int .u8 9), .lit (.int .u8 13), .lit (.int .u8 8), .lit (.int .u8 7), .lit (.int .u8 6)]
def laid_loop_example_g01363_impl_errNoList {H : Type} : DataW H := .iface "*errors.errorString" (.ptr (.agg [.lit (.string [110, 111, 32, 108, 105, 115, 116, 32, 111, 102, 32, 101, 108, 101, 109, 101, 110, 116, 115, 32, 111, 102, 32, 116, 104, 101, 32, 103, 114, 111, 117, 112])]))

/-- 'laws.FnExactGroupOfSubgroup': WHATEVER THE INPUT: true; the input reads as it did. -/
def fnExactGroupOfSubgroupSpec : ChangeSpec := { name := "fnExactGroupOfSubgroup", fn := fun _ => fun
  | [d1, d2] => { results := [.lit (.bool true)], args := [d1, d2] }
  | _ => none }
def fnExactGroupOfSubgroupRow : OpenClaim := { program := "ytalejhbdbclfaaadoor", sum := "449422731d9c9dbe1af18754d19d5ddc89de41dae88c5d825defa21a96bc8d72", func := "loop.example/g01363/laws.FnExactGroupOfSubgroup", spec := "fnExactGroupOfSubgroup", unfollowed := true, recurses := true, named := ["math/bits.deBruijn64tab"], apart := false, laid := [("math/bits.deBruijn64tab", laid_math_bits_deBruijn64tab)] }
def FnExactGroupOfSubgroupSaid : Prop := fnExactGroupOfSubgroupRow.holds Tryd.pinned (OpenSpec.ofChange fnExactGroupOfSubgroupSpec)

/-- ITS FALSE NEIGHBOUR: 'it returns false'. Refute it at one input. -/
def fnExactGroupOfSubgroupWrong : ChangeSpec := { name := "fnExactGroupOfSubgroup", fn := fun _ => fun
  | [d1, d2] => { results := [.lit (.bool false)], args := [d1, d2] }
  | _ => none }
def FnExactGroupOfSubgroupWrongFalsely : Prop := fnExactGroupOfSubgroupRow.holds Tryd.pinned (OpenSpec.ofChange fnExactGroupOfSubgroupWrong)

/-- 'laws.FnExactModuleOfSubgroup': WHATEVER THE INPUT: true; the input reads as it did. -/
def fnExactModuleOfSubgroupSpec : ChangeSpec := { name := "fnExactModuleOfSubgroup", fn := fun _ => fun
  | [d1, d2, d3] => { results := [.lit (.bool true)], args := [d1, d2, d3] }
  | _ => none }
def fnExactModuleOfSubgroupRow : OpenClaim := { program := "ytalejhbdbclfaaadoor", sum := "449422731d9c9dbe1af18754d19d5ddc89de41dae88c5d825defa21a96bc8d72", func := "loop.example/g01363/laws.FnExactModuleOfSubgroup", spec := "fnExactModuleOfSubgroup", unfollowed := true, recurses := true, named := ["math/bits.deBruijn64tab"], apart := false, laid := [("math/bits.deBruijn64tab", laid_math_bits_deBruijn64tab)] }
def FnExactModuleOfSubgroupSaid : Prop := fnExactModuleOfSubgroupRow.holds Tryd.pinned (OpenSpec.ofChange fnExactModuleOfSubgroupSpec)

/-- ITS FALSE NEIGHBOUR: 'it returns false'. Refute it at one input. -/
def fnExactModuleOfSubgroupWrong : ChangeSpec := { name := "fnExactModuleOfSubgroup", fn := fun _ => fun
  | [d1, d2, d3] => { results := [.lit (.bool false)], args := [d1, d2, d3] }
  | _ => none }
def FnExactModuleOfSubgroupWrongFalsely : Prop := fnExactModuleOfSubgroupRow.holds Tryd.pinned (OpenSpec.ofChange fnExactModuleOfSubgroupWrong)

/-- 'laws.FnExactRepresentativesOf': WHATEVER THE INPUT: true; the input reads as it did. -/
def fnExactRepresentativesOfSpec : ChangeSpec := { name := "fnExactRepresentativesOf", fn := fun _ => fun
  | [d1, d2] => { results := [.lit (.bool true)], args := [d1, d2] }
  | _ => none }
def fnExactRepresentativesOfRow : OpenClaim := { program := "ytalejhbdbclfaaadoor", sum := "449422731d9c9dbe1af18754d19d5ddc89de41dae88c5d825defa21a96bc8d72", func := "loop.example/g01363/laws.FnExactRepresentativesOf", spec := "fnExactRepresentativesOf", unfollowed := true, recurses := true, named := ["math/bits.deBruijn64tab"], apart := false, laid := [("math/bits.deBruijn64tab", laid_math_bits_deBruijn64tab)] }
def FnExactRepresentativesOfSaid : Prop := fnExactRepresentativesOfRow.holds Tryd.pinned (OpenSpec.ofChange fnExactRepresentativesOfSpec)

/-- ITS FALSE NEIGHBOUR: 'it returns false'. Refute it at one input. -/
def fnExactRepresentativesOfWrong : ChangeSpec := { name := "fnExactRepresentativesOf", fn := fun _ => fun
  | [d1, d2] => { results := [.lit (.bool false)], args := [d1, d2] }
  | _ => none }
def FnExactRepresentativesOfWrongFalsely : Prop := fnExactRepresentativesOfRow.holds Tryd.pinned (OpenSpec.ofChange fnExactRepresentativesOfWrong)

/-- 'laws.FnExactConjugateSubgroup': WHATEVER THE INPUT: true; the input reads as it did. -/
def fnExactConjugateSubgroupSpec : ChangeSpec := { name := "fnExactConjugateSubgroup", fn := fun _ => fun
  | [d1, d2, d3] => { results := [.lit (.bool true)], args := [d1, d2, d3] }
  | _ => none }
def fnExactConjugateSubgroupRow : OpenClaim := { program := "ytalejhbdbclfaaadoor", sum := "449422731d9c9dbe1af18754d19d5ddc89de41dae88c5d825defa21a96bc8d72", func := "loop.example/g01363/laws.FnExactConjugateSubgroup", spec := "fnExactConjugateSubgroup", unfollowed := true, recurses := true, named := ["math/bits.deBruijn64tab"], apart := false, laid := [("math/bits.deBruijn64tab", laid_math_bits_deBruijn64tab)] }
def FnExactConjugateSubgroupSaid : Prop := fnExactConjugateSubgroupRow.holds Tryd.pinned (OpenSpec.ofChange fnExactConjugateSubgroupSpec)

/-- ITS FALSE NEIGHBOUR: 'it returns false'. Refute it at one input. -/
def fnExactConjugateSubgroupWrong : ChangeSpec := { name := "fnExactConjugateSubgroup", fn := fun _ => fun
  | [d1, d2, d3] => { results := [.lit (.bool false)], args := [d1, d2, d3] }
  | _ => none }
def FnExactConjugateSubgroupWrongFalsely : Prop := fnExactConjugateSubgroupRow.holds Tryd.pinned (OpenSpec.ofChange fnExactConjugateSubgroupWrong)

/-- 'laws.FnExactIndexOf': WHATEVER THE INPUT: true; the input reads as it did. -/
def fnExactIndexOfSpec : ChangeSpec := { name := "fnExactIndexOf", fn := fun _ => fun
  | [d1, d2] => { results := [.lit (.bool true)], args := [d1, d2] }
  | _ => none }
def fnExactIndexOfRow : OpenClaim := { program := "ytalejhbdbclfaaadoor", sum := "449422731d9c9dbe1af18754d19d5ddc89de41dae88c5d825defa21a96bc8d72", func := "loop.example/g01363/laws.FnExactIndexOf", spec := "fnExactIndexOf", unfollowed := true, recurses := true, named := ["math/bits.deBruijn64tab"], apart := false, laid := [("math/bits.deBruijn64tab", laid_math_bits_deBruijn64tab)] }
def FnExactIndexOfSaid : Prop := fnExactIndexOfRow.holds Tryd.pinned (OpenSpec.ofChange fnExactIndexOfSpec)

/-- ITS FALSE NEIGHBOUR: 'it returns false'. Refute it at one input. -/
def fnExactIndexOfWrong : ChangeSpec := { name := "fnExactIndexOf", fn := fun _ => fun
  | [d1, d2] => { results := [.lit (.bool false)], args := [d1, d2] }
  | _ => none }
def FnExactIndexOfWrongFalsely : Prop := fnExactIndexOfRow.holds Tryd.pinned (OpenSpec.ofChange fnExactIndexOfWrong)

/-- 'laws.FnExactTransferElement': WHATEVER THE INPUT: true; the input reads as it did. -/
def fnExactTransferElementSpec : ChangeSpec := { name := "fnExactTransferElement", fn := fun _ => fun
  | [d1, d2, d3] => { results := [.lit (.bool true)], args := [d1, d2, d3] }
  | _ => none }
def fnExactTransferElementRow : OpenClaim := { program := "ytalejhbdbclfaaadoor", sum := "449422731d9c9dbe1af18754d19d5ddc89de41dae88c5d825defa21a96bc8d72", func := "loop.example/g01363/laws.FnExactTransferElement", spec := "fnExactTransferElement", unfollowed := true, recurses := true, named := ["math/bits.deBruijn64tab"], apart := false, laid := [("math/bits.deBruijn64tab", laid_math_bits_deBruijn64tab)] }
def FnExactTransferElementSaid : Prop := fnExactTransferElementRow.holds Tryd.pinned (OpenSpec.ofChange fnExactTransferElementSpec)

/-- ITS FALSE NEIGHBOUR: 'it returns false'. Refute it at one input. -/
def fnExactTransferElementWrong : ChangeSpec := { name := "fnExactTransferElement", fn := fun _ => fun
  | [d1, d2, d3] => { results := [.lit (.bool false)], args := [d1, d2, d3] }
  | _ => none }
def FnExactTransferElementWrongFalsely : Prop := fnExactTransferElementRow.holds Tryd.pinned (OpenSpec.ofChange fnExactTransferElementWrong)

/-- 'laws.FnExactMoveCochain': WHATEVER THE INPUT: true; the input reads as it did. -/
def fnExactMoveCochainSpec : ChangeSpec := { name := "fnExactMoveCochain", vars := ["loop.example/g01363/impl.errNoList"], fn := fun _ => fun
  | [d1, d2, d3, d4, g1] => { results := [.lit (.bool true)], args := [d1, d2, d3, d4], vars := [g1] }
  | _ => none }
def fnExactMoveCochainRow : OpenClaim := { program := "ytalejhbdbclfaaadoor", sum := "449422731d9c9dbe1af18754d19d5ddc89de41dae88c5d825defa21a96bc8d72", func := "loop.example/g01363/laws.FnExactMoveCochain", spec := "fnExactMoveCochain", unfollowed := true, recurses := true, named := ["loop.example/g01363/impl.errNoList"], ifaces := true, apart := false, laid := [("loop.example/g01363/impl.errNoList", laid_loop_example_g01363_impl_errNoList)] }
def FnExactMoveCochainSaid : Prop := fnExactMoveCochainRow.holds Tryd.pinned (OpenSpec.ofChange fnExactMoveCochainSpec)

/-- ITS FALSE NEIGHBOUR: 'it returns false'. Refute it at one input. -/
def fnExactMoveCochainWrong : ChangeSpec := { name := "fnExactMoveCochain", vars := ["loop.example/g01363/impl.errNoList"], fn := fun _ => fun
  | [d1, d2, d3, d4, g1] => { results := [.lit (.bool false)], args := [d1, d2, d3, d4], vars := [g1] }
  | _ => none }
def FnExactMoveCochainWrongFalsely : Prop := fnExactMoveCochainRow.holds Tryd.pinned (OpenSpec.ofChange fnExactMoveCochainWrong)

/-- 'laws.FnExactPullBack': WHATEVER THE INPUT: true; the input reads as it did. -/
def fnExactPullBackSpec : ChangeSpec := { name := "fnExactPullBack", vars := ["loop.example/g01363/impl.errNoList"], fn := fun _ => fun
  | [d1, d2, d3, d4, d5, g1] => { results := [.lit (.bool true)], args := [d1, d2, d3, d4, d5], vars := [g1] }
  | _ => none }
def fnExactPullBackRow : OpenClaim := { program := "ytalejhbdbclfaaadoor", sum := "449422731d9c9dbe1af18754d19d5ddc89de41dae88c5d825defa21a96bc8d72", func := "loop.example/g01363/laws.FnExactPullBack", spec := "fnExactPullBack", unfollowed := true, recurses := true, named := ["loop.example/g01363/impl.errNoList"], ifaces := true, apart := false, laid := [("loop.example/g01363/impl.errNoList", laid_loop_example_g01363_impl_errNoList)] }
def FnExactPullBackSaid : Prop := fnExactPullBackRow.holds Tryd.pinned (OpenSpec.ofChange fnExactPullBackSpec)

/-- ITS FALSE NEIGHBOUR: 'it returns false'. Refute it at one input. -/
def fnExactPullBackWrong : ChangeSpec := { name := "fnExactPullBack", vars := ["loop.example/g01363/impl.errNoList"], fn := fun _ => fun
  | [d1, d2, d3, d4, d5, g1] => { results := [.lit (.bool false)], args := [d1, d2, d3, d4, d5], vars := [g1] }
  | _ => none }
def FnExactPullBackWrongFalsely : Prop := fnExactPullBackRow.holds Tryd.pinned (OpenSpec.ofChange fnExactPullBackWrong)

/-- 'laws.FnExactModuleOfChoice': WHATEVER THE INPUT: true; the input reads as it did. -/
def fnExactModuleOfChoiceSpec : ChangeSpec := { name := "fnExactModuleOfChoice", fn := fun _ => fun
  | [d1, d2] => { results := [.lit (.bool true)], args := [d1, d2] }
  | _ => none }
def fnExactModuleOfChoiceRow : OpenClaim := { program := "ytalejhbdbclfaaadoor", sum := "449422731d9c9dbe1af18754d19d5ddc89de41dae88c5d825defa21a96bc8d72", func := "loop.example/g01363/laws.FnExactModuleOfChoice", spec := "fnExactModuleOfChoice", unfollowed := true, recurses := true, named := ["math/bits.deBruijn64tab"], apart := false, laid := [("math/bits.deBruijn64tab", laid_math_bits_deBruijn64tab)] }
def FnExactModuleOfChoiceSaid : Prop := fnExactModuleOfChoiceRow.holds Tryd.pinned (OpenSpec.ofChange fnExactModuleOfChoiceSpec)

/-- ITS FALSE NEIGHBOUR: 'it returns false'. Refute it at one input. -/
def fnExactModuleOfChoiceWrong : ChangeSpec := { name := "fnExactModuleOfChoice", fn := fun _ => fun
  | [d1, d2] => { results := [.lit (.bool false)], args := [d1, d2] }
  | _ => none }
def FnExactModuleOfChoiceWrongFalsely : Prop := fnExactModuleOfChoiceRow.holds Tryd.pinned (OpenSpec.ofChange fnExactModuleOfChoiceWrong)

/-- 'laws.FnExactFactorSetOfChoice': WHATEVER THE INPUT: true; the input reads as it did. -/
def fnExactFactorSetOfChoiceSpec : ChangeSpec := { name := "fnExactFactorSetOfChoice", vars := ["loop.example/g01363/impl.errNoList"], fn := fun _ => fun
  | [d1, d2, g1] => { results := [.lit (.bool true)], args := [d1, d2], vars := [g1] }
  | _ => none }
def fnExactFactorSetOfChoiceRow : OpenClaim := { program := "ytalejhbdbclfaaadoor", sum := "449422731d9c9dbe1af18754d19d5ddc89de41dae88c5d825defa21a96bc8d72", func := "loop.example/g01363/laws.FnExactFactorSetOfChoice", spec := "fnExactFactorSetOfChoice", unfollowed := true, recurses := true, named := ["math/bits.deBruijn64tab", "loop.example/g01363/impl.errNoList"], ifaces := true, apart := false, laid := [("math/bits.deBruijn64tab", laid_math_bits_deBruijn64tab), ("loop.example/g01363/impl.errNoList", laid_loop_example_g01363_impl_errNoList)] }
def FnExactFactorSetOfChoiceSaid : Prop := fnExactFactorSetOfChoiceRow.holds Tryd.pinned (OpenSpec.ofChange fnExactFactorSetOfChoiceSpec)

/-- ITS FALSE NEIGHBOUR: 'it returns false'. Refute it at one input. -/
def fnExactFactorSetOfChoiceWrong : ChangeSpec := { name := "fnExactFactorSetOfChoice", vars := ["loop.example/g01363/impl.errNoList"], fn := fun _ => fun
  | [d1, d2, g1] => { results := [.lit (.bool false)], args := [d1, d2], vars := [g1] }
  | _ => none }
def FnExactFactorSetOfChoiceWrongFalsely : Prop := fnExactFactorSetOfChoiceRow.holds Tryd.pinned (OpenSpec.ofChange fnExactFactorSetOfChoiceWrong)

/-- 'laws.FnExactSubgroupsOf': WHATEVER THE INPUT: true; the input reads as it did. -/
def fnExactSubgroupsOfSpec : ChangeSpec := { name := "fnExactSubgroupsOf", fn := fun _ => fun
  | [d] => { results := [.lit (.bool true)], args := [d] }
  | _ => none }
def fnExactSubgroupsOfRow : OpenClaim := { program := "ytalejhbdbclfaaadoor", sum := "449422731d9c9dbe1af18754d19d5ddc89de41dae88c5d825defa21a96bc8d72", func := "loop.example/g01363/laws.FnExactSubgroupsOf", spec := "fnExactSubgroupsOf", unfollowed := true, recurses := true, named := ["math/bits.deBruijn64tab"], apart := false, laid := [("math/bits.deBruijn64tab", laid_math_bits_deBruijn64tab)] }
def FnExactSubgroupsOfSaid : Prop := fnExactSubgroupsOfRow.holds Tryd.pinned (OpenSpec.ofChange fnExactSubgroupsOfSpec)

/-- ITS FALSE NEIGHBOUR: 'it returns false'. Refute it at one input. -/
def fnExactSubgroupsOfWrong : ChangeSpec := { name := "fnExactSubgroupsOf", fn := fun _ => fun
  | [d] => { results := [.lit (.bool false)], args := [d] }
  | _ => none }
def FnExactSubgroupsOfWrongFalsely : Prop := fnExactSubgroupsOfRow.holds Tryd.pinned (OpenSpec.ofChange fnExactSubgroupsOfWrong)

/-- 'laws.FnExactCentreOfExtension': WHATEVER THE INPUT: true; the input reads as it did. -/
def fnExactCentreOfExtensionSpec : ChangeSpec := { name := "fnExactCentreOfExtension", vars := ["loop.example/g01363/impl.errNoList"], fn := fun _ => fun
  | [d1, d2, d3, g1] => { results := [.lit (.bool true)], args := [d1, d2, d3], vars := [g1] }
  | _ => none }
def fnExactCentreOfExtensionRow : OpenClaim := { program := "ytalejhbdbclfaaadoor", sum := "449422731d9c9dbe1af18754d19d5ddc89de41dae88c5d825defa21a96bc8d72", func := "loop.example/g01363/laws.FnExactCentreOfExtension", spec := "fnExactCentreOfExtension", unfollowed := true, recurses := true, named := ["loop.example/g01363/impl.errNoList", "math/bits.deBruijn64tab"], ifaces := true, apart := false, laid := [("math/bits.deBruijn64tab", laid_math_bits_deBruijn64tab), ("loop.example/g01363/impl.errNoList", laid_loop_example_g01363_impl_errNoList)] }
def FnExactCentreOfExtensionSaid : Prop := fnExactCentreOfExtensionRow.holds Tryd.pinned (OpenSpec.ofChange fnExactCentreOfExtensionSpec)

/-- ITS FALSE NEIGHBOUR: 'it returns false'. Refute it at one input. -/
def fnExactCentreOfExtensionWrong : ChangeSpec := { name := "fnExactCentreOfExtension", vars := ["loop.example/g01363/impl.errNoList"], fn := fun _ => fun
  | [d1, d2, d3, g1] => { results := [.lit (.bool false)], args := [d1, d2, d3], vars := [g1] }
  | _ => none }
def FnExactCentreOfExtensionWrongFalsely : Prop := fnExactCentreOfExtensionRow.holds Tryd.pinned (OpenSpec.ofChange fnExactCentreOfExtensionWrong)

/- THE SECOND FORM. 'bulk': how many values and letters a reading holds, each counted each time it is reached (what is shared counts as often as it is met; a slice's spare places count too). A statement '..UptoSaid' is the law's where the arguments, and the package variables that the reading takes, are together of bulk at most 1048576: NARROWER than '..Said'. Prove '..Said' where nothing that the law and all that it calls make is longer than what came in: it says more and counts as full. Else prove '..UptoSaid'. A law counts once. -/
mutual
def uptoBulk {H : Type} : DataW H → Nat
  | .lit (.string bytes) => bytes.length + 1
  | .lit _ => 1
  | .nil => 1
  | .ptr d => uptoBulk d + 1
  | .slice elems spare => uptoBulkAll elems + uptoBulkAll spare + 1
  | .agg parts => uptoBulkAll parts + 1
  | .iface _ d => uptoBulk d + 1
  | .map entries => uptoBulkEntries entries + 1
  | .held _ => 1
def uptoBulkAll {H : Type} : List (DataW H) → Nat
  | [] => 0
  | d :: r => uptoBulk d + uptoBulkAll r
def uptoBulkEntries {H : Type} : List (Lit × DataW H) → Nat
  | [] => 0
  | x :: r => uptoBulkEntry x + uptoBulkEntries r
def uptoBulkEntry {H : Type} : Lit × DataW H → Nat
  | (.string bytes, d) => bytes.length + uptoBulk d + 1
  | (_, d) => uptoBulk d + 1
 end
def uptoSmall : (H : Type) → List (DataW H) → Bool := fun _ ds => decide (uptoBulkAll ds ≤ 1048576)
def OpenSpec.upto (s : _root_.Go.ChangeSpec) : _root_.Go.OpenSpec := { _root_.Go.OpenSpec.ofChange s with cond := some uptoSmall }

/-- 'laws.FnExactGroupOfSubgroup', WHERE WHAT IT READS IS OF BULK AT MOST 1048576: true; the input reads as it did. -/
def fnExactGroupOfSubgroupUptoRow : OpenClaim := { program := "ytalejhbdbclfaaadoor", sum := "449422731d9c9dbe1af18754d19d5ddc89de41dae88c5d825defa21a96bc8d72", func := "loop.example/g01363/laws.FnExactGroupOfSubgroup", spec := "fnExactGroupOfSubgroup", unfollowed := true, recurses := true, named := ["math/bits.deBruijn64tab"], apart := false, laid := [("math/bits.deBruijn64tab", laid_math_bits_deBruijn64tab)], narrowed := true }
def FnExactGroupOfSubgroupUptoSaid : Prop := fnExactGroupOfSubgroupUptoRow.holds Tryd.pinned (OpenSpec.upto fnExactGroupOfSubgroupSpec)

/-- 'laws.FnExactModuleOfSubgroup', WHERE WHAT IT READS IS OF BULK AT MOST 1048576: true; the input reads as it did. -/
def fnExactModuleOfSubgroupUptoRow : OpenClaim := { program := "ytalejhbdbclfaaadoor", sum := "449422731d9c9dbe1af18754d19d5ddc89de41dae88c5d825defa21a96bc8d72", func := "loop.example/g01363/laws.FnExactModuleOfSubgroup", spec := "fnExactModuleOfSubgroup", unfollowed := true, recurses := true, named := ["math/bits.deBruijn64tab"], apart := false, laid := [("math/bits.deBruijn64tab", laid_math_bits_deBruijn64tab)], narrowed := true }
def FnExactModuleOfSubgroupUptoSaid : Prop := fnExactModuleOfSubgroupUptoRow.holds Tryd.pinned (OpenSpec.upto fnExactModuleOfSubgroupSpec)

/-- 'laws.FnExactRepresentativesOf', WHERE WHAT IT READS IS OF BULK AT MOST 1048576: true; the input reads as it did. -/
def fnExactRepresentativesOfUptoRow : OpenClaim := { program := "ytalejhbdbclfaaadoor", sum := "449422731d9c9dbe1af18754d19d5ddc89de41dae88c5d825defa21a96bc8d72", func := "loop.example/g01363/laws.FnExactRepresentativesOf", spec := "fnExactRepresentativesOf", unfollowed := true, recurses := true, named := ["math/bits.deBruijn64tab"], apart := false, laid := [("math/bits.deBruijn64tab", laid_math_bits_deBruijn64tab)], narrowed := true }
def FnExactRepresentativesOfUptoSaid : Prop := fnExactRepresentativesOfUptoRow.holds Tryd.pinned (OpenSpec.upto fnExactRepresentativesOfSpec)

/-- 'laws.FnExactConjugateSubgroup', WHERE WHAT IT READS IS OF BULK AT MOST 1048576: true; the input reads as it did. -/
def fnExactConjugateSubgroupUptoRow : OpenClaim := { program := "ytalejhbdbclfaaadoor", sum := "449422731d9c9dbe1af18754d19d5ddc89de41dae88c5d825defa21a96bc8d72", func := "loop.example/g01363/laws.FnExactConjugateSubgroup", spec := "fnExactConjugateSubgroup", unfollowed := true, recurses := true, named := ["math/bits.deBruijn64tab"], apart := false, laid := [("math/bits.deBruijn64tab", laid_math_bits_deBruijn64tab)], narrowed := true }
def FnExactConjugateSubgroupUptoSaid : Prop := fnExactConjugateSubgroupUptoRow.holds Tryd.pinned (OpenSpec.upto fnExactConjugateSubgroupSpec)

/-- 'laws.FnExactIndexOf', WHERE WHAT IT READS IS OF BULK AT MOST 1048576: true; the input reads as it did. -/
def fnExactIndexOfUptoRow : OpenClaim := { program := "ytalejhbdbclfaaadoor", sum := "449422731d9c9dbe1af18754d19d5ddc89de41dae88c5d825defa21a96bc8d72", func := "loop.example/g01363/laws.FnExactIndexOf", spec := "fnExactIndexOf", unfollowed := true, recurses := true, named := ["math/bits.deBruijn64tab"], apart := false, laid := [("math/bits.deBruijn64tab", laid_math_bits_deBruijn64tab)], narrowed := true }
def FnExactIndexOfUptoSaid : Prop := fnExactIndexOfUptoRow.holds Tryd.pinned (OpenSpec.upto fnExactIndexOfSpec)

/-- 'laws.FnExactTransferElement', WHERE WHAT IT READS IS OF BULK AT MOST 1048576: true; the input reads as it did. -/
def fnExactTransferElementUptoRow : OpenClaim := { program := "ytalejhbdbclfaaadoor", sum := "449422731d9c9dbe1af18754d19d5ddc89de41dae88c5d825defa21a96bc8d72", func := "loop.example/g01363/laws.FnExactTransferElement", spec := "fnExactTransferElement", unfollowed := true, recurses := true, named := ["math/bits.deBruijn64tab"], apart := false, laid := [("math/bits.deBruijn64tab", laid_math_bits_deBruijn64tab)], narrowed := true }
def FnExactTransferElementUptoSaid : Prop := fnExactTransferElementUptoRow.holds Tryd.pinned (OpenSpec.upto fnExactTransferElementSpec)

/-- 'laws.FnExactMoveCochain', WHERE WHAT IT READS IS OF BULK AT MOST 1048576: true; the input reads as it did. -/
def fnExactMoveCochainUptoRow : OpenClaim := { program := "ytalejhbdbclfaaadoor", sum := "449422731d9c9dbe1af18754d19d5ddc89de41dae88c5d825defa21a96bc8d72", func := "loop.example/g01363/laws.FnExactMoveCochain", spec := "fnExactMoveCochain", unfollowed := true, recurses := true, named := ["loop.example/g01363/impl.errNoList"], ifaces := true, apart := false, laid := [("loop.example/g01363/impl.errNoList", laid_loop_example_g01363_impl_errNoList)], narrowed := true }
def FnExactMoveCochainUptoSaid : Prop := fnExactMoveCochainUptoRow.holds Tryd.pinned (OpenSpec.upto fnExactMoveCochainSpec)

/-- 'laws.FnExactPullBack', WHERE WHAT IT READS IS OF BULK AT MOST 1048576: true; the input reads as it did. -/
def fnExactPullBackUptoRow : OpenClaim := { program := "ytalejhbdbclfaaadoor", sum := "449422731d9c9dbe1af18754d19d5ddc89de41dae88c5d825defa21a96bc8d72", func := "loop.example/g01363/laws.FnExactPullBack", spec := "fnExactPullBack", unfollowed := true, recurses := true, named := ["loop.example/g01363/impl.errNoList"], ifaces := true, apart := false, laid := [("loop.example/g01363/impl.errNoList", laid_loop_example_g01363_impl_errNoList)], narrowed := true }
def FnExactPullBackUptoSaid : Prop := fnExactPullBackUptoRow.holds Tryd.pinned (OpenSpec.upto fnExactPullBackSpec)

/-- 'laws.FnExactModuleOfChoice', WHERE WHAT IT READS IS OF BULK AT MOST 1048576: true; the input reads as it did. -/
def fnExactModuleOfChoiceUptoRow : OpenClaim := { program := "ytalejhbdbclfaaadoor", sum := "449422731d9c9dbe1af18754d19d5ddc89de41dae88c5d825defa21a96bc8d72", func := "loop.example/g01363/laws.FnExactModuleOfChoice", spec := "fnExactModuleOfChoice", unfollowed := true, recurses := true, named := ["math/bits.deBruijn64tab"], apart := false, laid := [("math/bits.deBruijn64tab", laid_math_bits_deBruijn64tab)], narrowed := true }
def FnExactModuleOfChoiceUptoSaid : Prop := fnExactModuleOfChoiceUptoRow.holds Tryd.pinned (OpenSpec.upto fnExactModuleOfChoiceSpec)

/-- 'laws.FnExactFactorSetOfChoice', WHERE WHAT IT READS IS OF BULK AT MOST 1048576: true; the input reads as it did. -/
def fnExactFactorSetOfChoiceUptoRow : OpenClaim := { program := "ytalejhbdbclfaaadoor", sum := "449422731d9c9dbe1af18754d19d5ddc89de41dae88c5d825defa21a96bc8d72", func := "loop.example/g01363/laws.FnExactFactorSetOfChoice", spec := "fnExactFactorSetOfChoice", unfollowed := true, recurses := true, named := ["math/bits.deBruijn64tab", "loop.example/g01363/impl.errNoList"], ifaces := true, apart := false, laid := [("math/bits.deBruijn64tab", laid_math_bits_deBruijn64tab), ("loop.example/g01363/impl.errNoList", laid_loop_example_g01363_impl_errNoList)], narrowed := true }
def FnExactFactorSetOfChoiceUptoSaid : Prop := fnExactFactorSetOfChoiceUptoRow.holds Tryd.pinned (OpenSpec.upto fnExactFactorSetOfChoiceSpec)

/-- 'laws.FnExactSubgroupsOf', WHERE WHAT IT READS IS OF BULK AT MOST 1048576: true; the input reads as it did. -/
def fnExactSubgroupsOfUptoRow : OpenClaim := { program := "ytalejhbdbclfaaadoor", sum := "449422731d9c9dbe1af18754d19d5ddc89de41dae88c5d825defa21a96bc8d72", func := "loop.example/g01363/laws.FnExactSubgroupsOf", spec := "fnExactSubgroupsOf", unfollowed := true, recurses := true, named := ["math/bits.deBruijn64tab"], apart := false, laid := [("math/bits.deBruijn64tab", laid_math_bits_deBruijn64tab)], narrowed := true }
def FnExactSubgroupsOfUptoSaid : Prop := fnExactSubgroupsOfUptoRow.holds Tryd.pinned (OpenSpec.upto fnExactSubgroupsOfSpec)

/-- 'laws.FnExactCentreOfExtension', WHERE WHAT IT READS IS OF BULK AT MOST 1048576: true; the input reads as it did. -/
def fnExactCentreOfExtensionUptoRow : OpenClaim := { program := "ytalejhbdbclfaaadoor", sum := "449422731d9c9dbe1af18754d19d5ddc89de41dae88c5d825defa21a96bc8d72", func := "loop.example/g01363/laws.FnExactCentreOfExtension", spec := "fnExactCentreOfExtension", unfollowed := true, recurses := true, named := ["loop.example/g01363/impl.errNoList", "math/bits.deBruijn64tab"], ifaces := true, apart := false, laid := [("math/bits.deBruijn64tab", laid_math_bits_deBruijn64tab), ("loop.example/g01363/impl.errNoList", laid_loop_example_g01363_impl_errNoList)], narrowed := true }
def FnExactCentreOfExtensionUptoSaid : Prop := fnExactCentreOfExtensionUptoRow.holds Tryd.pinned (OpenSpec.upto fnExactCentreOfExtensionSpec)

end Rows
end Go.Proofs.YtalejhbdbclfaaaDoor
