/-
  NARROWER THAN 'FOR EVERY INPUT', by the rows' own cells (each row's printed sentence says how): FnExactExtensionTable: ifaces, laid · FnExactExtensionGroup: ifaces, laid · FnExactSplits: ifaces, laid · FnExactFirstSection: ifaces, laid · FnExactOrdersOfExtension: ifaces, laid · FnExactCentreOfExtension: ifaces, laid · FnExactModuleOfChoice: laid · FnExactFactorSetOfChoice: ifaces, laid · FnExactQuotientOf: laid · FnExactClassesOf: laid · FnExactSubgroupsOf: laid.
  DERIVED. THE GIVEN ROWS OF THIS SEAT. 11 by the template 'for every input the law returns true; each argument reads behind the call as it read before'; 0 by the template 'total and deterministic' (their statements: YtenenlpfpkdplaaDoorTotals.lean).
  GIVEN WITH THE SEED: the statements are not yours to turn. If you find one false, say at which input.
  Laid BY PROGRAM, IN A SANDBOX (cutbox-rows.mjs): the forced cells as the released guide's own fill.sh prints them over the translation 051c5303ad632a1a… (all of the seat's roots in one cut). By AI agents, Wed Nov 11 2026. No macro, syntax, notation, axiom, sorry.
-/
import Derived.Test.YtenenlpfpkdplaaDoorChecked
import GoSem.Claim
import GoSem.ClaimJoined
import GoSem.ClaimMapViews
import Derived.JoinedTies
import Derived.KernelRfl
namespace Go.Proofs.YtenenlpfpkdplaaDoor
/- THE CELL 'sum', in the pinned program and in every row, IS THE sha256 OF THE DUMP (.gsa) THAT YtenenlpfpkdplaaDoorProg.lean LOADS. Nothing in Lean hashes anything: it is a label: what it is worth is what the hold of that sum in a sandbox is worth. -/
noncomputable def Tryd.pinned : Pinned := { name := "ytenenlpfpkdplaadoor", sum := "051c5303ad632a1ab59a0cdfd86285e90d3c91cd77fa8bd132c816f61713f105", checked := Tryd.checked }
namespace Rows
def none {H : Type} : Left H := { results := [], args := [] }

/- WHAT THE LISTED PACKAGE-LEVEL VARIABLES READ AS WHEN THE CALL BEGINS. Each datum BY PROGRAM (the guide's laid-datum.mjs) off the statement by which the dump's own 'gosem.cut.vars' lays the variable. In a bare row this is a premise. The card (YtenenlpfpkdplaaDoorCards.lean) ties it to the program's text. -/
def laid_loop_example_g01363_impl_errNoList {H : Type} : DataW H := .iface "*errors.errorString" (.ptr (.agg [.lit (.string [110, 111, 32, 108, 105, 115, 116, 32, 111, 102, 32, 101, 108, 101, 109, 101, 110, 116, 115, 32, 111, 102, 32, 116, 104, 101, 32, 103, 114, 111, 117, 112])]))
def laid_math_bits_deBruijn64tab {H : Type} : DataW H := .agg [.lit (.int .u8 0), .lit (.int .u8 1), .lit (.int .u8 56), .lit (.int .u8 2), .lit (.int .u8 57), .lit (.int .u8 49), .lit (.int .u8 28), .lit (.int .u8 3), .lit (.int .u8 61), .lit (.int .u8 58), .lit (.int .u8 42), .lit (.int .u8 50), .lit (.int .u8 38), .lit (.int .u8 29), .lit (.int .u8 17), .lit (.int .u8 4), .lit (.int .u8 62), .lit (.int .u8 47), .lit (.int .u8 59), .lit (.int .u8 36), .lit (.int .u8 45), .lit (.int .u8 43), .lit (.int .u8 51), .lit (.int .u8 22), .lit (.int .u8 53), .lit (.int .u8 39), .lit (.int .u8 33), .lit (.int .u8 30), .lit (.int .u8 24), .lit (.int .u8 18), .lit (.int .u8 12), .lit (.int .u8 5), .lit (.int .u8 63), .lit (.int .u8 55), .lit (.int .u8 48), .lit (.int .u8 27), .lit (.int .u8 60), .lit (.int .u8 41), .lit (.int .u8 37), .lit (.int .u8 16), .lit (.int .u8 46), .lit (.int .u8 35), .lit (.int .u8 44), .lit (.int .u8 21), .lit (.int .u8 52), .lit (.int .u8 32), .lit (.int .u8 23), .lit (.int .u8 11), .lit (.int .u8 54), .lit (.int .u8 26), .lit (.int .u8 40), .lit (.int .u8 15), .lit (.int .u8 34), .lit (.int .u8 20), .lit (.int .u8 31), .lit (.int .u8 10), .lit (.int .u8 25), .lit (.int .u8 14), .lit (.int .u8 19), .lit (.int .u8 9), .lit (.int .u8 13), .lit (.int .u8 8), .lit (.int .u8 7), .lit (.int .u8 6)]

/-- 'laws.FnExactExtensionTable': WHATEVER THE INPUT: true; the input reads as it did. -/
def fnExactExtensionTableSpec : ChangeSpec := { name := "fnExactExtensionTable", vars := ["loop.example/g01363/impl.errNoList"], fn := fun _ => fun
  | [d1, d2, d3, g1] => { results := [.lit (.bool true)], args := [d1, d2, d3], vars := [g1] }
  | _ => none }
def fnExactExtensionTableRow : OpenClaim := { program := "ytenenlpfpkdplaadoor", sum := "051c5303ad632a1ab59a0cdfd86285e90d3c91cd77fa8bd132c816f61713f105", func := "loop.example/g01363/laws.FnExactExtensionTable", spec := "fnExactExtensionTable", unfollowed := true, recurses := true, named := ["loop.example/g01363/impl.errNoList"], ifaces := true, apart := false, laid := [("loop.example/g01363/impl.errNoList", laid_loop_example_g01363_impl_errNoList)] }
def FnExactExtensionTableSaid : Prop := fnExactExtensionTableRow.holds Tryd.pinned (OpenSpec.ofChange fnExactExtensionTableSpec)

/-- ITS FALSE NEIGHBOUR: 'it returns false'. Refute it at one input. -/
def fnExactExtensionTableWrong : ChangeSpec := { name := "fnExactExtensionTable", vars := ["loop.example/g01363/impl.errNoList"], fn := fun _ => fun
  | [d1, d2, d3, g1] => { results := [.lit (.bool false)], args := [d1, d2, d3], vars := [g1] }
  | _ => none }
def FnExactExtensionTableWrongFalsely : Prop := fnExactExtensionTableRow.holds Tryd.pinned (OpenSpec.ofChange fnExactExtensionTableWrong)

/-- 'laws.FnExactExtensionGroup': WHATEVER THE INPUT: true; the input reads as it did. -/
def fnExactExtensionGroupSpec : ChangeSpec := { name := "fnExactExtensionGroup", vars := ["loop.example/g01363/impl.errNoList"], fn := fun _ => fun
  | [d1, d2, d3, g1] => { results := [.lit (.bool true)], args := [d1, d2, d3], vars := [g1] }
  | _ => none }
def fnExactExtensionGroupRow : OpenClaim := { program := "ytenenlpfpkdplaadoor", sum := "051c5303ad632a1ab59a0cdfd86285e90d3c91cd77fa8bd132c816f61713f105", func := "loop.example/g01363/laws.FnExactExtensionGroup", spec := "fnExactExtensionGroup", unfollowed := true, recurses := true, named := ["loop.example/g01363/impl.errNoList"], ifaces := true, apart := false, laid := [("loop.example/g01363/impl.errNoList", laid_loop_example_g01363_impl_errNoList)] }
def FnExactExtensionGroupSaid : Prop := fnExactExtensionGroupRow.holds Tryd.pinned (OpenSpec.ofChange fnExactExtensionGroupSpec)

/-- ITS FALSE NEIGHBOUR: 'it returns false'. Refute it at one input. -/
def fnExactExtensionGroupWrong : ChangeSpec := { name := "fnExactExtensionGroup", vars := ["loop.example/g01363/impl.errNoList"], fn := fun _ => fun
  | [d1, d2, d3, g1] => { results := [.lit (.bool false)], args := [d1, d2, d3], vars := [g1] }
  | _ => none }
def FnExactExtensionGroupWrongFalsely : Prop := fnExactExtensionGroupRow.holds Tryd.pinned (OpenSpec.ofChange fnExactExtensionGroupWrong)

/-- 'laws.FnExactSplits': WHATEVER THE INPUT: true; the input reads as it did. -/
def fnExactSplitsSpec : ChangeSpec := { name := "fnExactSplits", vars := ["loop.example/g01363/impl.errNoList"], fn := fun _ => fun
  | [d1, d2, d3, g1] => { results := [.lit (.bool true)], args := [d1, d2, d3], vars := [g1] }
  | _ => none }
def fnExactSplitsRow : OpenClaim := { program := "ytenenlpfpkdplaadoor", sum := "051c5303ad632a1ab59a0cdfd86285e90d3c91cd77fa8bd132c816f61713f105", func := "loop.example/g01363/laws.FnExactSplits", spec := "fnExactSplits", unfollowed := true, recurses := true, named := ["loop.example/g01363/impl.errNoList"], ifaces := true, apart := false, laid := [("loop.example/g01363/impl.errNoList", laid_loop_example_g01363_impl_errNoList)] }
def FnExactSplitsSaid : Prop := fnExactSplitsRow.holds Tryd.pinned (OpenSpec.ofChange fnExactSplitsSpec)

/-- ITS FALSE NEIGHBOUR: 'it returns false'. Refute it at one input. -/
def fnExactSplitsWrong : ChangeSpec := { name := "fnExactSplits", vars := ["loop.example/g01363/impl.errNoList"], fn := fun _ => fun
  | [d1, d2, d3, g1] => { results := [.lit (.bool false)], args := [d1, d2, d3], vars := [g1] }
  | _ => none }
def FnExactSplitsWrongFalsely : Prop := fnExactSplitsRow.holds Tryd.pinned (OpenSpec.ofChange fnExactSplitsWrong)

/-- 'laws.FnExactFirstSection': WHATEVER THE INPUT: true; the input reads as it did. -/
def fnExactFirstSectionSpec : ChangeSpec := { name := "fnExactFirstSection", vars := ["loop.example/g01363/impl.errNoList"], fn := fun _ => fun
  | [d1, d2, d3, g1] => { results := [.lit (.bool true)], args := [d1, d2, d3], vars := [g1] }
  | _ => none }
def fnExactFirstSectionRow : OpenClaim := { program := "ytenenlpfpkdplaadoor", sum := "051c5303ad632a1ab59a0cdfd86285e90d3c91cd77fa8bd132c816f61713f105", func := "loop.example/g01363/laws.FnExactFirstSection", spec := "fnExactFirstSection", unfollowed := true, recurses := true, named := ["loop.example/g01363/impl.errNoList"], ifaces := true, apart := false, laid := [("loop.example/g01363/impl.errNoList", laid_loop_example_g01363_impl_errNoList)] }
def FnExactFirstSectionSaid : Prop := fnExactFirstSectionRow.holds Tryd.pinned (OpenSpec.ofChange fnExactFirstSectionSpec)

/-- ITS FALSE NEIGHBOUR: 'it returns false'. Refute it at one input. -/
def fnExactFirstSectionWrong : ChangeSpec := { name := "fnExactFirstSection", vars := ["loop.example/g01363/impl.errNoList"], fn := fun _ => fun
  | [d1, d2, d3, g1] => { results := [.lit (.bool false)], args := [d1, d2, d3], vars := [g1] }
  | _ => none }
def FnExactFirstSectionWrongFalsely : Prop := fnExactFirstSectionRow.holds Tryd.pinned (OpenSpec.ofChange fnExactFirstSectionWrong)

/-- 'laws.FnExactOrdersOfExtension': WHATEVER THE INPUT: true; the input reads as it did. -/
def fnExactOrdersOfExtensionSpec : ChangeSpec := { name := "fnExactOrdersOfExtension", vars := ["loop.example/g01363/impl.errNoList"], fn := fun _ => fun
  | [d1, d2, d3, g1] => { results := [.lit (.bool true)], args := [d1, d2, d3], vars := [g1] }
  | _ => none }
def fnExactOrdersOfExtensionRow : OpenClaim := { program := "ytenenlpfpkdplaadoor", sum := "051c5303ad632a1ab59a0cdfd86285e90d3c91cd77fa8bd132c816f61713f105", func := "loop.example/g01363/laws.FnExactOrdersOfExtension", spec := "fnExactOrdersOfExtension", unfollowed := true, recurses := true, named := ["loop.example/g01363/impl.errNoList"], ifaces := true, apart := false, laid := [("loop.example/g01363/impl.errNoList", laid_loop_example_g01363_impl_errNoList)] }
def FnExactOrdersOfExtensionSaid : Prop := fnExactOrdersOfExtensionRow.holds Tryd.pinned (OpenSpec.ofChange fnExactOrdersOfExtensionSpec)

/-- ITS FALSE NEIGHBOUR: 'it returns false'. Refute it at one input. -/
def fnExactOrdersOfExtensionWrong : ChangeSpec := { name := "fnExactOrdersOfExtension", vars := ["loop.example/g01363/impl.errNoList"], fn := fun _ => fun
  | [d1, d2, d3, g1] => { results := [.lit (.bool false)], args := [d1, d2, d3], vars := [g1] }
  | _ => none }
def FnExactOrdersOfExtensionWrongFalsely : Prop := fnExactOrdersOfExtensionRow.holds Tryd.pinned (OpenSpec.ofChange fnExactOrdersOfExtensionWrong)

/-- 'laws.FnExactCentreOfExtension': WHATEVER THE INPUT: true; the input reads as it did. -/
def fnExactCentreOfExtensionSpec : ChangeSpec := { name := "fnExactCentreOfExtension", vars := ["loop.example/g01363/impl.errNoList"], fn := fun _ => fun
  | [d1, d2, d3, g1] => { results := [.lit (.bool true)], args := [d1, d2, d3], vars := [g1] }
  | _ => none }
def fnExactCentreOfExtensionRow : OpenClaim := { program := "ytenenlpfpkdplaadoor", sum := "051c5303ad632a1ab59a0cdfd86285e90d3c91cd77fa8bd132c816f61713f105", func := "loop.example/g01363/laws.FnExactCentreOfExtension", spec := "fnExactCentreOfExtension", unfollowed := true, recurses := true, named := ["loop.example/g01363/impl.errNoList", "math/bits.deBruijn64tab"], ifaces := true, apart := false, laid := [("math/bits.deBruijn64tab", laid_math_bits_deBruijn64tab), ("loop.example/g01363/impl.errNoList", laid_loop_example_g01363_impl_errNoList)] }
def FnExactCentreOfExtensionSaid : Prop := fnExactCentreOfExtensionRow.holds Tryd.pinned (OpenSpec.ofChange fnExactCentreOfExtensionSpec)

/-- ITS FALSE NEIGHBOUR: 'it returns false'. Refute it at one input. -/
def fnExactCentreOfExtensionWrong : ChangeSpec := { name := "fnExactCentreOfExtension", vars := ["loop.example/g01363/impl.errNoList"], fn := fun _ => fun
  | [d1, d2, d3, g1] => { results := [.lit (.bool false)], args := [d1, d2, d3], vars := [g1] }
  | _ => none }
def FnExactCentreOfExtensionWrongFalsely : Prop := fnExactCentreOfExtensionRow.holds Tryd.pinned (OpenSpec.ofChange fnExactCentreOfExtensionWrong)

/-- 'laws.FnExactModuleOfChoice': WHATEVER THE INPUT: true; the input reads as it did. -/
def fnExactModuleOfChoiceSpec : ChangeSpec := { name := "fnExactModuleOfChoice", fn := fun _ => fun
  | [d1, d2] => { results := [.lit (.bool true)], args := [d1, d2] }
  | _ => none }
def fnExactModuleOfChoiceRow : OpenClaim := { program := "ytenenlpfpkdplaadoor", sum := "051c5303ad632a1ab59a0cdfd86285e90d3c91cd77fa8bd132c816f61713f105", func := "loop.example/g01363/laws.FnExactModuleOfChoice", spec := "fnExactModuleOfChoice", unfollowed := true, recurses := true, named := ["math/bits.deBruijn64tab"], apart := false, laid := [("math/bits.deBruijn64tab", laid_math_bits_deBruijn64tab)] }
def FnExactModuleOfChoiceSaid : Prop := fnExactModuleOfChoiceRow.holds Tryd.pinned (OpenSpec.ofChange fnExactModuleOfChoiceSpec)

/-- ITS FALSE NEIGHBOUR: 'it returns false'. Refute it at one input. -/
def fnExactModuleOfChoiceWrong : ChangeSpec := { name := "fnExactModuleOfChoice", fn := fun _ => fun
  | [d1, d2] => { results := [.lit (.bool false)], args := [d1, d2] }
  | _ => none }
def FnExactModuleOfChoiceWrongFalsely : Prop := fnExactModuleOfChoiceRow.holds Tryd.pinned (OpenSpec.ofChange fnExactModuleOfChoiceWrong)

/-- 'laws.FnExactFactorSetOfChoice': WHATEVER THE INPUT: true; the input reads as it did. -/
def fnExactFactorSetOfChoiceSpec : ChangeSpec := { name := "fnExactFactorSetOfChoice", vars := ["loop.example/g01363/impl.errNoList"], fn := fun _ => fun
  | [d1, d2, g1] => { results := [.lit (.bool true)], args := [d1, d2], vars := [g1] }
  | _ => none }
def fnExactFactorSetOfChoiceRow : OpenClaim := { program := "ytenenlpfpkdplaadoor", sum := "051c5303ad632a1ab59a0cdfd86285e90d3c91cd77fa8bd132c816f61713f105", func := "loop.example/g01363/laws.FnExactFactorSetOfChoice", spec := "fnExactFactorSetOfChoice", unfollowed := true, recurses := true, named := ["math/bits.deBruijn64tab", "loop.example/g01363/impl.errNoList"], ifaces := true, apart := false, laid := [("math/bits.deBruijn64tab", laid_math_bits_deBruijn64tab), ("loop.example/g01363/impl.errNoList", laid_loop_example_g01363_impl_errNoList)] }
def FnExactFactorSetOfChoiceSaid : Prop := fnExactFactorSetOfChoiceRow.holds Tryd.pinned (OpenSpec.ofChange fnExactFactorSetOfChoiceSpec)

/-- ITS FALSE NEIGHBOUR: 'it returns false'. Refute it at one input. -/
def fnExactFactorSetOfChoiceWrong : ChangeSpec := { name := "fnExactFactorSetOfChoice", vars := ["loop.example/g01363/impl.errNoList"], fn := fun _ => fun
  | [d1, d2, g1] => { results := [.lit (.bool false)], args := [d1, d2], vars := [g1] }
  | _ => none }
def FnExactFactorSetOfChoiceWrongFalsely : Prop := fnExactFactorSetOfChoiceRow.holds Tryd.pinned (OpenSpec.ofChange fnExactFactorSetOfChoiceWrong)

/-- 'laws.FnExactQuotientOf': WHATEVER THE INPUT: true; the input reads as it did. -/
def fnExactQuotientOfSpec : ChangeSpec := { name := "fnExactQuotientOf", fn := fun _ => fun
  | [d1, d2] => { results := [.lit (.bool true)], args := [d1, d2] }
  | _ => none }
def fnExactQuotientOfRow : OpenClaim := { program := "ytenenlpfpkdplaadoor", sum := "051c5303ad632a1ab59a0cdfd86285e90d3c91cd77fa8bd132c816f61713f105", func := "loop.example/g01363/laws.FnExactQuotientOf", spec := "fnExactQuotientOf", unfollowed := true, recurses := true, named := ["math/bits.deBruijn64tab"], apart := false, laid := [("math/bits.deBruijn64tab", laid_math_bits_deBruijn64tab)] }
def FnExactQuotientOfSaid : Prop := fnExactQuotientOfRow.holds Tryd.pinned (OpenSpec.ofChange fnExactQuotientOfSpec)

/-- ITS FALSE NEIGHBOUR: 'it returns false'. Refute it at one input. -/
def fnExactQuotientOfWrong : ChangeSpec := { name := "fnExactQuotientOf", fn := fun _ => fun
  | [d1, d2] => { results := [.lit (.bool false)], args := [d1, d2] }
  | _ => none }
def FnExactQuotientOfWrongFalsely : Prop := fnExactQuotientOfRow.holds Tryd.pinned (OpenSpec.ofChange fnExactQuotientOfWrong)

/-- 'laws.FnExactClassesOf': WHATEVER THE INPUT: true; the input reads as it did. -/
def fnExactClassesOfSpec : ChangeSpec := { name := "fnExactClassesOf", fn := fun _ => fun
  | [d] => { results := [.lit (.bool true)], args := [d] }
  | _ => none }
def fnExactClassesOfRow : OpenClaim := { program := "ytenenlpfpkdplaadoor", sum := "051c5303ad632a1ab59a0cdfd86285e90d3c91cd77fa8bd132c816f61713f105", func := "loop.example/g01363/laws.FnExactClassesOf", spec := "fnExactClassesOf", unfollowed := true, recurses := true, named := ["math/bits.deBruijn64tab"], apart := false, laid := [("math/bits.deBruijn64tab", laid_math_bits_deBruijn64tab)] }
def FnExactClassesOfSaid : Prop := fnExactClassesOfRow.holds Tryd.pinned (OpenSpec.ofChange fnExactClassesOfSpec)

/-- ITS FALSE NEIGHBOUR: 'it returns false'. Refute it at one input. -/
def fnExactClassesOfWrong : ChangeSpec := { name := "fnExactClassesOf", fn := fun _ => fun
  | [d] => { results := [.lit (.bool false)], args := [d] }
  | _ => none }
def FnExactClassesOfWrongFalsely : Prop := fnExactClassesOfRow.holds Tryd.pinned (OpenSpec.ofChange fnExactClassesOfWrong)

/-- 'laws.FnExactSubgroupsOf': WHATEVER THE INPUT: true; the input reads as it did. -/
def fnExactSubgroupsOfSpec : ChangeSpec := { name := "fnExactSubgroupsOf", fn := fun _ => fun
  | [d] => { results := [.lit (.bool true)], args := [d] }
  | _ => none }
def fnExactSubgroupsOfRow : OpenClaim := { program := "ytenenlpfpkdplaadoor", sum := "051c5303ad632a1ab59a0cdfd86285e90d3c91cd77fa8bd132c816f61713f105", func := "loop.example/g01363/laws.FnExactSubgroupsOf", spec := "fnExactSubgroupsOf", unfollowed := true, recurses := true, named := ["math/bits.deBruijn64tab"], apart := false, laid := [("math/bits.deBruijn64tab", laid_math_bits_deBruijn64tab)] }
def FnExactSubgroupsOfSaid : Prop := fnExactSubgroupsOfRow.holds Tryd.pinned (OpenSpec.ofChange fnExactSubgroupsOfSpec)

/-- ITS FALSE NEIGHBOUR: 'it returns false'. Refute it at one input. -/
def fnExactSubgroupsOfWrong : ChangeSpec := { name := "fnExactSubgroupsOf", fn := fun _ => fun
  | [d] => { results := [.lit (.bool false)], args := [d] }
  | _ => none }
def FnExactSubgroupsOfWrongFalsely : Prop := fnExactSubgroupsOfRow.holds Tryd.pinned (OpenSpec.ofChange fnExactSubgroupsOfWrong)

/- THE SECOND FORM. 'bulk': how many values and letters a reading holds, each counted each time it is reached (what is shared counts as often as it is met; a slice's spare places count too). A statement '..UptoSaid' is the law's where the arguments, and the package variables that the reading takes, are together of bulk at most 1048576: NARROWER than '..Said'. Prove '..Said' where nothing that the law and all that it calls make is longer than what came in: it says more and counts as full. Else prove '..UptoSaid'. A law counts once. -/
mutual
def uptoBulk {H : Type} : DataW H → Nat
  | .lit (.string bytes) => bytes.length + 1
  | .lit _ => 1
  | .nil => 1
  | .ptr d => uptoBulk d + 1
  | .slice elems spare => uptoBulkAll elems + uptoBulkAll spare + 1
  | .agg parts => uptoBulkAll parts + 1
  | .iface _ d => uptoBulk d + 1
  | .map entries => uptoBulkEntries entries + 1
  | .held _ => 1
def uptoBulkAll {H : Type} : List (DataW H) → Nat
  | [] => 0
  | d :: r => uptoBulk d + uptoBulkAll r
def uptoBulkEntries {H : Type} : List (Lit × DataW H) → Nat
  | [] => 0
  | x :: r => uptoBulkEntry x + uptoBulkEntries r
def uptoBulkEntry {H : Type} : Lit × DataW H → Nat
  | (.string bytes, d) => bytes.length + uptoBulk d + 1
  | (_, d) => uptoBulk d + 1
 end
def uptoSmall : (H : Type) → List (DataW H) → Bool := fun _ ds => decide (uptoBulkAll ds ≤ 1048576)
def OpenSpec.upto (s : _root_.Go.ChangeSpec) : _root_.Go.OpenSpec := { _root_.Go.OpenSpec.ofChange s with cond := some uptoSmall }

/-- 'laws.FnExactExtensionTable', WHERE WHAT IT READS IS OF BULK AT MOST 1048576: true; the input reads as it did. -/
def fnExactExtensionTableUptoRow : OpenClaim := { program := "ytenenlpfpkdplaadoor", sum := "051c5303ad632a1ab59a0cdfd86285e90d3c91cd77fa8bd132c816f61713f105", func := "loop.example/g01363/laws.FnExactExtensionTable", spec := "fnExactExtensionTable", unfollowed := true, recurses := true, named := ["loop.example/g01363/impl.errNoList"], ifaces := true, apart := false, laid := [("loop.example/g01363/impl.errNoList", laid_loop_example_g01363_impl_errNoList)], narrowed := true }
def FnExactExtensionTableUptoSaid : Prop := fnExactExtensionTableUptoRow.holds Tryd.pinned (OpenSpec.upto fnExactExtensionTableSpec)

/-- 'laws.FnExactExtensionGroup', WHERE WHAT IT READS IS OF BULK AT MOST 1048576: true; the input reads as it did. -/
def fnExactExtensionGroupUptoRow : OpenClaim := { program := "ytenenlpfpkdplaadoor", sum := "051c5303ad632a1ab59a0cdfd86285e90d3c91cd77fa8bd132c816f61713f105", func := "loop.example/g01363/laws.FnExactExtensionGroup", spec := "fnExactExtensionGroup", unfollowed := true, recurses := true, named := ["loop.example/g01363/impl.errNoList"], ifaces := true, apart := false, laid := [("loop.example/g01363/impl.errNoList", laid_loop_example_g01363_impl_errNoList)], narrowed := true }
def FnExactExtensionGroupUptoSaid : Prop := fnExactExtensionGroupUptoRow.holds Tryd.pinned (OpenSpec.upto fnExactExtensionGroupSpec)

/-- 'laws.FnExactSplits', WHERE WHAT IT READS IS OF BULK AT MOST 1048576: true; the input reads as it did. -/
def fnExactSplitsUptoRow : OpenClaim := { program := "ytenenlpfpkdplaadoor", sum := "051c5303ad632a1ab59a0cdfd86285e90d3c91cd77fa8bd132c816f61713f105", func := "loop.example/g01363/laws.FnExactSplits", spec := "fnExactSplits", unfollowed := true, recurses := true, named := ["loop.example/g01363/impl.errNoList"], ifaces := true, apart := false, laid := [("loop.example/g01363/impl.errNoList", laid_loop_example_g01363_impl_errNoList)], narrowed := true }
def FnExactSplitsUptoSaid : Prop := fnExactSplitsUptoRow.holds Tryd.pinned (OpenSpec.upto fnExactSplitsSpec)

/-- 'laws.FnExactFirstSection', WHERE WHAT IT READS IS OF BULK AT MOST 1048576: true; the input reads as it did. -/
def fnExactFirstSectionUptoRow : OpenClaim := { program := "ytenenlpfpkdplaadoor", sum := "051c5303ad632a1ab59a0cdfd86285e90d3c91cd77fa8bd132c816f61713f105", func := "loop.example/g01363/laws.FnExactFirstSection", spec := "fnExactFirstSection", unfollowed := true, recurses := true, named := ["loop.example/g01363/impl.errNoList"], ifaces := true, apart := false, laid := [("loop.example/g01363/impl.errNoList", laid_loop_example_g01363_impl_errNoList)], narrowed := true }
def FnExactFirstSectionUptoSaid : Prop := fnExactFirstSectionUptoRow.holds Tryd.pinned (OpenSpec.upto fnExactFirstSectionSpec)

/-- 'laws.FnExactOrdersOfExtension', WHERE WHAT IT READS IS OF BULK AT MOST 1048576: true; the input reads as it did. -/
def fnExactOrdersOfExtensionUptoRow : OpenClaim := { program := "ytenenlpfpkdplaadoor", sum := "051c5303ad632a1ab59a0cdfd86285e90d3c91cd77fa8bd132c816f61713f105", func := "loop.example/g01363/laws.FnExactOrdersOfExtension", spec := "fnExactOrdersOfExtension", unfollowed := true, recurses := true, named := ["loop.example/g01363/impl.errNoList"], ifaces := true, apart := false, laid := [("loop.example/g01363/impl.errNoList", laid_loop_example_g01363_impl_errNoList)], narrowed := true }
def FnExactOrdersOfExtensionUptoSaid : Prop := fnExactOrdersOfExtensionUptoRow.holds Tryd.pinned (OpenSpec.upto fnExactOrdersOfExtensionSpec)

/-- 'laws.FnExactCentreOfExtension', WHERE WHAT IT READS IS OF BULK AT MOST 1048576: true; the input reads as it did. -/
def fnExactCentreOfExtensionUptoRow : OpenClaim := { program := "ytenenlpfpkdplaadoor", sum := "051c5303ad632a1ab59a0cdfd86285e90d3c91cd77fa8bd132c816f61713f105", func := "loop.example/g01363/laws.FnExactCentreOfExtension", spec := "fnExactCentreOfExtension", unfollowed := true, recurses := true, named := ["loop.example/g01363/impl.errNoList", "math/bits.deBruijn64tab"], ifaces := true, apart := false, laid := [("math/bits.deBruijn64tab", laid_math_bits_deBruijn64tab), ("loop.example/g01363/impl.errNoList", laid_loop_example_g01363_impl_errNoList)], narrowed := true }
def FnExactCentreOfExtensionUptoSaid : Prop := fnExactCentreOfExtensionUptoRow.holds Tryd.pinned (OpenSpec.upto fnExactCentreOfExtensionSpec)

/-- 'laws.FnExactModuleOfChoice', WHERE WHAT IT READS IS OF BULK AT MOST 1048576: true; the input reads as it did. -/
def fnExactModuleOfChoiceUptoRow : OpenClaim := { program := "ytenenlpfpkdplaadoor", sum := "051c5303ad632a1ab59a0cdfd86285e90d3c91cd77fa8bd132c816f61713f105", func := "loop.example/g01363/laws.FnExactModuleOfChoice", spec := "fnExactModuleOfChoice", unfollowed := true, recurses := true, named := ["math/bits.deBruijn64tab"], apart := false, laid := [("math/bits.deBruijn64tab", laid_math_bits_deBruijn64tab)], narrowed := true }
def FnExactModuleOfChoiceUptoSaid : Prop := fnExactModuleOfChoiceUptoRow.holds Tryd.pinned (OpenSpec.upto fnExactModuleOfChoiceSpec)

/-- 'laws.FnExactFactorSetOfChoice', WHERE WHAT IT READS IS OF BULK AT MOST 1048576: true; the input reads as it did. -/
def fnExactFactorSetOfChoiceUptoRow : OpenClaim := { program := "ytenenlpfpkdplaadoor", sum := "051c5303ad632a1ab59a0cdfd86285e90d3c91cd77fa8bd132c816f61713f105", func := "loop.example/g01363/laws.FnExactFactorSetOfChoice", spec := "fnExactFactorSetOfChoice", unfollowed := true, recurses := true, named := ["math/bits.deBruijn64tab", "loop.example/g01363/impl.errNoList"], ifaces := true, apart := false, laid := [("math/bits.deBruijn64tab", laid_math_bits_deBruijn64tab), ("loop.example/g01363/impl.errNoList", laid_loop_example_g01363_impl_errNoList)], narrowed := true }
def FnExactFactorSetOfChoiceUptoSaid : Prop := fnExactFactorSetOfChoiceUptoRow.holds Tryd.pinned (OpenSpec.upto fnExactFactorSetOfChoiceSpec)

/-- 'laws.FnExactQuotientOf', WHERE WHAT IT READS IS OF BULK AT MOST 1048576: true; the input reads as it did. -/
def fnExactQuotientOfUptoRow : OpenClaim := { program := "ytenenlpfpkdplaadoor", sum := "051c5303ad632a1ab59a0cdfd86285e90d3c91cd77fa8bd132c816f61713f105", func := "loop.example/g01363/laws.FnExactQuotientOf", spec := "fnExactQuotientOf", unfollowed := true, recurses := true, named := ["math/bits.deBruijn64tab"], apart := false, laid := [("math/bits.deBruijn64tab", laid_math_bits_deBruijn64tab)], narrowed := true }
def FnExactQuotientOfUptoSaid : Prop := fnExactQuotientOfUptoRow.holds Tryd.pinned (OpenSpec.upto fnExactQuotientOfSpec)

/-- 'laws.FnExactClassesOf', WHERE WHAT IT READS IS OF BULK AT MOST 1048576: true; the input reads as it did. -/
def fnExactClassesOfUptoRow : OpenClaim := { program := "ytenenlpfpkdplaadoor", sum := "051c5303ad632a1ab59a0cdfd86285e90d3c91cd77fa8bd132c816f61713f105", func := "loop.example/g01363/laws.FnExactClassesOf", spec := "fnExactClassesOf", unfollowed := true, recurses := true, named := ["math/bits.deBruijn64tab"], apart := false, laid := [("math/bits.deBruijn64tab", laid_math_bits_deBruijn64tab)], narrowed := true }
def FnExactClassesOfUptoSaid : Prop := fnExactClassesOfUptoRow.holds Tryd.pinned (OpenSpec.upto fnExactClassesOfSpec)

/-- 'laws.FnExactSubgroupsOf', WHERE WHAT IT READS IS OF BULK AT MOST 1048576: true; the input reads as it did. -/
def fnExactSubgroupsOfUptoRow : OpenClaim := { program := "ytenenlpfpkdplaadoor", sum := "051c5303ad632a1ab59a0cdfd86285e90d3c91cd77fa8bd132c816f61713f105", func := "loop.example/g01363/laws.FnExactSubgroupsOf", spec := "fnExactSubgroupsOf", unfollowed := true, recurses := true, named := ["math/bits.deBruijn64tab"], apart := false, laid := [("math/bits.deBruijn64tab", laid_math_bits_deBruijn64tab)], narrowed := true }
def FnExactSubgroupsOfUptoSaid : Prop := fnExactSubgroupsOfUptoRow.holds Tryd.pinned (OpenSpec.upto fnExactSubgroupsOfSpec)

end Rows
end Go.Proofs.YtenenlpfpkdplaaDoor
