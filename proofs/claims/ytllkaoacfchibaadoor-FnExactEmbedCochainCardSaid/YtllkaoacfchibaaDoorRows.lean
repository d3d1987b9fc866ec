/-
  NARROWER THAN 'FOR EVERY INPUT', by the rows' own cells (each row's printed sentence says how): FnExactInnerModule: ifaces, laid · FnExactOuterModule: ifaces, laid · FnExactEmbedCochain: ifaces, laid · FnExactReduceCochain: ifaces, laid · FnExactLiftCochain: ifaces, laid · FnExactBoundaryOf: ifaces, laid · FnExactTransferElement: laid · FnExactModuleOfChoice: laid · FnExactFactorSetOfChoice: ifaces, laid · FnExactSubgroupsOf: laid · FnExactCentreOfExtension: ifaces, laid.
  DERIVED. THE GIVEN ROWS OF THIS SEAT. 11 by the template 'for every input the law returns true; each argument reads behind the call as it read before'; 0 by the template 'total and deterministic' (their statements: YtllkaoacfchibaaDoorTotals.lean).
  GIVEN WITH THE SEED: the statements are not yours to turn. If you find one false, say at which input.
  Laid BY PROGRAM, IN A SANDBOX (cutbox-rows.mjs): the forced cells as the released guide's own fill.sh prints them over the translation 01875b8707cdd53d… (all of the seat's roots in one cut). By AI agents, Wed Nov 11 2026. No macro, syntax, notation, axiom, sorry.
-/
import Derived.Test.YtllkaoacfchibaaDoorChecked
import GoSem.Claim
import GoSem.ClaimJoined
import GoSem.ClaimMapViews
import Derived.JoinedTies
import Derived.KernelRfl
namespace Go.Proofs.YtllkaoacfchibaaDoor
/- THE CELL 'sum', in the pinned program and in every row, IS THE sha256 OF THE DUMP (.gsa) THAT YtllkaoacfchibaaDoorProg.lean LOADS. Nothing in Lean hashes anything: it is a label: what it is worth is what the hold of that sum in a sandbox is worth. -/
noncomputable def Tryd.pinned : Pinned := { name := "ytllkaoacfchibaadoor", sum := "01875b8707cdd53dce0e8f7ac0a61675797279b7a4adf6350f715b51d361d99a", checked := Tryd.checked }
namespace Rows
def none {H : Type} : Left H := { results := [], args := [] }

/- WHAT THE LISTED PACKAGE-LEVEL VARIABLES READ AS WHEN THE CALL BEGINS. Each datum BY PROGRAM (the guide's laid-datum.mjs) off the statement by which the dump's own 'gosem.cut.vars' lays the variable. In a bare row this is a premise. The card (YtllkaoacfchibaaDoorCards.lean) ties it to the program's text. -/
def laid_loop_example_g01363_impl_errNoDivisor {H : Type} : DataW H := .iface "*errors.errorString" (.ptr (.agg [.lit (.string [110, 111, 32, 100, 105, 118, 105, 115, 111, 114, 32, 119, 105, 116, 104, 32, 97, 110, 32, 105, 110, 110, 101, 114, 32, 97, 110, 100, 32, 97, 110, 32, 111, 117, 116, 101, 114, 32, 109, 111, 100, 117, 108, 101])]))
def laid_loop_example_g01363_impl_errNoList {H : Type} : DataW H := .iface "*errors.errorString" (.ptr (.agg [.lit (.string [110, 111, 32, 108, 105, 115, 116, 32, 111, 102, 32, 101, 108, 101, 109, 101, 110, 116, 115, 32, 111, 102, 32, 116, 104, 101, 32, 103, 114, 111, 117, 112])]))
def laid_math_bits_deBruijn64tab {H : Type} : DataW H := .agg [.lit (.int .u8 0), .lit (.int .u8 1), .lit (.int .u8 56), .lit (.int .u8 2), .lit (.int .u8 57), .lit (.int .u8 49), .lit (.int .u8 28), .lit (.int .u8 3), .lit (.int .u8 61), .lit (.int .u8 58), .lit (.int .u8 42), .lit (.int .u8 50), .lit (.int .u8 38), .lit (.int .u8 29), .lit (.int .u8 17), .lit (.int .u8 4), .lit (.int .u8 62), .lit (.int .u8 47), .lit (.int .u8 59), .lit (.int .u8 36), .lit (.int .u8 45), .lit (.int .u8 43), .lit (.int .u8 51), .lit (.int .u8 22), .lit (.int .u8 53), .lit (.int .u8 39), .lit (.int .u8 33), .lit (.int .u8 30), .lit (.int .u8 24), .lit (.int .u8 18), .lit (.int .u8 12), .lit (.int .u8 5), .lit (.int .u8 63), .lit (.int .u8 55), .lit (.int .u8 48), .lit (.int .u8 27), .lit (.int .u8 60), .lit (.int .u8 41), .lit (.int .u8 37), .lit (.int .u8 16), .lit (.int .u8 46), .lit (.int .u8 35), .lit (.int .u8 44), .lit (.int .u8 21), .lit (.int .u8 52), .lit (.int .u8 32), .lit (.int .u8 23), .lit (.int .u8 11), .lit (.int .u8 54), .lit (.int .u8 26), .lit (.int .u8 40), .lit (.int .u8 15), .lit (.int .u8 34), .lit (.int .u8 20), .lit (.int .u8 31), .lit (.int .u8 10), .lit (.int .u8 25), .lit (.int .u8 14), .lit (.int .u8 19), .lit (.int .u8 9), .lit (.int .u8 13), .lit (.int .u8 8), .lit (.int .u8 7), .lit (.int .u8 6)]

/-- 'laws.FnExactInnerModule': WHATEVER THE INPUT: true; the input reads as it did. -/
def fnExactInnerModuleSpec : ChangeSpec := { name := "fnExactInnerModule", vars := ["loop.example/g01363/impl.errNoDivisor"], fn := fun _ => fun
  | [d1, d2, d3, g1] => { results := [.lit (.bool true)], args := [d1, d2, d3], vars := [g1] }
  | _ => none }
def fnExactInnerModuleRow : OpenClaim := { program := "ytllkaoacfchibaadoor", sum := "01875b8707cdd53dce0e8f7ac0a61675797279b7a4adf6350f715b51d361d99a", func := "loop.example/g01363/laws.FnExactInnerModule", spec := "fnExactInnerModule", unfollowed := true, recurses := true, named := ["loop.example/g01363/impl.errNoDivisor"], ifaces := true, apart := false, laid := [("loop.example/g01363/impl.errNoDivisor", laid_loop_example_g01363_impl_errNoDivisor)] }
def FnExactInnerModuleSaid : Prop := fnExactInnerModuleRow.holds Tryd.pinned (OpenSpec.ofChange fnExactInnerModuleSpec)

/-- ITS FALSE NEIGHBOUR: 'it returns false'. Refute it at one input. -/
def fnExactInnerModuleWrong : ChangeSpec := { name := "fnExactInnerModule", vars := ["loop.example/g01363/impl.errNoDivisor"], fn := fun _ => fun
  | [d1, d2, d3, g1] => { results := [.lit (.bool false)], args := [d1, d2, d3], vars := [g1] }
  | _ => none }
def FnExactInnerModuleWrongFalsely : Prop := fnExactInnerModuleRow.holds Tryd.pinned (OpenSpec.ofChange fnExactInnerModuleWrong)

/-- 'laws.FnExactOuterModule': WHATEVER THE INPUT: true; the input reads as it did. -/
def fnExactOuterModuleSpec : ChangeSpec := { name := "fnExactOuterModule", vars := ["loop.example/g01363/impl.errNoDivisor"], fn := fun _ => fun
  | [d1, d2, d3, g1] => { results := [.lit (.bool true)], args := [d1, d2, d3], vars := [g1] }
  | _ => none }
def fnExactOuterModuleRow : OpenClaim := { program := "ytllkaoacfchibaadoor", sum := "01875b8707cdd53dce0e8f7ac0a61675797279b7a4adf6350f715b51d361d99a", func := "loop.example/g01363/laws.FnExactOuterModule", spec := "fnExactOuterModule", unfollowed := true, recurses := true, named := ["loop.example/g01363/impl.errNoDivisor"], ifaces := true, apart := false, laid := [("loop.example/g01363/impl.errNoDivisor", laid_loop_example_g01363_impl_errNoDivisor)] }
def FnExactOuterModuleSaid : Prop := fnExactOuterModuleRow.holds Tryd.pinned (OpenSpec.ofChange fnExactOuterModuleSpec)

/-- ITS FALSE NEIGHBOUR: 'it returns false'. Refute it at one input. -/
def fnExactOuterModuleWrong : ChangeSpec := { name := "fnExactOuterModule", vars := ["loop.example/g01363/impl.errNoDivisor"], fn := fun _ => fun
  | [d1, d2, d3, g1] => { results := [.lit (.bool false)], args := [d1, d2, d3], vars := [g1] }
  | _ => none }
def FnExactOuterModuleWrongFalsely : Prop := fnExactOuterModuleRow.holds Tryd.pinned (OpenSpec.ofChange fnExactOuterModuleWrong)

/-- 'laws.FnExactEmbedCochain': WHATEVER THE INPUT: true; the input reads as it did. -/
def fnExactEmbedCochainSpec : ChangeSpec := { name := "fnExactEmbedCochain", vars := ["loop.example/g01363/impl.errNoDivisor"], fn := fun _ => fun
  | [d1, d2, d3, d4, g1] => { results := [.lit (.bool true)], args := [d1, d2, d3, d4], vars := [g1] }
  | _ => none }
def fnExactEmbedCochainRow : OpenClaim := { program := "ytllkaoacfchibaadoor", sum := "01875b8707cdd53dce0e8f7ac0a61675797279b7a4adf6350f715b51d361d99a", func := "loop.example/g01363/laws.FnExactEmbedCochain", spec := "fnExactEmbedCochain", unfollowed := true, recurses := true, named := ["loop.example/g01363/impl.errNoDivisor"], ifaces := true, apart := false, laid := [("loop.example/g01363/impl.errNoDivisor", laid_loop_example_g01363_impl_errNoDivisor)] }
def FnExactEmbedCochainSaid : Prop := fnExactEmbedCochainRow.holds Tryd.pinned (OpenSpec.ofChange fnExactEmbedCochainSpec)

/-- ITS FALSE NEIGHBOUR: 'it returns false'. Refute it at one input. -/
def fnExactEmbedCochainWrong : ChangeSpec := { name := "fnExactEmbedCochain", vars := ["loop.example/g01363/impl.errNoDivisor"], fn := fun _ => fun
  | [d1, d2, d3, d4, g1] => { results := [.lit (.bool false)], args := [d1, d2, d3, d4], vars := [g1] }
  | _ => none }
def FnExactEmbedCochainWrongFalsely : Prop := fnExactEmbedCochainRow.holds Tryd.pinned (OpenSpec.ofChange fnExactEmbedCochainWrong)

/-- 'laws.FnExactReduceCochain': WHATEVER THE INPUT: true; the input reads as it did. -/
def fnExactReduceCochainSpec : ChangeSpec := { name := "fnExactReduceCochain", vars := ["loop.example/g01363/impl.errNoDivisor"], fn := fun _ => fun
  | [d1, d2, d3, d4, g1] => { results := [.lit (.bool true)], args := [d1, d2, d3, d4], vars := [g1] }
  | _ => none }
def fnExactReduceCochainRow : OpenClaim := { program := "ytllkaoacfchibaadoor", sum := "01875b8707cdd53dce0e8f7ac0a61675797279b7a4adf6350f715b51d361d99a", func := "loop.example/g01363/laws.FnExactReduceCochain", spec := "fnExactReduceCochain", unfollowed := true, recurses := true, named := ["loop.example/g01363/impl.errNoDivisor"], ifaces := true, apart := false, laid := [("loop.example/g01363/impl.errNoDivisor", laid_loop_example_g01363_impl_errNoDivisor)] }
def FnExactReduceCochainSaid : Prop := fnExactReduceCochainRow.holds Tryd.pinned (OpenSpec.ofChange fnExactReduceCochainSpec)

/-- ITS FALSE NEIGHBOUR: 'it returns false'. Refute it at one input. -/
def fnExactReduceCochainWrong : ChangeSpec := { name := "fnExactReduceCochain", vars := ["loop.example/g01363/impl.errNoDivisor"], fn := fun _ => fun
  | [d1, d2, d3, d4, g1] => { results := [.lit (.bool false)], args := [d1, d2, d3, d4], vars := [g1] }
  | _ => none }
def FnExactReduceCochainWrongFalsely : Prop := fnExactReduceCochainRow.holds Tryd.pinned (OpenSpec.ofChange fnExactReduceCochainWrong)

/-- 'laws.FnExactLiftCochain': WHATEVER THE INPUT: true; the input reads as it did. -/
def fnExactLiftCochainSpec : ChangeSpec := { name := "fnExactLiftCochain", vars := ["loop.example/g01363/impl.errNoDivisor"], fn := fun _ => fun
  | [d1, d2, d3, d4, g1] => { results := [.lit (.bool true)], args := [d1, d2, d3, d4], vars := [g1] }
  | _ => none }
def fnExactLiftCochainRow : OpenClaim := { program := "ytllkaoacfchibaadoor", sum := "01875b8707cdd53dce0e8f7ac0a61675797279b7a4adf6350f715b51d361d99a", func := "loop.example/g01363/laws.FnExactLiftCochain", spec := "fnExactLiftCochain", unfollowed := true, recurses := true, named := ["loop.example/g01363/impl.errNoDivisor"], ifaces := true, apart := false, laid := [("loop.example/g01363/impl.errNoDivisor", laid_loop_example_g01363_impl_errNoDivisor)] }
def FnExactLiftCochainSaid : Prop := fnExactLiftCochainRow.holds Tryd.pinned (OpenSpec.ofChange fnExactLiftCochainSpec)

/-- ITS FALSE NEIGHBOUR: 'it returns false'. Refute it at one input. -/
def fnExactLiftCochainWrong : ChangeSpec := { name := "fnExactLiftCochain", vars := ["loop.example/g01363/impl.errNoDivisor"], fn := fun _ => fun
  | [d1, d2, d3, d4, g1] => { results := [.lit (.bool false)], args := [d1, d2, d3, d4], vars := [g1] }
  | _ => none }
def FnExactLiftCochainWrongFalsely : Prop := fnExactLiftCochainRow.holds Tryd.pinned (OpenSpec.ofChange fnExactLiftCochainWrong)

/-- 'laws.FnExactBoundaryOf': WHATEVER THE INPUT: true; the input reads as it did. -/
def fnExactBoundaryOfSpec : ChangeSpec := { name := "fnExactBoundaryOf", vars := ["loop.example/g01363/impl.errNoList"], fn := fun _ => fun
  | [d1, d2, d3, g1] => { results := [.lit (.bool true)], args := [d1, d2, d3], vars := [g1] }
  | _ => none }
def fnExactBoundaryOfRow : OpenClaim := { program := "ytllkaoacfchibaadoor", sum := "01875b8707cdd53dce0e8f7ac0a61675797279b7a4adf6350f715b51d361d99a", func := "loop.example/g01363/laws.FnExactBoundaryOf", spec := "fnExactBoundaryOf", unfollowed := true, recurses := true, named := ["loop.example/g01363/impl.errNoList"], ifaces := true, apart := false, laid := [("loop.example/g01363/impl.errNoList", laid_loop_example_g01363_impl_errNoList)] }
def FnExactBoundaryOfSaid : Prop := fnExactBoundaryOfRow.holds Tryd.pinned (OpenSpec.ofChange fnExactBoundaryOfSpec)

/-- ITS FALSE NEIGHBOUR: 'it returns false'. Refute it at one input. -/
def fnExactBoundaryOfWrong : ChangeSpec := { name := "fnExactBoundaryOf", vars := ["loop.example/g01363/impl.errNoList"], fn := fun _ => fun
  | [d1, d2, d3, g1] => { results := [.lit (.bool false)], args := [d1, d2, d3], vars := [g1] }
  | _ => none }
def FnExactBoundaryOfWrongFalsely : Prop := fnExactBoundaryOfRow.holds Tryd.pinned (OpenSpec.ofChange fnExactBoundaryOfWrong)

/-- 'laws.FnExactTransferElement': WHATEVER THE INPUT: true; the input reads as it did. -/
def fnExactTransferElementSpec : ChangeSpec := { name := "fnExactTransferElement", fn := fun _ => fun
  | [d1, d2, d3] => { results := [.lit (.bool true)], args := [d1, d2, d3] }
  | _ => none }
def fnExactTransferElementRow : OpenClaim := { program := "ytllkaoacfchibaadoor", sum := "01875b8707cdd53dce0e8f7ac0a61675797279b7a4adf6350f715b51d361d99a", func := "loop.example/g01363/laws.FnExactTransferElement", spec := "fnExactTransferElement", unfollowed := true, recurses := true, named := ["math/bits.deBruijn64tab"], apart := false, laid := [("math/bits.deBruijn64tab", laid_math_bits_deBruijn64tab)] }
def FnExactTransferElementSaid : Prop := fnExactTransferElementRow.holds Tryd.pinned (OpenSpec.ofChange fnExactTransferElementSpec)

/-- ITS FALSE NEIGHBOUR: 'it returns false'. Refute it at one input. -/
def fnExactTransferElementWrong : ChangeSpec := { name := "fnExactTransferElement", fn := fun _ => fun
  | [d1, d2, d3] => { results := [.lit (.bool false)], args := [d1, d2, d3] }
  | _ => none }
def FnExactTransferElementWrongFalsely : Prop := fnExactTransferElementRow.holds Tryd.pinned (OpenSpec.ofChange fnExactTransferElementWrong)

/-- 'laws.FnExactModuleOfChoice': WHATEVER THE INPUT: true; the input reads as it did. -/
def fnExactModuleOfChoiceSpec : ChangeSpec := { name := "fnExactModuleOfChoice", fn := fun _ => fun
  | [d1, d2] => { results := [.lit (.bool true)], args := [d1, d2] }
  | _ => none }
def fnExactModuleOfChoiceRow : OpenClaim := { program := "ytllkaoacfchibaadoor", sum := "01875b8707cdd53dce0e8f7ac0a61675797279b7a4adf6350f715b51d361d99a", func := "loop.example/g01363/laws.FnExactModuleOfChoice", spec := "fnExactModuleOfChoice", unfollowed := true, recurses := true, named := ["math/bits.deBruijn64tab"], apart := false, laid := [("math/bits.deBruijn64tab", laid_math_bits_deBruijn64tab)] }
def FnExactModuleOfChoiceSaid : Prop := fnExactModuleOfChoiceRow.holds Tryd.pinned (OpenSpec.ofChange fnExactModuleOfChoiceSpec)

/-- ITS FALSE NEIGHBOUR: 'it returns false'. Refute it at one input. -/
def fnExactModuleOfChoiceWrong : ChangeSpec := { name := "fnExactModuleOfChoice", fn := fun _ => fun
  | [d1, d2] => { results := [.lit (.bool false)], args := [d1, d2] }
  | _ => none }
def FnExactModuleOfChoiceWrongFalsely : Prop := fnExactModuleOfChoiceRow.holds Tryd.pinned (OpenSpec.ofChange fnExactModuleOfChoiceWrong)

/-- 'laws.FnExactFactorSetOfChoice': WHATEVER THE INPUT: true; the input reads as it did. -/
def fnExactFactorSetOfChoiceSpec : ChangeSpec := { name := "fnExactFactorSetOfChoice", vars := ["loop.example/g01363/impl.errNoList"], fn := fun _ => fun
  | [d1, d2, g1] => { results := [.lit (.bool true)], args := [d1, d2], vars := [g1] }
  | _ => none }
def fnExactFactorSetOfChoiceRow : OpenClaim := { program := "ytllkaoacfchibaadoor", sum := "01875b8707cdd53dce0e8f7ac0a61675797279b7a4adf6350f715b51d361d99a", func := "loop.example/g01363/laws.FnExactFactorSetOfChoice", spec := "fnExactFactorSetOfChoice", unfollowed := true, recurses := true, named := ["math/bits.deBruijn64tab", "loop.example/g01363/impl.errNoList"], ifaces := true, apart := false, laid := [("math/bits.deBruijn64tab", laid_math_bits_deBruijn64tab), ("loop.example/g01363/impl.errNoList", laid_loop_example_g01363_impl_errNoList)] }
def FnExactFactorSetOfChoiceSaid : Prop := fnExactFactorSetOfChoiceRow.holds Tryd.pinned (OpenSpec.ofChange fnExactFactorSetOfChoiceSpec)

/-- ITS FALSE NEIGHBOUR: 'it returns false'. Refute it at one input. -/
def fnExactFactorSetOfChoiceWrong : ChangeSpec := { name := "fnExactFactorSetOfChoice", vars := ["loop.example/g01363/impl.errNoList"], fn := fun _ => fun
  | [d1, d2, g1] => { results := [.lit (.bool false)], args := [d1, d2], vars := [g1] }
  | _ => none }
def FnExactFactorSetOfChoiceWrongFalsely : Prop := fnExactFactorSetOfChoiceRow.holds Tryd.pinned (OpenSpec.ofChange fnExactFactorSetOfChoiceWrong)

/-- 'laws.FnExactSubgroupsOf': WHATEVER THE INPUT: true; the input reads as it did. -/
def fnExactSubgroupsOfSpec : ChangeSpec := { name := "fnExactSubgroupsOf", fn := fun _ => fun
  | [d] => { results := [.lit (.bool true)], args := [d] }
  | _ => none }
def fnExactSubgroupsOfRow : OpenClaim := { program := "ytllkaoacfchibaadoor", sum := "01875b8707cdd53dce0e8f7ac0a61675797279b7a4adf6350f715b51d361d99a", func := "loop.example/g01363/laws.FnExactSubgroupsOf", spec := "fnExactSubgroupsOf", unfollowed := true, recurses := true, named := ["math/bits.deBruijn64tab"], apart := false, laid := [("math/bits.deBruijn64tab", laid_math_bits_deBruijn64tab)] }
def FnExactSubgroupsOfSaid : Prop := fnExactSubgroupsOfRow.holds Tryd.pinned (OpenSpec.ofChange fnExactSubgroupsOfSpec)

/-- ITS FALSE NEIGHBOUR: 'it returns false'. Refute it at one input. -/
def fnExactSubgroupsOfWrong : ChangeSpec := { name := "fnExactSubgroupsOf", fn := fun _ => fun
  | [d] => { results := [.lit (.bool false)], args := [d] }
  | _ => none }
def FnExactSubgroupsOfWrongFalsely : Prop := fnExactSubgroupsOfRow.holds Tryd.pinned (OpenSpec.ofChange fnExactSubgroupsOfWrong)

/-- 'laws.FnExactCentreOfExtension': WHATEVER THE INPUT: true; the input reads as it did. -/
def fnExactCentreOfExtensionSpec : ChangeSpec := { name := "fnExactCentreOfExtension", vars := ["loop.example/g01363/impl.errNoList"], fn := fun _ => fun
  | [d1, d2, d3, g1] => { results := [.lit (.bool true)], args := [d1, d2, d3], vars := [g1] }
  | _ => none }
def fnExactCentreOfExtensionRow : OpenClaim := { program := "ytllkaoacfchibaadoor", sum := "01875b8707cdd53dce0e8f7ac0a61675797279b7a4adf6350f715b51d361d99a", func := "loop.example/g01363/laws.FnExactCentreOfExtension", spec := "fnExactCentreOfExtension", unfollowed := true, recurses := true, named := ["loop.example/g01363/impl.errNoList", "math/bits.deBruijn64tab"], ifaces := true, apart := false, laid := [("math/bits.deBruijn64tab", laid_math_bits_deBruijn64tab), ("loop.example/g01363/impl.errNoList", laid_loop_example_g01363_impl_errNoList)] }
def FnExactCentreOfExtensionSaid : Prop := fnExactCentreOfExtensionRow.holds Tryd.pinned (OpenSpec.ofChange fnExactCentreOfExtensionSpec)

/-- ITS FALSE NEIGHBOUR: 'it returns false'. Refute it at one input. -/
def fnExactCentreOfExtensionWrong : ChangeSpec := { name := "fnExactCentreOfExtension", vars := ["loop.example/g01363/impl.errNoList"], fn := fun _ => fun
  | [d1, d2, d3, g1] => { results := [.lit (.bool false)], args := [d1, d2, d3], vars := [g1] }
  | _ => none }
def FnExactCentreOfExtensionWrongFalsely : Prop := fnExactCentreOfExtensionRow.holds Tryd.pinned (OpenSpec.ofChange fnExactCentreOfExtensionWrong)

/- THE SECOND FORM. 'bulk': how many values and letters a reading holds, each counted each time it is reached (what is shared counts as often as it is met; a slice's spare places count too). A statement '..UptoSaid' is the law's where the arguments, and the package variables that the reading takes, are together of bulk at most 1048576: NARROWER than '..Said'. Prove '..Said' where nothing that the law and all that it calls make is longer than what came in: it says more and counts as full. Else prove '..UptoSaid'. A law counts once. -/
mutual
def uptoBulk {H : Type} : DataW H → Nat
  | .lit (.string bytes) => bytes.length + 1
  | .lit _ => 1
  | .nil => 1
  | .ptr d => uptoBulk d + 1
  | .slice elems spare => uptoBulkAll elems + uptoBulkAll spare + 1
  | .agg parts => uptoBulkAll parts + 1
  | .iface _ d => uptoBulk d + 1
  | .map entries => uptoBulkEntries entries + 1
  | .held _ => 1
def uptoBulkAll {H : Type} : List (DataW H) → Nat
  | [] => 0
  | d :: r => uptoBulk d + uptoBulkAll r
def uptoBulkEntries {H : Type} : List (Lit × DataW H) → Nat
  | [] => 0
  | x :: r => uptoBulkEntry x + uptoBulkEntries r
def uptoBulkEntry {H : Type} : Lit × DataW H → Nat
  | (.string bytes, d) => bytes.length + uptoBulk d + 1
  | (_, d) => uptoBulk d + 1
 end
def uptoSmall : (H : Type) → List (DataW H) → Bool := fun _ ds => decide (uptoBulkAll ds ≤ 1048576)
def OpenSpec.upto (s : _root_.Go.ChangeSpec) : _root_.Go.OpenSpec := { _root_.Go.OpenSpec.ofChange s with cond := some uptoSmall }

/-- 'laws.FnExactInnerModule', WHERE WHAT IT READS IS OF BULK AT MOST 1048576: true; the input reads as it did. -/
def fnExactInnerModuleUptoRow : OpenClaim := { program := "ytllkaoacfchibaadoor", sum := "01875b8707cdd53dce0e8f7ac0a61675797279b7a4adf6350f715b51d361d99a", func := "loop.example/g01363/laws.FnExactInnerModule", spec := "fnExactInnerModule", unfollowed := true, recurses := true, named := ["loop.example/g01363/impl.errNoDivisor"], ifaces := true, apart := false, laid := [("loop.example/g01363/impl.errNoDivisor", laid_loop_example_g01363_impl_errNoDivisor)], narrowed := true }
def FnExactInnerModuleUptoSaid : Prop := fnExactInnerModuleUptoRow.holds Tryd.pinned (OpenSpec.upto fnExactInnerModuleSpec)

/-- 'laws.FnExactOuterModule', WHERE WHAT IT READS IS OF BULK AT MOST 1048576: true; the input reads as it did. -/
def fnExactOuterModuleUptoRow : OpenClaim := { program := "ytllkaoacfchibaadoor", sum := "01875b8707cdd53dce0e8f7ac0a61675797279b7a4adf6350f715b51d361d99a", func := "loop.example/g01363/laws.FnExactOuterModule", spec := "fnExactOuterModule", unfollowed := true, recurses := true, named := ["loop.example/g01363/impl.errNoDivisor"], ifaces := true, apart := false, laid := [("loop.example/g01363/impl.errNoDivisor", laid_loop_example_g01363_impl_errNoDivisor)], narrowed := true }
def FnExactOuterModuleUptoSaid : Prop := fnExactOuterModuleUptoRow.holds Tryd.pinned (OpenSpec.upto fnExactOuterModuleSpec)

/-- 'laws.FnExactEmbedCochain', WHERE WHAT IT READS IS OF BULK AT MOST 1048576: true; the input reads as it did. -/
def fnExactEmbedCochainUptoRow : OpenClaim := { program := "ytllkaoacfchibaadoor", sum := "01875b8707cdd53dce0e8f7ac0a61675797279b7a4adf6350f715b51d361d99a", func := "loop.example/g01363/laws.FnExactEmbedCochain", spec := "fnExactEmbedCochain", unfollowed := true, recurses := true, named := ["loop.example/g01363/impl.errNoDivisor"], ifaces := true, apart := false, laid := [("loop.example/g01363/impl.errNoDivisor", laid_loop_example_g01363_impl_errNoDivisor)], narrowed := true }
def FnExactEmbedCochainUptoSaid : Prop := fnExactEmbedCochainUptoRow.holds Tryd.pinned (OpenSpec.upto fnExactEmbedCochainSpec)

/-- 'laws.FnExactReduceCochain', WHERE WHAT IT READS IS OF BULK AT MOST 1048576: true; the input reads as it did. -/
def fnExactReduceCochainUptoRow : OpenClaim := { program := "ytllkaoacfchibaadoor", sum := "01875b8707cdd53dce0e8f7ac0a61675797279b7a4adf6350f715b51d361d99a", func := "loop.example/g01363/laws.FnExactReduceCochain", spec := "fnExactReduceCochain", unfollowed := true, recurses := true, named := ["loop.example/g01363/impl.errNoDivisor"], ifaces := true, apart := false, laid := [("loop.example/g01363/impl.errNoDivisor", laid_loop_example_g01363_impl_errNoDivisor)], narrowed := true }
def FnExactReduceCochainUptoSaid : Prop := fnExactReduceCochainUptoRow.holds Tryd.pinned (OpenSpec.upto fnExactReduceCochainSpec)

/-- 'laws.FnExactLiftCochain', WHERE WHAT IT READS IS OF BULK AT MOST 1048576: true; the input reads as it did. -/
def fnExactLiftCochainUptoRow : OpenClaim := { program := "ytllkaoacfchibaadoor", sum := "01875b8707cdd53dce0e8f7ac0a61675797279b7a4adf6350f715b51d361d99a", func := "loop.example/g01363/laws.FnExactLiftCochain", spec := "fnExactLiftCochain", unfollowed := true, recurses := true, named := ["loop.example/g01363/impl.errNoDivisor"], ifaces := true, apart := false, laid := [("loop.example/g01363/impl.errNoDivisor", laid_loop_example_g01363_impl_errNoDivisor)], narrowed := true }
def FnExactLiftCochainUptoSaid : Prop := fnExactLiftCochainUptoRow.holds Tryd.pinned (OpenSpec.upto fnExactLiftCochainSpec)

/-- 'laws.FnExactBoundaryOf', WHERE WHAT IT READS IS OF BULK AT MOST 1048576: true; the input reads as it did. -/
def fnExactBoundaryOfUptoRow : OpenClaim := { program := "ytllkaoacfchibaadoor", sum := "01875b8707cdd53dce0e8f7ac0a61675797279b7a4adf6350f715b51d361d99a", func := "loop.example/g01363/laws.FnExactBoundaryOf", spec := "fnExactBoundaryOf", unfollowed := true, recurses := true, named := ["loop.example/g01363/impl.errNoList"], ifaces := true, apart := false, laid := [("loop.example/g01363/impl.errNoList", laid_loop_example_g01363_impl_errNoList)], narrowed := true }
def FnExactBoundaryOfUptoSaid : Prop := fnExactBoundaryOfUptoRow.holds Tryd.pinned (OpenSpec.upto fnExactBoundaryOfSpec)

/-- 'laws.FnExactTransferElement', WHERE WHAT IT READS IS OF BULK AT MOST 1048576: true; the input reads as it did. -/
def fnExactTransferElementUptoRow : OpenClaim := { program := "ytllkaoacfchibaadoor", sum := "01875b8707cdd53dce0e8f7ac0a61675797279b7a4adf6350f715b51d361d99a", func := "loop.example/g01363/laws.FnExactTransferElement", spec := "fnExactTransferElement", unfollowed := true, recurses := true, named := ["math/bits.deBruijn64tab"], apart := false, laid := [("math/bits.deBruijn64tab", laid_math_bits_deBruijn64tab)], narrowed := true }
def FnExactTransferElementUptoSaid : Prop := fnExactTransferElementUptoRow.holds Tryd.pinned (OpenSpec.upto fnExactTransferElementSpec)

/-- 'laws.FnExactModuleOfChoice', WHERE WHAT IT READS IS OF BULK AT MOST 1048576: true; the input reads as it did. -/
def fnExactModuleOfChoiceUptoRow : OpenClaim := { program := "ytllkaoacfchibaadoor", sum := "01875b8707cdd53dce0e8f7ac0a61675797279b7a4adf6350f715b51d361d99a", func := "loop.example/g01363/laws.FnExactModuleOfChoice", spec := "fnExactModuleOfChoice", unfollowed := true, recurses := true, named := ["math/bits.deBruijn64tab"], apart := false, laid := [("math/bits.deBruijn64tab", laid_math_bits_deBruijn64tab)], narrowed := true }
def FnExactModuleOfChoiceUptoSaid : Prop := fnExactModuleOfChoiceUptoRow.holds Tryd.pinned (OpenSpec.upto fnExactModuleOfChoiceSpec)

/-- 'laws.FnExactFactorSetOfChoice', WHERE WHAT IT READS IS OF BULK AT MOST 1048576: true; the input reads as it did. -/
def fnExactFactorSetOfChoiceUptoRow : OpenClaim := { program := "ytllkaoacfchibaadoor", sum := "01875b8707cdd53dce0e8f7ac0a61675797279b7a4adf6350f715b51d361d99a", func := "loop.example/g01363/laws.FnExactFactorSetOfChoice", spec := "fnExactFactorSetOfChoice", unfollowed := true, recurses := true, named := ["math/bits.deBruijn64tab", "loop.example/g01363/impl.errNoList"], ifaces := true, apart := false, laid := [("math/bits.deBruijn64tab", laid_math_bits_deBruijn64tab), ("loop.example/g01363/impl.errNoList", laid_loop_example_g01363_impl_errNoList)], narrowed := true }
def FnExactFactorSetOfChoiceUptoSaid : Prop := fnExactFactorSetOfChoiceUptoRow.holds Tryd.pinned (OpenSpec.upto fnExactFactorSetOfChoiceSpec)

/-- 'laws.FnExactSubgroupsOf', WHERE WHAT IT READS IS OF BULK AT MOST 1048576: true; the input reads as it did. -/
def fnExactSubgroupsOfUptoRow : OpenClaim := { program := "ytllkaoacfchibaadoor", sum := "01875b8707cdd53dce0e8f7ac0a61675797279b7a4adf6350f715b51d361d99a", func := "loop.example/g01363/laws.FnExactSubgroupsOf", spec := "fnExactSubgroupsOf", unfollowed := true, recurses := true, named := ["math/bits.deBruijn64tab"], apart := false, laid := [("math/bits.deBruijn64tab", laid_math_bits_deBruijn64tab)], narrowed := true }
def FnExactSubgroupsOfUptoSaid : Prop := fnExactSubgroupsOfUptoRow.holds Tryd.pinned (OpenSpec.upto fnExactSubgroupsOfSpec)

/-- 'laws.FnExactCentreOfExtension', WHERE WHAT IT READS IS OF BULK AT MOST 1048576: true; the input reads as it did. -/
def fnExactCentreOfExtensionUptoRow : OpenClaim := { program := "ytllkaoacfchibaadoor", sum := "01875b8707cdd53dce0e8f7ac0a61675797279b7a4adf6350f715b51d361d99a", func := "loop.example/g01363/laws.FnExactCentreOfExtension", spec := "fnExactCentreOfExtension", unfollowed := true, recurses := true, named := ["loop.example/g01363/impl.errNoList", "math/bits.deBruijn64tab"], ifaces := true, apart := false, laid := [("math/bits.deBruijn64tab", laid_math_bits_deBruijn64tab), ("loop.example/g01363/impl.errNoList", laid_loop_example_g01363_impl_errNoList)], narrowed := true }
def FnExactCentreOfExtensionUptoSaid : Prop := fnExactCentreOfExtensionUptoRow.holds Tryd.pinned (OpenSpec.upto fnExactCentreOfExtensionSpec)

end Rows
end Go.Proofs.YtllkaoacfchibaaDoor
