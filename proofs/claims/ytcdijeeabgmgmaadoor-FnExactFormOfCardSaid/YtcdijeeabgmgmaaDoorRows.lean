/-
  NARROWER THAN 'FOR EVERY INPUT', by the rows' own cells (each row's printed sentence says how): FnExactIsSymmetric: ifaces, laid · FnExactFormOf: ifaces, laid · FnExactAbelianInvariants: ifaces, laid · FnExactMultiplierOf: ifaces, laid · FnExactModuleOfChoice: laid · FnExactFactorSetOfChoice: ifaces, laid · FnExactCentreOfExtension: ifaces, laid · FnExactSubgroupsOf: laid · FnExactCocycleSteps: ifaces, laid · FnExactBoundingSteps: ifaces, laid.
  DERIVED. THE GIVEN ROWS OF THIS SEAT. 10 by the template 'for every input the law returns true; each argument reads behind the call as it read before'; 0 by the template 'total and deterministic' (their statements: YtcdijeeabgmgmaaDoorTotals.lean).
  GIVEN WITH THE SEED: the statements are not yours to turn. If you find one false, say at which input.
  Laid BY PROGRAM, IN A SANDBOX (cutbox-rows.mjs): the forced cells as the released guide's own fill.sh prints them over the translation dc6c461b32ee395b… (all of the seat's roots in one cut). By AI agents, Wed Nov 11 2026. No macro, syntax, notation, axiom, sorry.
-/
import Derived.Test.YtcdijeeabgmgmaaDoorChecked
import GoSem.Claim
import GoSem.ClaimJoined
import GoSem.ClaimMapViews
import Derived.JoinedTies
import Derived.KernelRfl
namespace Go.Proofs.YtcdijeeabgmgmaaDoor
/- THE CELL 'sum', in the pinned program and in every row, IS THE sha256 OF THE DUMP (.gsa) THAT YtcdijeeabgmgmaaDoorProg.lean LOADS. Nothing in Lean hashes anything: it is a label: what it is worth is what the hold of that sum in a sandbox is worth. -/
noncomputable def Tryd.pinned : Pinned := { name := "ytcdijeeabgmgmaadoor", sum := "dc6c461b32ee395be84c45e0d05732fe7b472cb850cc2fb25008c9f23b970ead", checked := Tryd.checked }
namespace Rows
def none {H : Type} : Left H := { results := [], args := [] }

/- WHAT THE LISTED PACKAGE-LEVEL VARIABLES READ AS WHEN THE CALL BEGINS. Each datum BY PROGRAM (the guide's laid-datum.mjs) off the statement by which the dump's own 'gosem.cut.vars' lays the variable. In a bare row this is a premise. The card (YtcdijeeabgmgmaaDoorCards.lean) ties it to the program's text. -/
def laid_loop_example_g01363_impl_errNoList {H : Type} : DataW H := .iface "*errors.errorString" (.ptr (.agg [.lit (.string [110, 111, 32, 108, 105, 115, 116, 32, 111, 102, 32, 101, 108, 101, 109, 101, 110, 116, 115, 32, 111, 102, 32, 116, 104, 101, 32, 103, 114, 111, 117, 112])]))
def laid_math_bits_deBruijn64tab {H : Type} : DataW H := .agg [.lit (.int .u8 0), .lit (.int .u8 1), .lit (.int .u8 56), .lit (.int .u8 2), .lit (.int .u8 57), .lit (.int .u8 49), .lit (.int .u8 28), .lit (.int .u8 3), .lit (.int .u8 61), .lit (.int .u8 58), .lit (.int .u8 42), .lit (.int .u8 50), .lit (.int .u8 38), .lit (.int .u8 29), .lit (.int .u8 17), .lit (.int .u8 4), .lit (.int .u8 62), .lit (.int .u8 47), .lit (.int .u8 59), .lit (.int .u8 36), .lit (.int .u8 45), .lit (.int .u8 43), .lit (.int .u8 51), .lit (.int .u8 22), .lit (.int .u8 53), .lit (.int .u8 39), .lit (.int .u8 33), .lit (.int .u8 30), .lit (.int .u8 24), .lit (.int .u8 18), .lit (.int .u8 12), .lit (.int .u8 5), .lit (.int .u8 63), .lit (.int .u8 55), .lit (.int .u8 48), .lit (.int .u8 27), .lit (.int .u8 60), .lit (.int .u8 41), .lit (.int .u8 37), .lit (.int .u8 16), .lit (.int .u8 46), .lit (.int .u8 35), .lit (.int .u8 44), .lit (.int .u8 21), .lit (.int .u8 52), .lit (.int .u8 32), .lit (.int .u8 23), .lit (.int .u8 11), .lit (.int .u8 54), .lit (.int .u8 26), .lit (.int .u8 40), .lit (.int .u8 15), .lit (.int .u8 34), .lit (.int .u8 20), .lit (.int .u8 31), .lit (.int .u8 10), .lit (.int .u8 25), .lit (.int .u8 14), .lit (.int .u8 19), .lit (.int .u8 9), .lit (.int .u8 13), .lit (.int .u8 8), .lit (.int .u8 7), .lit (.int .u8 6)]

/-- 'laws.FnExactIsSymmetric': WHATEVER THE INPUT: true; the input reads as it did. -/
def fnExactIsSymmetricSpec : ChangeSpec := { name := "fnExactIsSymmetric", vars := ["loop.example/g01363/impl.errNoList"], fn := fun _ => fun
  | [d1, d2, d3, g1] => { results := [.lit (.bool true)], args := [d1, d2, d3], vars := [g1] }
  | _ => none }
def fnExactIsSymmetricRow : OpenClaim := { program := "ytcdijeeabgmgmaadoor", sum := "dc6c461b32ee395be84c45e0d05732fe7b472cb850cc2fb25008c9f23b970ead", func := "loop.example/g01363/laws.FnExactIsSymmetric", spec := "fnExactIsSymmetric", unfollowed := true, recurses := true, named := ["loop.example/g01363/impl.errNoList"], ifaces := true, apart := false, laid := [("loop.example/g01363/impl.errNoList", laid_loop_example_g01363_impl_errNoList)] }
def FnExactIsSymmetricSaid : Prop := fnExactIsSymmetricRow.holds Tryd.pinned (OpenSpec.ofChange fnExactIsSymmetricSpec)

/-- ITS FALSE NEIGHBOUR: 'it returns false'. Refute it at one input. -/
def fnExactIsSymmetricWrong : ChangeSpec := { name := "fnExactIsSymmetric", vars := ["loop.example/g01363/impl.errNoList"], fn := fun _ => fun
  | [d1, d2, d3, g1] => { results := [.lit (.bool false)], args := [d1, d2, d3], vars := [g1] }
  | _ => none }
def FnExactIsSymmetricWrongFalsely : Prop := fnExactIsSymmetricRow.holds Tryd.pinned (OpenSpec.ofChange fnExactIsSymmetricWrong)

/-- 'laws.FnExactFormOf': WHATEVER THE INPUT: true; the input reads as it did. -/
def fnExactFormOfSpec : ChangeSpec := { name := "fnExactFormOf", vars := ["loop.example/g01363/impl.errNoList"], fn := fun _ => fun
  | [d1, d2, d3, g1] => { results := [.lit (.bool true)], args := [d1, d2, d3], vars := [g1] }
  | _ => none }
def fnExactFormOfRow : OpenClaim := { program := "ytcdijeeabgmgmaadoor", sum := "dc6c461b32ee395be84c45e0d05732fe7b472cb850cc2fb25008c9f23b970ead", func := "loop.example/g01363/laws.FnExactFormOf", spec := "fnExactFormOf", unfollowed := true, recurses := true, named := ["loop.example/g01363/impl.errNoList"], ifaces := true, apart := false, laid := [("loop.example/g01363/impl.errNoList", laid_loop_example_g01363_impl_errNoList)] }
def FnExactFormOfSaid : Prop := fnExactFormOfRow.holds Tryd.pinned (OpenSpec.ofChange fnExactFormOfSpec)

/-- ITS FALSE NEIGHBOUR: 'it returns false'. Refute it at one input. -/
def fnExactFormOfWrong : ChangeSpec := { name := "fnExactFormOf", vars := ["loop.example/g01363/impl.errNoList"], fn := fun _ => fun
  | [d1, d2, d3, g1] => { results := [.lit (.bool false)], args := [d1, d2, d3], vars := [g1] }
  | _ => none }
def FnExactFormOfWrongFalsely : Prop := fnExactFormOfRow.holds Tryd.pinned (OpenSpec.ofChange fnExactFormOfWrong)

/-- 'laws.FnExactAbelianInvariants': WHATEVER THE INPUT: true; the input reads as it did. -/
def fnExactAbelianInvariantsSpec : ChangeSpec := { name := "fnExactAbelianInvariants", vars := ["loop.example/g01363/impl.errNoList"], fn := fun _ => fun
  | [d, g1] => { results := [.lit (.bool true)], args := [d], vars := [g1] }
  | _ => none }
def fnExactAbelianInvariantsRow : OpenClaim := { program := "ytcdijeeabgmgmaadoor", sum := "dc6c461b32ee395be84c45e0d05732fe7b472cb850cc2fb25008c9f23b970ead", func := "loop.example/g01363/laws.FnExactAbelianInvariants", spec := "fnExactAbelianInvariants", unfollowed := true, recurses := true, named := ["loop.example/g01363/impl.errNoList"], ifaces := true, apart := false, laid := [("loop.example/g01363/impl.errNoList", laid_loop_example_g01363_impl_errNoList)] }
def FnExactAbelianInvariantsSaid : Prop := fnExactAbelianInvariantsRow.holds Tryd.pinned (OpenSpec.ofChange fnExactAbelianInvariantsSpec)

/-- ITS FALSE NEIGHBOUR: 'it returns false'. Refute it at one input. -/
def fnExactAbelianInvariantsWrong : ChangeSpec := { name := "fnExactAbelianInvariants", vars := ["loop.example/g01363/impl.errNoList"], fn := fun _ => fun
  | [d, g1] => { results := [.lit (.bool false)], args := [d], vars := [g1] }
  | _ => none }
def FnExactAbelianInvariantsWrongFalsely : Prop := fnExactAbelianInvariantsRow.holds Tryd.pinned (OpenSpec.ofChange fnExactAbelianInvariantsWrong)

/-- 'laws.FnExactMultiplierOf': WHATEVER THE INPUT: true; the input reads as it did. -/
def fnExactMultiplierOfSpec : ChangeSpec := { name := "fnExactMultiplierOf", vars := ["loop.example/g01363/impl.errNoList"], fn := fun _ => fun
  | [d, g1] => { results := [.lit (.bool true)], args := [d], vars := [g1] }
  | _ => none }
def fnExactMultiplierOfRow : OpenClaim := { program := "ytcdijeeabgmgmaadoor", sum := "dc6c461b32ee395be84c45e0d05732fe7b472cb850cc2fb25008c9f23b970ead", func := "loop.example/g01363/laws.FnExactMultiplierOf", spec := "fnExactMultiplierOf", unfollowed := true, recurses := true, named := ["loop.example/g01363/impl.errNoList"], ifaces := true, apart := false, laid := [("loop.example/g01363/impl.errNoList", laid_loop_example_g01363_impl_errNoList)] }
def FnExactMultiplierOfSaid : Prop := fnExactMultiplierOfRow.holds Tryd.pinned (OpenSpec.ofChange fnExactMultiplierOfSpec)

/-- ITS FALSE NEIGHBOUR: 'it returns false'. Refute it at one input. -/
def fnExactMultiplierOfWrong : ChangeSpec := { name := "fnExactMultiplierOf", vars := ["loop.example/g01363/impl.errNoList"], fn := fun _ => fun
  | [d, g1] => { results := [.lit (.bool false)], args := [d], vars := [g1] }
  | _ => none }
def FnExactMultiplierOfWrongFalsely : Prop := fnExactMultiplierOfRow.holds Tryd.pinned (OpenSpec.ofChange fnExactMultiplierOfWrong)

/-- 'laws.FnExactModuleOfChoice': WHATEVER THE INPUT: true; the input reads as it did. -/
def fnExactModuleOfChoiceSpec : ChangeSpec := { name := "fnExactModuleOfChoice", fn := fun _ => fun
  | [d1, d2] => { results := [.lit (.bool true)], args := [d1, d2] }
  | _ => none }
def fnExactModuleOfChoiceRow : OpenClaim := { program := "ytcdijeeabgmgmaadoor", sum := "dc6c461b32ee395be84c45e0d05732fe7b472cb850cc2fb25008c9f23b970ead", func := "loop.example/g01363/laws.FnExactModuleOfChoice", spec := "fnExactModuleOfChoice", unfollowed := true, recurses := true, named := ["math/bits.deBruijn64tab"], apart := false, laid := [("math/bits.deBruijn64tab", laid_math_bits_deBruijn64tab)] }
def FnExactModuleOfChoiceSaid : Prop := fnExactModuleOfChoiceRow.holds Tryd.pinned (OpenSpec.ofChange fnExactModuleOfChoiceSpec)

/-- ITS FALSE NEIGHBOUR: 'it returns false'. Refute it at one input. -/
def fnExactModuleOfChoiceWrong : ChangeSpec := { name := "fnExactModuleOfChoice", fn := fun _ => fun
  | [d1, d2] => { results := [.lit (.bool false)], args := [d1, d2] }
  | _ => none }
def FnExactModuleOfChoiceWrongFalsely : Prop := fnExactModuleOfChoiceRow.holds Tryd.pinned (OpenSpec.ofChange fnExactModuleOfChoiceWrong)

/-- 'laws.FnExactFactorSetOfChoice': WHATEVER THE INPUT: true; the input reads as it did. -/
def fnExactFactorSetOfChoiceSpec : ChangeSpec := { name := "fnExactFactorSetOfChoice", vars := ["loop.example/g01363/impl.errNoList"], fn := fun _ => fun
  | [d1, d2, g1] => { results := [.lit (.bool true)], args := [d1, d2], vars := [g1] }
  | _ => none }
def fnExactFactorSetOfChoiceRow : OpenClaim := { program := "ytcdijeeabgmgmaadoor", sum := "dc6c461b32ee395be84c45e0d05732fe7b472cb850cc2fb25008c9f23b970ead", func := "loop.example/g01363/laws.FnExactFactorSetOfChoice", spec := "fnExactFactorSetOfChoice", unfollowed := true, recurses := true, named := ["math/bits.deBruijn64tab", "loop.example/g01363/impl.errNoList"], ifaces := true, apart := false, laid := [("math/bits.deBruijn64tab", laid_math_bits_deBruijn64tab), ("loop.example/g01363/impl.errNoList", laid_loop_example_g01363_impl_errNoList)] }
def FnExactFactorSetOfChoiceSaid : Prop := fnExactFactorSetOfChoiceRow.holds Tryd.pinned (OpenSpec.ofChange fnExactFactorSetOfChoiceSpec)

/-- ITS FALSE NEIGHBOUR: 'it returns false'. Refute it at one input. -/
def fnExactFactorSetOfChoiceWrong : ChangeSpec := { name := "fnExactFactorSetOfChoice", vars := ["loop.example/g01363/impl.errNoList"], fn := fun _ => fun
  | [d1, d2, g1] => { results := [.lit (.bool false)], args := [d1, d2], vars := [g1] }
  | _ => none }
def FnExactFactorSetOfChoiceWrongFalsely : Prop := fnExactFactorSetOfChoiceRow.holds Tryd.pinned (OpenSpec.ofChange fnExactFactorSetOfChoiceWrong)

/-- 'laws.FnExactCentreOfExtension': WHATEVER THE INPUT: true; the input reads as it did. -/
def fnExactCentreOfExtensionSpec : ChangeSpec := { name := "fnExactCentreOfExtension", vars := ["loop.example/g01363/impl.errNoList"], fn := fun _ => fun
  | [d1, d2, d3, g1] => { results := [.lit (.bool true)], args := [d1, d2, d3], vars := [g1] }
  | _ => none }
def fnExactCentreOfExtensionRow : OpenClaim := { program := "ytcdijeeabgmgmaadoor", sum := "dc6c461b32ee395be84c45e0d05732fe7b472cb850cc2fb25008c9f23b970ead", func := "loop.example/g01363/laws.FnExactCentreOfExtension", spec := "fnExactCentreOfExtension", unfollowed := true, recurses := true, named := ["loop.example/g01363/impl.errNoList", "math/bits.deBruijn64tab"], ifaces := true, apart := false, laid := [("math/bits.deBruijn64tab", laid_math_bits_deBruijn64tab), ("loop.example/g01363/impl.errNoList", laid_loop_example_g01363_impl_errNoList)] }
def FnExactCentreOfExtensionSaid : Prop := fnExactCentreOfExtensionRow.holds Tryd.pinned (OpenSpec.ofChange fnExactCentreOfExtensionSpec)

/-- ITS FALSE NEIGHBOUR: 'it returns false'. Refute it at one input. -/
def fnExactCentreOfExtensionWrong : ChangeSpec := { name := "fnExactCentreOfExtension", vars := ["loop.example/g01363/impl.errNoList"], fn := fun _ => fun
  | [d1, d2, d3, g1] => { results := [.lit (.bool false)], args := [d1, d2, d3], vars := [g1] }
  | _ => none }
def FnExactCentreOfExtensionWrongFalsely : Prop := fnExactCentreOfExtensionRow.holds Tryd.pinned (OpenSpec.ofChange fnExactCentreOfExtensionWrong)

/-- 'laws.FnExactSubgroupsOf': WHATEVER THE INPUT: true; the input reads as it did. -/
def fnExactSubgroupsOfSpec : ChangeSpec := { name := "fnExactSubgroupsOf", fn := fun _ => fun
  | [d] => { results := [.lit (.bool true)], args := [d] }
  | _ => none }
def fnExactSubgroupsOfRow : OpenClaim := { program := "ytcdijeeabgmgmaadoor", sum := "dc6c461b32ee395be84c45e0d05732fe7b472cb850cc2fb25008c9f23b970ead", func := "loop.example/g01363/laws.FnExactSubgroupsOf", spec := "fnExactSubgroupsOf", unfollowed := true, recurses := true, named := ["math/bits.deBruijn64tab"], apart := false, laid := [("math/bits.deBruijn64tab", laid_math_bits_deBruijn64tab)] }
def FnExactSubgroupsOfSaid : Prop := fnExactSubgroupsOfRow.holds Tryd.pinned (OpenSpec.ofChange fnExactSubgroupsOfSpec)

/-- ITS FALSE NEIGHBOUR: 'it returns false'. Refute it at one input. -/
def fnExactSubgroupsOfWrong : ChangeSpec := { name := "fnExactSubgroupsOf", fn := fun _ => fun
  | [d] => { results := [.lit (.bool false)], args := [d] }
  | _ => none }
def FnExactSubgroupsOfWrongFalsely : Prop := fnExactSubgroupsOfRow.holds Tryd.pinned (OpenSpec.ofChange fnExactSubgroupsOfWrong)

/-- 'laws.FnExactCocycleSteps': WHATEVER THE INPUT: true; the input reads as it did. -/
def fnExactCocycleStepsSpec : ChangeSpec := { name := "fnExactCocycleSteps", vars := ["loop.example/g01363/impl.errNoList"], fn := fun _ => fun
  | [d1, d2, d3, g1] => { results := [.lit (.bool true)], args := [d1, d2, d3], vars := [g1] }
  | _ => none }
def fnExactCocycleStepsRow : OpenClaim := { program := "ytcdijeeabgmgmaadoor", sum := "dc6c461b32ee395be84c45e0d05732fe7b472cb850cc2fb25008c9f23b970ead", func := "loop.example/g01363/laws.FnExactCocycleSteps", spec := "fnExactCocycleSteps", unfollowed := true, recurses := true, named := ["loop.example/g01363/impl.errNoList"], ifaces := true, apart := false, laid := [("loop.example/g01363/impl.errNoList", laid_loop_example_g01363_impl_errNoList)] }
def FnExactCocycleStepsSaid : Prop := fnExactCocycleStepsRow.holds Tryd.pinned (OpenSpec.ofChange fnExactCocycleStepsSpec)

/-- ITS FALSE NEIGHBOUR: 'it returns false'. Refute it at one input. -/
def fnExactCocycleStepsWrong : ChangeSpec := { name := "fnExactCocycleSteps", vars := ["loop.example/g01363/impl.errNoList"], fn := fun _ => fun
  | [d1, d2, d3, g1] => { results := [.lit (.bool false)], args := [d1, d2, d3], vars := [g1] }
  | _ => none }
def FnExactCocycleStepsWrongFalsely : Prop := fnExactCocycleStepsRow.holds Tryd.pinned (OpenSpec.ofChange fnExactCocycleStepsWrong)

/-- 'laws.FnExactBoundingSteps': WHATEVER THE INPUT: true; the input reads as it did. -/
def fnExactBoundingStepsSpec : ChangeSpec := { name := "fnExactBoundingSteps", vars := ["loop.example/g01363/impl.errNoList"], fn := fun _ => fun
  | [d1, d2, d3, g1] => { results := [.lit (.bool true)], args := [d1, d2, d3], vars := [g1] }
  | _ => none }
def fnExactBoundingStepsRow : OpenClaim := { program := "ytcdijeeabgmgmaadoor", sum := "dc6c461b32ee395be84c45e0d05732fe7b472cb850cc2fb25008c9f23b970ead", func := "loop.example/g01363/laws.FnExactBoundingSteps", spec := "fnExactBoundingSteps", unfollowed := true, recurses := true, named := ["loop.example/g01363/impl.errNoList"], ifaces := true, apart := false, laid := [("loop.example/g01363/impl.errNoList", laid_loop_example_g01363_impl_errNoList)] }
def FnExactBoundingStepsSaid : Prop := fnExactBoundingStepsRow.holds Tryd.pinned (OpenSpec.ofChange fnExactBoundingStepsSpec)

/-- ITS FALSE NEIGHBOUR: 'it returns false'. Refute it at one input. -/
def fnExactBoundingStepsWrong : ChangeSpec := { name := "fnExactBoundingSteps", vars := ["loop.example/g01363/impl.errNoList"], fn := fun _ => fun
  | [d1, d2, d3, g1] => { results := [.lit (.bool false)], args := [d1, d2, d3], vars := [g1] }
  | _ => none }
def FnExactBoundingStepsWrongFalsely : Prop := fnExactBoundingStepsRow.holds Tryd.pinned (OpenSpec.ofChange fnExactBoundingStepsWrong)

/- THE SECOND FORM. 'bulk': how many values and letters a reading holds, each counted each time it is reached (what is shared counts as often as it is met; a slice's spare places count too). A statement '..UptoSaid' is the law's where the arguments, and the package variables that the reading takes, are together of bulk at most 1048576: NARROWER than '..Said'. Prove '..Said' where nothing that the law and all that it calls make is longer than what came in: it says more and counts as full. Else prove '..UptoSaid'. A law counts once. -/
mutual
def uptoBulk {H : Type} : DataW H → Nat
  | .lit (.string bytes) => bytes.length + 1
  | .lit _ => 1
  | .nil => 1
  | .ptr d => uptoBulk d + 1
  | .slice elems spare => uptoBulkAll elems + uptoBulkAll spare + 1
  | .agg parts => uptoBulkAll parts + 1
  | .iface _ d => uptoBulk d + 1
  | .map entries => uptoBulkEntries entries + 1
  | .held _ => 1
def uptoBulkAll {H : Type} : List (DataW H) → Nat
  | [] => 0
  | d :: r => uptoBulk d + uptoBulkAll r
def uptoBulkEntries {H : Type} : List (Lit × DataW H) → Nat
  | [] => 0
  | x :: r => uptoBulkEntry x + uptoBulkEntries r
def uptoBulkEntry {H : Type} : Lit × DataW H → Nat
  | (.string bytes, d) => bytes.length + uptoBulk d + 1
  | (_, d) => uptoBulk d + 1
 end
def uptoSmall : (H : Type) → List (DataW H) → Bool := fun _ ds => decide (uptoBulkAll ds ≤ 1048576)
def OpenSpec.upto (s : _root_.Go.ChangeSpec) : _root_.Go.OpenSpec := { _root_.Go.OpenSpec.ofChange s with cond := some uptoSmall }

/-- 'laws.FnExactIsSymmetric', WHERE WHAT IT READS IS OF BULK AT MOST 1048576: true; the input reads as it did. -/
def fnExactIsSymmetricUptoRow : OpenClaim := { program := "ytcdijeeabgmgmaadoor", sum := "dc6c461b32ee395be84c45e0d05732fe7b472cb850cc2fb25008c9f23b970ead", func := "loop.example/g01363/laws.FnExactIsSymmetric", spec := "fnExactIsSymmetric", unfollowed := true, recurses := true, named := ["loop.example/g01363/impl.errNoList"], ifaces := true, apart := false, laid := [("loop.example/g01363/impl.errNoList", laid_loop_example_g01363_impl_errNoList)], narrowed := true }
def FnExactIsSymmetricUptoSaid : Prop := fnExactIsSymmetricUptoRow.holds Tryd.pinned (OpenSpec.upto fnExactIsSymmetricSpec)

/-- 'laws.FnExactFormOf', WHERE WHAT IT READS IS OF BULK AT MOST 1048576: true; the input reads as it did. -/
def fnExactFormOfUptoRow : OpenClaim := { program := "ytcdijeeabgmgmaadoor", sum := "dc6c461b32ee395be84c45e0d05732fe7b472cb850cc2fb25008c9f23b970ead", func := "loop.example/g01363/laws.FnExactFormOf", spec := "fnExactFormOf", unfollowed := true, recurses := true, named := ["loop.example/g01363/impl.errNoList"], ifaces := true, apart := false, laid := [("loop.example/g01363/impl.errNoList", laid_loop_example_g01363_impl_errNoList)], narrowed := true }
def FnExactFormOfUptoSaid : Prop := fnExactFormOfUptoRow.holds Tryd.pinned (OpenSpec.upto fnExactFormOfSpec)

/-- 'laws.FnExactAbelianInvariants', WHERE WHAT IT READS IS OF BULK AT MOST 1048576: true; the input reads as it did. -/
def fnExactAbelianInvariantsUptoRow : OpenClaim := { program := "ytcdijeeabgmgmaadoor", sum := "dc6c461b32ee395be84c45e0d05732fe7b472cb850cc2fb25008c9f23b970ead", func := "loop.example/g01363/laws.FnExactAbelianInvariants", spec := "fnExactAbelianInvariants", unfollowed := true, recurses := true, named := ["loop.example/g01363/impl.errNoList"], ifaces := true, apart := false, laid := [("loop.example/g01363/impl.errNoList", laid_loop_example_g01363_impl_errNoList)], narrowed := true }
def FnExactAbelianInvariantsUptoSaid : Prop := fnExactAbelianInvariantsUptoRow.holds Tryd.pinned (OpenSpec.upto fnExactAbelianInvariantsSpec)

/-- 'laws.FnExactMultiplierOf', WHERE WHAT IT READS IS OF BULK AT MOST 1048576: true; the input reads as it did. -/
def fnExactMultiplierOfUptoRow : OpenClaim := { program := "ytcdijeeabgmgmaadoor", sum := "dc6c461b32ee395be84c45e0d05732fe7b472cb850cc2fb25008c9f23b970ead", func := "loop.example/g01363/laws.FnExactMultiplierOf", spec := "fnExactMultiplierOf", unfollowed := true, recurses := true, named := ["loop.example/g01363/impl.errNoList"], ifaces := true, apart := false, laid := [("loop.example/g01363/impl.errNoList", laid_loop_example_g01363_impl_errNoList)], narrowed := true }
def FnExactMultiplierOfUptoSaid : Prop := fnExactMultiplierOfUptoRow.holds Tryd.pinned (OpenSpec.upto fnExactMultiplierOfSpec)

/-- 'laws.FnExactModuleOfChoice', WHERE WHAT IT READS IS OF BULK AT MOST 1048576: true; the input reads as it did. -/
def fnExactModuleOfChoiceUptoRow : OpenClaim := { program := "ytcdijeeabgmgmaadoor", sum := "dc6c461b32ee395be84c45e0d05732fe7b472cb850cc2fb25008c9f23b970ead", func := "loop.example/g01363/laws.FnExactModuleOfChoice", spec := "fnExactModuleOfChoice", unfollowed := true, recurses := true, named := ["math/bits.deBruijn64tab"], apart := false, laid := [("math/bits.deBruijn64tab", laid_math_bits_deBruijn64tab)], narrowed := true }
def FnExactModuleOfChoiceUptoSaid : Prop := fnExactModuleOfChoiceUptoRow.holds Tryd.pinned (OpenSpec.upto fnExactModuleOfChoiceSpec)

/-- 'laws.FnExactFactorSetOfChoice', WHERE WHAT IT READS IS OF BULK AT MOST 1048576: true; the input reads as it did. -/
def fnExactFactorSetOfChoiceUptoRow : OpenClaim := { program := "ytcdijeeabgmgmaadoor", sum := "dc6c461b32ee395be84c45e0d05732fe7b472cb850cc2fb25008c9f23b970ead", func := "loop.example/g01363/laws.FnExactFactorSetOfChoice", spec := "fnExactFactorSetOfChoice", unfollowed := true, recurses := true, named := ["math/bits.deBruijn64tab", "loop.example/g01363/impl.errNoList"], ifaces := true, apart := false, laid := [("math/bits.deBruijn64tab", laid_math_bits_deBruijn64tab), ("loop.example/g01363/impl.errNoList", laid_loop_example_g01363_impl_errNoList)], narrowed := true }
def FnExactFactorSetOfChoiceUptoSaid : Prop := fnExactFactorSetOfChoiceUptoRow.holds Tryd.pinned (OpenSpec.upto fnExactFactorSetOfChoiceSpec)

/-- 'laws.FnExactCentreOfExtension', WHERE WHAT IT READS IS OF BULK AT MOST 1048576: true; the input reads as it did. -/
def fnExactCentreOfExtensionUptoRow : OpenClaim := { program := "ytcdijeeabgmgmaadoor", sum := "dc6c461b32ee395be84c45e0d05732fe7b472cb850cc2fb25008c9f23b970ead", func := "loop.example/g01363/laws.FnExactCentreOfExtension", spec := "fnExactCentreOfExtension", unfollowed := true, recurses := true, named := ["loop.example/g01363/impl.errNoList", "math/bits.deBruijn64tab"], ifaces := true, apart := false, laid := [("math/bits.deBruijn64tab", laid_math_bits_deBruijn64tab), ("loop.example/g01363/impl.errNoList", laid_loop_example_g01363_impl_errNoList)], narrowed := true }
def FnExactCentreOfExtensionUptoSaid : Prop := fnExactCentreOfExtensionUptoRow.holds Tryd.pinned (OpenSpec.upto fnExactCentreOfExtensionSpec)

/-- 'laws.FnExactSubgroupsOf', WHERE WHAT IT READS IS OF BULK AT MOST 1048576: true; the input reads as it did. -/
def fnExactSubgroupsOfUptoRow : OpenClaim := { program := "ytcdijeeabgmgmaadoor", sum := "dc6c461b32ee395be84c45e0d05732fe7b472cb850cc2fb25008c9f23b970ead", func := "loop.example/g01363/laws.FnExactSubgroupsOf", spec := "fnExactSubgroupsOf", unfollowed := true, recurses := true, named := ["math/bits.deBruijn64tab"], apart := false, laid := [("math/bits.deBruijn64tab", laid_math_bits_deBruijn64tab)], narrowed := true }
def FnExactSubgroupsOfUptoSaid : Prop := fnExactSubgroupsOfUptoRow.holds Tryd.pinned (OpenSpec.upto fnExactSubgroupsOfSpec)

/-- 'laws.FnExactCocycleSteps', WHERE WHAT IT READS IS OF BULK AT MOST 1048576: true; the input reads as it did. -/
def fnExactCocycleStepsUptoRow : OpenClaim := { program := "ytcdijeeabgmgmaadoor", sum := "dc6c461b32ee395be84c45e0d05732fe7b472cb850cc2fb25008c9f23b970ead", func := "loop.example/g01363/laws.FnExactCocycleSteps", spec := "fnExactCocycleSteps", unfollowed := true, recurses := true, named := ["loop.example/g01363/impl.errNoList"], ifaces := true, apart := false, laid := [("loop.example/g01363/impl.errNoList", laid_loop_example_g01363_impl_errNoList)], narrowed := true }
def FnExactCocycleStepsUptoSaid : Prop := fnExactCocycleStepsUptoRow.holds Tryd.pinned (OpenSpec.upto fnExactCocycleStepsSpec)

/-- 'laws.FnExactBoundingSteps', WHERE WHAT IT READS IS OF BULK AT MOST 1048576: true; the input reads as it did. -/
def fnExactBoundingStepsUptoRow : OpenClaim := { program := "ytcdijeeabgmgmaadoor", sum := "dc6c461b32ee395be84c45e0d05732fe7b472cb850cc2fb25008c9f23b970ead", func := "loop.example/g01363/laws.FnExactBoundingSteps", spec := "fnExactBoundingSteps", unfollowed := true, recurses := true, named := ["loop.example/g01363/impl.errNoList"], ifaces := true, apart := false, laid := [("loop.example/g01363/impl.errNoList", laid_loop_example_g01363_impl_errNoList)], narrowed := true }
def FnExactBoundingStepsUptoSaid : Prop := fnExactBoundingStepsUptoRow.holds Tryd.pinned (OpenSpec.upto fnExactBoundingStepsSpec)

end Rows
end Go.Proofs.YtcdijeeabgmgmaaDoor
