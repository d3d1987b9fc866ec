/-
  NARROWER THAN 'FOR EVERY INPUT', by the rows' own cells (each row's printed sentence says how): FnExactParseModule: laid · FnExactBoundaryOf: ifaces, laid · FnExactIsCocycle: ifaces, laid · FnExactProductOfCochains: ifaces, laid · FnExactPullBack: ifaces, laid · FnExactMoveCochain: ifaces, laid · FnExactParseCochain: laid · FnExactCocycleSteps: ifaces, laid · FnExactBoundingSteps: ifaces, laid · FnExactInvariantsOf: ifaces, laid · FnExactOrderOfCohomology: ifaces, laid · FnExactIsBounding: ifaces, laid · FnExactLeastBounded: ifaces, laid.
  DERIVED. THE GIVEN ROWS OF THIS SEAT. 13 by the template 'for every input the law returns true; each argument reads behind the call as it read before'; 0 by the template 'total and deterministic' (their statements: YtilhnmclleiodaaDoorTotals.lean).
  GIVEN WITH THE SEED: the statements are not yours to turn. If you find one false, say at which input.
  Laid BY PROGRAM, IN A SANDBOX (cutbox-rows.mjs): the forced cells as the released guide's own fill.sh prints them over the translation c31a979b41397d79… (all of the seat's roots in one cut). By AI agents, Wed Nov 11 2026. No macro, syntax, notation, axiom, sorry.
-/
import Derived.Test.YtilhnmclleiodaaDoorChecked
import GoSem.PinnedTables
import GoSem.Claim
import GoSem.ClaimJoined
import GoSem.ClaimMapViews
import Derived.JoinedTies
import Derived.KernelRfl
namespace Go.Proofs.YtilhnmclleiodaaDoor
/- THE CELL 'sum', in the pinned program and in every row, IS THE sha256 OF THE DUMP (.gsa) THAT YtilhnmclleiodaaDoorProg.lean LOADS. Nothing in Lean hashes anything: it is a label: what it is worth is what the hold of that sum in a sandbox is worth. -/
noncomputable def Tryd.pinned : Pinned := { name := "ytilhnmclleiodaadoor", sum := "c31a979b41397d79747146bf3b2fa6b80ea1fd41b0d6aac105f69c775b71329c", checked := Tryd.checked }
namespace Rows
def none {H : Type} : Left H := { results := [], args := [] }

/- WHAT THE LISTED PACKAGE-LEVEL VARIABLES READ AS WHEN THE CALL BEGINS. Each datum BY PROGRAM (the guide's laid-datum.mjs) off the statement by which the dump's own 'gosem.cut.vars' lays the variable. In a bare row this is a premise. The card (YtilhnmclleiodaaDoorCards.lean) ties it to the program's text. -/
def laid_unicode_utf8_acceptRanges {H : Type} : DataW H := .agg [.agg [.lit (.int .u8 128), .lit (.int .u8 191)], .agg [.lit (.int .u8 160), .lit (.int .u8 191)], .agg [.lit (.int .u8 128), .lit (.int .u8 159)], .agg [.lit (.int .u8 144), .lit (.int .u8 191)], .agg [.lit (.int .u8 128), .lit (.int .u8 143)], .agg [.lit (.int .u8 0), .lit (.int .u8 0)], .agg [.lit (.int .u8 0), .lit (.int .u8 0)], .agg [.lit (.int .u8 0), .lit (.int .u8 0)], .agg [.lit (.int .u8 0), .lit (.int .u8 0)], .agg [.lit (.int .u8 0), .lit (.int .u8 0)], .agg [.lit (.int .u8 0), .lit (.int .u8 0)], .agg [.lit (.int .u8 0), .lit (.int .u8 0)], .agg [.lit (.int .u8 0), .lit (.int .u8 0)], .agg [.lit (.int .u8 0), .lit (.int .u8 0)], .agg [.lit (.int .u8 0), .lit (.int .u8 0)], .agg [.lit (.int .u8 0), .lit (.int .u8 0)]]
/-- One of Go's own tables, pinned by name: the form's constant. -/
def laid_unicode_utf8_first : DataW Unit := Go.Pinned.utf8First
def laid_loop_example_g01363_impl_errNoList {H : Type} : DataW H := .iface "*errors.errorString" (.ptr (.agg [.lit (.string [110, 111, 32, 108, 105, 115, 116, 32, 111, 102, 32, 101, 108, 101, 109, 101, 110, 116, 115, 32, 111, 102, 32, 116, 104, 101, 32, 103, 114, 111, 117, 112])]))

/-- 'laws.FnExactParseModule': WHATEVER THE INPUT: true; the input reads as it did. -/
def fnExactParseModuleSpec : ChangeSpec := { name := "fnExactParseModule", fn := fun _ => fun
  | [d1, d2] => { results := [.lit (.bool true)], args := [d1, d2] }
  | _ => none }
def fnExactParseModuleRow : OpenClaim := { program := "ytilhnmclleiodaadoor", sum := "c31a979b41397d79747146bf3b2fa6b80ea1fd41b0d6aac105f69c775b71329c", func := "loop.example/g01363/laws.FnExactParseModule", spec := "fnExactParseModule", inPlace := ["internal/bytealg.IndexByteString", "internal/bytealg.IndexString", "internal/bytealg.CountString"], unfollowed := true, recurses := true, named := ["internal/bytealg.MaxLen", "unicode/utf8.first", "unicode/utf8.acceptRanges"], plainKeys := false, apart := false, laid := [("unicode/utf8.acceptRanges", laid_unicode_utf8_acceptRanges), ("unicode/utf8.first", laid_unicode_utf8_first)] }
def FnExactParseModuleSaid : Prop := fnExactParseModuleRow.holds Tryd.pinned (OpenSpec.ofChange fnExactParseModuleSpec)

/-- ITS FALSE NEIGHBOUR: 'it returns false'. Refute it at one input. -/
def fnExactParseModuleWrong : ChangeSpec := { name := "fnExactParseModule", fn := fun _ => fun
  | [d1, d2] => { results := [.lit (.bool false)], args := [d1, d2] }
  | _ => none }
def FnExactParseModuleWrongFalsely : Prop := fnExactParseModuleRow.holds Tryd.pinned (OpenSpec.ofChange fnExactParseModuleWrong)

/-- 'laws.FnExactBoundaryOf': WHATEVER THE INPUT: true; the input reads as it did. -/
def fnExactBoundaryOfSpec : ChangeSpec := { name := "fnExactBoundaryOf", vars := ["loop.example/g01363/impl.errNoList"], fn := fun _ => fun
  | [d1, d2, d3, g1] => { results := [.lit (.bool true)], args := [d1, d2, d3], vars := [g1] }
  | _ => none }
def fnExactBoundaryOfRow : OpenClaim := { program := "ytilhnmclleiodaadoor", sum := "c31a979b41397d79747146bf3b2fa6b80ea1fd41b0d6aac105f69c775b71329c", func := "loop.example/g01363/laws.FnExactBoundaryOf", spec := "fnExactBoundaryOf", unfollowed := true, recurses := true, named := ["loop.example/g01363/impl.errNoList"], ifaces := true, plainKeys := false, apart := false, laid := [("loop.example/g01363/impl.errNoList", laid_loop_example_g01363_impl_errNoList)] }
def FnExactBoundaryOfSaid : Prop := fnExactBoundaryOfRow.holds Tryd.pinned (OpenSpec.ofChange fnExactBoundaryOfSpec)

/-- ITS FALSE NEIGHBOUR: 'it returns false'. Refute it at one input. -/
def fnExactBoundaryOfWrong : ChangeSpec := { name := "fnExactBoundaryOf", vars := ["loop.example/g01363/impl.errNoList"], fn := fun _ => fun
  | [d1, d2, d3, g1] => { results := [.lit (.bool false)], args := [d1, d2, d3], vars := [g1] }
  | _ => none }
def FnExactBoundaryOfWrongFalsely : Prop := fnExactBoundaryOfRow.holds Tryd.pinned (OpenSpec.ofChange fnExactBoundaryOfWrong)

/-- 'laws.FnExactIsCocycle': WHATEVER THE INPUT: true; the input reads as it did. -/
def fnExactIsCocycleSpec : ChangeSpec := { name := "fnExactIsCocycle", vars := ["loop.example/g01363/impl.errNoList"], fn := fun _ => fun
  | [d1, d2, d3, g1] => { results := [.lit (.bool true)], args := [d1, d2, d3], vars := [g1] }
  | _ => none }
def fnExactIsCocycleRow : OpenClaim := { program := "ytilhnmclleiodaadoor", sum := "c31a979b41397d79747146bf3b2fa6b80ea1fd41b0d6aac105f69c775b71329c", func := "loop.example/g01363/laws.FnExactIsCocycle", spec := "fnExactIsCocycle", unfollowed := true, recurses := true, named := ["loop.example/g01363/impl.errNoList"], ifaces := true, plainKeys := false, apart := false, laid := [("loop.example/g01363/impl.errNoList", laid_loop_example_g01363_impl_errNoList)] }
def FnExactIsCocycleSaid : Prop := fnExactIsCocycleRow.holds Tryd.pinned (OpenSpec.ofChange fnExactIsCocycleSpec)

/-- ITS FALSE NEIGHBOUR: 'it returns false'. Refute it at one input. -/
def fnExactIsCocycleWrong : ChangeSpec := { name := "fnExactIsCocycle", vars := ["loop.example/g01363/impl.errNoList"], fn := fun _ => fun
  | [d1, d2, d3, g1] => { results := [.lit (.bool false)], args := [d1, d2, d3], vars := [g1] }
  | _ => none }
def FnExactIsCocycleWrongFalsely : Prop := fnExactIsCocycleRow.holds Tryd.pinned (OpenSpec.ofChange fnExactIsCocycleWrong)

/-- 'laws.FnExactProductOfCochains': WHATEVER THE INPUT: true; the input reads as it did. -/
def fnExactProductOfCochainsSpec : ChangeSpec := { name := "fnExactProductOfCochains", vars := ["loop.example/g01363/impl.errNoList"], fn := fun _ => fun
  | [d1, d2, d3, d4, d5, g1] => { results := [.lit (.bool true)], args := [d1, d2, d3, d4, d5], vars := [g1] }
  | _ => none }
def fnExactProductOfCochainsRow : OpenClaim := { program := "ytilhnmclleiodaadoor", sum := "c31a979b41397d79747146bf3b2fa6b80ea1fd41b0d6aac105f69c775b71329c", func := "loop.example/g01363/laws.FnExactProductOfCochains", spec := "fnExactProductOfCochains", unfollowed := true, recurses := true, named := ["loop.example/g01363/impl.errNoList"], ifaces := true, plainKeys := false, apart := false, laid := [("loop.example/g01363/impl.errNoList", laid_loop_example_g01363_impl_errNoList)] }
def FnExactProductOfCochainsSaid : Prop := fnExactProductOfCochainsRow.holds Tryd.pinned (OpenSpec.ofChange fnExactProductOfCochainsSpec)

/-- ITS FALSE NEIGHBOUR: 'it returns false'. Refute it at one input. -/
def fnExactProductOfCochainsWrong : ChangeSpec := { name := "fnExactProductOfCochains", vars := ["loop.example/g01363/impl.errNoList"], fn := fun _ => fun
  | [d1, d2, d3, d4, d5, g1] => { results := [.lit (.bool false)], args := [d1, d2, d3, d4, d5], vars := [g1] }
  | _ => none }
def FnExactProductOfCochainsWrongFalsely : Prop := fnExactProductOfCochainsRow.holds Tryd.pinned (OpenSpec.ofChange fnExactProductOfCochainsWrong)

/-- 'laws.FnExactPullBack': WHATEVER THE INPUT: true; the input reads as it did. -/
def fnExactPullBackSpec : ChangeSpec := { name := "fnExactPullBack", vars := ["loop.example/g01363/impl.errNoList"], fn := fun _ => fun
  | [d1, d2, d3, d4, d5, g1] => { results := [.lit (.bool true)], args := [d1, d2, d3, d4, d5], vars := [g1] }
  | _ => none }
def fnExactPullBackRow : OpenClaim := { program := "ytilhnmclleiodaadoor", sum := "c31a979b41397d79747146bf3b2fa6b80ea1fd41b0d6aac105f69c775b71329c", func := "loop.example/g01363/laws.FnExactPullBack", spec := "fnExactPullBack", unfollowed := true, recurses := true, named := ["loop.example/g01363/impl.errNoList"], ifaces := true, plainKeys := false, apart := false, laid := [("loop.example/g01363/impl.errNoList", laid_loop_example_g01363_impl_errNoList)] }
def FnExactPullBackSaid : Prop := fnExactPullBackRow.holds Tryd.pinned (OpenSpec.ofChange fnExactPullBackSpec)

/-- ITS FALSE NEIGHBOUR: 'it returns false'. Refute it at one input. -/
def fnExactPullBackWrong : ChangeSpec := { name := "fnExactPullBack", vars := ["loop.example/g01363/impl.errNoList"], fn := fun _ => fun
  | [d1, d2, d3, d4, d5, g1] => { results := [.lit (.bool false)], args := [d1, d2, d3, d4, d5], vars := [g1] }
  | _ => none }
def FnExactPullBackWrongFalsely : Prop := fnExactPullBackRow.holds Tryd.pinned (OpenSpec.ofChange fnExactPullBackWrong)

/-- 'laws.FnExactMoveCochain': WHATEVER THE INPUT: true; the input reads as it did. -/
def fnExactMoveCochainSpec : ChangeSpec := { name := "fnExactMoveCochain", vars := ["loop.example/g01363/impl.errNoList"], fn := fun _ => fun
  | [d1, d2, d3, d4, g1] => { results := [.lit (.bool true)], args := [d1, d2, d3, d4], vars := [g1] }
  | _ => none }
def fnExactMoveCochainRow : OpenClaim := { program := "ytilhnmclleiodaadoor", sum := "c31a979b41397d79747146bf3b2fa6b80ea1fd41b0d6aac105f69c775b71329c", func := "loop.example/g01363/laws.FnExactMoveCochain", spec := "fnExactMoveCochain", unfollowed := true, recurses := true, named := ["loop.example/g01363/impl.errNoList"], ifaces := true, plainKeys := false, apart := false, laid := [("loop.example/g01363/impl.errNoList", laid_loop_example_g01363_impl_errNoList)] }
def FnExactMoveCochainSaid : Prop := fnExactMoveCochainRow.holds Tryd.pinned (OpenSpec.ofChange fnExactMoveCochainSpec)

/-- ITS FALSE NEIGHBOUR: 'it returns false'. Refute it at one input. -/
def fnExactMoveCochainWrong : ChangeSpec := { name := "fnExactMoveCochain", vars := ["loop.example/g01363/impl.errNoList"], fn := fun _ => fun
  | [d1, d2, d3, d4, g1] => { results := [.lit (.bool false)], args := [d1, d2, d3, d4], vars := [g1] }
  | _ => none }
def FnExactMoveCochainWrongFalsely : Prop := fnExactMoveCochainRow.holds Tryd.pinned (OpenSpec.ofChange fnExactMoveCochainWrong)

/-- 'laws.FnExactParseCochain': WHATEVER THE INPUT: true; the input reads as it did. -/
def fnExactParseCochainSpec : ChangeSpec := { name := "fnExactParseCochain", fn := fun _ => fun
  | [d1, d2, d3] => { results := [.lit (.bool true)], args := [d1, d2, d3] }
  | _ => none }
def fnExactParseCochainRow : OpenClaim := { program := "ytilhnmclleiodaadoor", sum := "c31a979b41397d79747146bf3b2fa6b80ea1fd41b0d6aac105f69c775b71329c", func := "loop.example/g01363/laws.FnExactParseCochain", spec := "fnExactParseCochain", inPlace := ["internal/bytealg.IndexByteString", "internal/bytealg.IndexString", "internal/bytealg.CountString"], unfollowed := true, recurses := true, named := ["internal/bytealg.MaxLen", "unicode/utf8.first", "unicode/utf8.acceptRanges"], plainKeys := false, apart := false, laid := [("unicode/utf8.acceptRanges", laid_unicode_utf8_acceptRanges), ("unicode/utf8.first", laid_unicode_utf8_first)] }
def FnExactParseCochainSaid : Prop := fnExactParseCochainRow.holds Tryd.pinned (OpenSpec.ofChange fnExactParseCochainSpec)

/-- ITS FALSE NEIGHBOUR: 'it returns false'. Refute it at one input. -/
def fnExactParseCochainWrong : ChangeSpec := { name := "fnExactParseCochain", fn := fun _ => fun
  | [d1, d2, d3] => { results := [.lit (.bool false)], args := [d1, d2, d3] }
  | _ => none }
def FnExactParseCochainWrongFalsely : Prop := fnExactParseCochainRow.holds Tryd.pinned (OpenSpec.ofChange fnExactParseCochainWrong)

/-- 'laws.FnExactCocycleSteps': WHATEVER THE INPUT: true; the input reads as it did. -/
def fnExactCocycleStepsSpec : ChangeSpec := { name := "fnExactCocycleSteps", vars := ["loop.example/g01363/impl.errNoList"], fn := fun _ => fun
  | [d1, d2, d3, g1] => { results := [.lit (.bool true)], args := [d1, d2, d3], vars := [g1] }
  | _ => none }
def fnExactCocycleStepsRow : OpenClaim := { program := "ytilhnmclleiodaadoor", sum := "c31a979b41397d79747146bf3b2fa6b80ea1fd41b0d6aac105f69c775b71329c", func := "loop.example/g01363/laws.FnExactCocycleSteps", spec := "fnExactCocycleSteps", unfollowed := true, recurses := true, named := ["loop.example/g01363/impl.errNoList"], ifaces := true, plainKeys := false, apart := false, laid := [("loop.example/g01363/impl.errNoList", laid_loop_example_g01363_impl_errNoList)] }
def FnExactCocycleStepsSaid : Prop := fnExactCocycleStepsRow.holds Tryd.pinned (OpenSpec.ofChange fnExactCocycleStepsSpec)

/-- ITS FALSE NEIGHBOUR: 'it returns false'. Refute it at one input. -/
def fnExactCocycleStepsWrong : ChangeSpec := { name := "fnExactCocycleSteps", vars := ["loop.example/g01363/impl.errNoList"], fn := fun _ => fun
  | [d1, d2, d3, g1] => { results := [.lit (.bool false)], args := [d1, d2, d3], vars := [g1] }
  | _ => none }
def FnExactCocycleStepsWrongFalsely : Prop := fnExactCocycleStepsRow.holds Tryd.pinned (OpenSpec.ofChange fnExactCocycleStepsWrong)

/-- 'laws.FnExactBoundingSteps': WHATEVER THE INPUT: true; the input reads as it did. -/
def fnExactBoundingStepsSpec : ChangeSpec := { name := "fnExactBoundingSteps", vars := ["loop.example/g01363/impl.errNoList"], fn := fun _ => fun
  | [d1, d2, d3, g1] => { results := [.lit (.bool true)], args := [d1, d2, d3], vars := [g1] }
  | _ => none }
def fnExactBoundingStepsRow : OpenClaim := { program := "ytilhnmclleiodaadoor", sum := "c31a979b41397d79747146bf3b2fa6b80ea1fd41b0d6aac105f69c775b71329c", func := "loop.example/g01363/laws.FnExactBoundingSteps", spec := "fnExactBoundingSteps", unfollowed := true, recurses := true, named := ["loop.example/g01363/impl.errNoList"], ifaces := true, plainKeys := false, apart := false, laid := [("loop.example/g01363/impl.errNoList", laid_loop_example_g01363_impl_errNoList)] }
def FnExactBoundingStepsSaid : Prop := fnExactBoundingStepsRow.holds Tryd.pinned (OpenSpec.ofChange fnExactBoundingStepsSpec)

/-- ITS FALSE NEIGHBOUR: 'it returns false'. Refute it at one input. -/
def fnExactBoundingStepsWrong : ChangeSpec := { name := "fnExactBoundingSteps", vars := ["loop.example/g01363/impl.errNoList"], fn := fun _ => fun
  | [d1, d2, d3, g1] => { results := [.lit (.bool false)], args := [d1, d2, d3], vars := [g1] }
  | _ => none }
def FnExactBoundingStepsWrongFalsely : Prop := fnExactBoundingStepsRow.holds Tryd.pinned (OpenSpec.ofChange fnExactBoundingStepsWrong)

/-- 'laws.FnExactInvariantsOf': WHATEVER THE INPUT: true; the input reads as it did. -/
def fnExactInvariantsOfSpec : ChangeSpec := { name := "fnExactInvariantsOf", vars := ["loop.example/g01363/impl.errNoList"], fn := fun _ => fun
  | [d1, d2, d3, g1] => { results := [.lit (.bool true)], args := [d1, d2, d3], vars := [g1] }
  | _ => none }
def fnExactInvariantsOfRow : OpenClaim := { program := "ytilhnmclleiodaadoor", sum := "c31a979b41397d79747146bf3b2fa6b80ea1fd41b0d6aac105f69c775b71329c", func := "loop.example/g01363/laws.FnExactInvariantsOf", spec := "fnExactInvariantsOf", unfollowed := true, recurses := true, named := ["loop.example/g01363/impl.errNoList"], ifaces := true, plainKeys := false, apart := false, laid := [("loop.example/g01363/impl.errNoList", laid_loop_example_g01363_impl_errNoList)] }
def FnExactInvariantsOfSaid : Prop := fnExactInvariantsOfRow.holds Tryd.pinned (OpenSpec.ofChange fnExactInvariantsOfSpec)

/-- ITS FALSE NEIGHBOUR: 'it returns false'. Refute it at one input. -/
def fnExactInvariantsOfWrong : ChangeSpec := { name := "fnExactInvariantsOf", vars := ["loop.example/g01363/impl.errNoList"], fn := fun _ => fun
  | [d1, d2, d3, g1] => { results := [.lit (.bool false)], args := [d1, d2, d3], vars := [g1] }
  | _ => none }
def FnExactInvariantsOfWrongFalsely : Prop := fnExactInvariantsOfRow.holds Tryd.pinned (OpenSpec.ofChange fnExactInvariantsOfWrong)

/-- 'laws.FnExactOrderOfCohomology': WHATEVER THE INPUT: true; the input reads as it did. -/
def fnExactOrderOfCohomologySpec : ChangeSpec := { name := "fnExactOrderOfCohomology", vars := ["loop.example/g01363/impl.errNoList"], fn := fun _ => fun
  | [d1, d2, d3, g1] => { results := [.lit (.bool true)], args := [d1, d2, d3], vars := [g1] }
  | _ => none }
def fnExactOrderOfCohomologyRow : OpenClaim := { program := "ytilhnmclleiodaadoor", sum := "c31a979b41397d79747146bf3b2fa6b80ea1fd41b0d6aac105f69c775b71329c", func := "loop.example/g01363/laws.FnExactOrderOfCohomology", spec := "fnExactOrderOfCohomology", unfollowed := true, recurses := true, named := ["loop.example/g01363/impl.errNoList"], ifaces := true, plainKeys := false, apart := false, laid := [("loop.example/g01363/impl.errNoList", laid_loop_example_g01363_impl_errNoList)] }
def FnExactOrderOfCohomologySaid : Prop := fnExactOrderOfCohomologyRow.holds Tryd.pinned (OpenSpec.ofChange fnExactOrderOfCohomologySpec)

/-- ITS FALSE NEIGHBOUR: 'it returns false'. Refute it at one input. -/
def fnExactOrderOfCohomologyWrong : ChangeSpec := { name := "fnExactOrderOfCohomology", vars := ["loop.example/g01363/impl.errNoList"], fn := fun _ => fun
  | [d1, d2, d3, g1] => { results := [.lit (.bool false)], args := [d1, d2, d3], vars := [g1] }
  | _ => none }
def FnExactOrderOfCohomologyWrongFalsely : Prop := fnExactOrderOfCohomologyRow.holds Tryd.pinned (OpenSpec.ofChange fnExactOrderOfCohomologyWrong)

/-- 'laws.FnExactIsBounding': WHATEVER THE INPUT: true; the input reads as it did. -/
def fnExactIsBoundingSpec : ChangeSpec := { name := "fnExactIsBounding", vars := ["loop.example/g01363/impl.errNoList"], fn := fun _ => fun
  | [d1, d2, d3, g1] => { results := [.lit (.bool true)], args := [d1, d2, d3], vars := [g1] }
  | _ => none }
def fnExactIsBoundingRow : OpenClaim := { program := "ytilhnmclleiodaadoor", sum := "c31a979b41397d79747146bf3b2fa6b80ea1fd41b0d6aac105f69c775b71329c", func := "loop.example/g01363/laws.FnExactIsBounding", spec := "fnExactIsBounding", unfollowed := true, recurses := true, named := ["loop.example/g01363/impl.errNoList"], ifaces := true, plainKeys := false, apart := false, laid := [("loop.example/g01363/impl.errNoList", laid_loop_example_g01363_impl_errNoList)] }
def FnExactIsBoundingSaid : Prop := fnExactIsBoundingRow.holds Tryd.pinned (OpenSpec.ofChange fnExactIsBoundingSpec)

/-- ITS FALSE NEIGHBOUR: 'it returns false'. Refute it at one input. -/
def fnExactIsBoundingWrong : ChangeSpec := { name := "fnExactIsBounding", vars := ["loop.example/g01363/impl.errNoList"], fn := fun _ => fun
  | [d1, d2, d3, g1] => { results := [.lit (.bool false)], args := [d1, d2, d3], vars := [g1] }
  | _ => none }
def FnExactIsBoundingWrongFalsely : Prop := fnExactIsBoundingRow.holds Tryd.pinned (OpenSpec.ofChange fnExactIsBoundingWrong)

/-- 'laws.FnExactLeastBounded': WHATEVER THE INPUT: true; the input reads as it did. -/
def fnExactLeastBoundedSpec : ChangeSpec := { name := "fnExactLeastBounded", vars := ["loop.example/g01363/impl.errNoList"], fn := fun _ => fun
  | [d1, d2, d3, g1] => { results := [.lit (.bool true)], args := [d1, d2, d3], vars := [g1] }
  | _ => none }
def fnExactLeastBoundedRow : OpenClaim := { program := "ytilhnmclleiodaadoor", sum := "c31a979b41397d79747146bf3b2fa6b80ea1fd41b0d6aac105f69c775b71329c", func := "loop.example/g01363/laws.FnExactLeastBounded", spec := "fnExactLeastBounded", unfollowed := true, recurses := true, named := ["loop.example/g01363/impl.errNoList"], ifaces := true, plainKeys := false, apart := false, laid := [("loop.example/g01363/impl.errNoList", laid_loop_example_g01363_impl_errNoList)] }
def FnExactLeastBoundedSaid : Prop := fnExactLeastBoundedRow.holds Tryd.pinned (OpenSpec.ofChange fnExactLeastBoundedSpec)

/-- ITS FALSE NEIGHBOUR: 'it returns false'. Refute it at one input. -/
def fnExactLeastBoundedWrong : ChangeSpec := { name := "fnExactLeastBounded", vars := ["loop.example/g01363/impl.errNoList"], fn := fun _ => fun
  | [d1, d2, d3, g1] => { results := [.lit (.bool false)], args := [d1, d2, d3], vars := [g1] }
  | _ => none }
def FnExactLeastBoundedWrongFalsely : Prop := fnExactLeastBoundedRow.holds Tryd.pinned (OpenSpec.ofChange fnExactLeastBoundedWrong)

/- THE SECOND FORM. 'bulk': how many values and letters a reading holds, each counted each time it is reached (what is shared counts as often as it is met; a slice's spare places count too). A statement '..UptoSaid' is the law's where the arguments, and the package variables that the reading takes, are together of bulk at most 1048576: NARROWER than '..Said'. Prove '..Said' where nothing that the law and all that it calls make is longer than what came in: it says more and counts as full. Else prove '..UptoSaid'. A law counts once. -/
mutual
def uptoBulk {H : Type} : DataW H → Nat
  | .lit (.string bytes) => bytes.length + 1
  | .lit _ => 1
  | .nil => 1
  | .ptr d => uptoBulk d + 1
  | .slice elems spare => uptoBulkAll elems + uptoBulkAll spare + 1
  | .agg parts => uptoBulkAll parts + 1
  | .iface _ d => uptoBulk d + 1
  | .map entries => uptoBulkEntries entries + 1
  | .held _ => 1
def uptoBulkAll {H : Type} : List (DataW H) → Nat
  | [] => 0
  | d :: r => uptoBulk d + uptoBulkAll r
def uptoBulkEntries {H : Type} : List (Lit × DataW H) → Nat
  | [] => 0
  | x :: r => uptoBulkEntry x + uptoBulkEntries r
def uptoBulkEntry {H : Type} : Lit × DataW H → Nat
  | (.string bytes, d) => bytes.length + uptoBulk d + 1
  | (_, d) => uptoBulk d + 1
 end
def uptoSmall : (H : Type) → List (DataW H) → Bool := fun _ ds => decide (uptoBulkAll ds ≤ 1048576)
def OpenSpec.upto (s : _root_.Go.ChangeSpec) : _root_.Go.OpenSpec := { _root_.Go.OpenSpec.ofChange s with cond := some uptoSmall }

/-- 'laws.FnExactParseModule', WHERE WHAT IT READS IS OF BULK AT MOST 1048576: true; the input reads as it did. -/
def fnExactParseModuleUptoRow : OpenClaim := { program := "ytilhnmclleiodaadoor", sum := "c31a979b41397d79747146bf3b2fa6b80ea1fd41b0d6aac105f69c775b71329c", func := "loop.example/g01363/laws.FnExactParseModule", spec := "fnExactParseModule", inPlace := ["internal/bytealg.IndexByteString", "internal/bytealg.IndexString", "internal/bytealg.CountString"], unfollowed := true, recurses := true, named := ["internal/bytealg.MaxLen", "unicode/utf8.first", "unicode/utf8.acceptRanges"], plainKeys := false, apart := false, laid := [("unicode/utf8.acceptRanges", laid_unicode_utf8_acceptRanges), ("unicode/utf8.first", laid_unicode_utf8_first)], narrowed := true }
def FnExactParseModuleUptoSaid : Prop := fnExactParseModuleUptoRow.holds Tryd.pinned (OpenSpec.upto fnExactParseModuleSpec)

/-- 'laws.FnExactBoundaryOf', WHERE WHAT IT READS IS OF BULK AT MOST 1048576: true; the input reads as it did. -/
def fnExactBoundaryOfUptoRow : OpenClaim := { program := "ytilhnmclleiodaadoor", sum := "c31a979b41397d79747146bf3b2fa6b80ea1fd41b0d6aac105f69c775b71329c", func := "loop.example/g01363/laws.FnExactBoundaryOf", spec := "fnExactBoundaryOf", unfollowed := true, recurses := true, named := ["loop.example/g01363/impl.errNoList"], ifaces := true, plainKeys := false, apart := false, laid := [("loop.example/g01363/impl.errNoList", laid_loop_example_g01363_impl_errNoList)], narrowed := true }
def FnExactBoundaryOfUptoSaid : Prop := fnExactBoundaryOfUptoRow.holds Tryd.pinned (OpenSpec.upto fnExactBoundaryOfSpec)

/-- 'laws.FnExactIsCocycle', WHERE WHAT IT READS IS OF BULK AT MOST 1048576: true; the input reads as it did. -/
def fnExactIsCocycleUptoRow : OpenClaim := { program := "ytilhnmclleiodaadoor", sum := "c31a979b41397d79747146bf3b2fa6b80ea1fd41b0d6aac105f69c775b71329c", func := "loop.example/g01363/laws.FnExactIsCocycle", spec := "fnExactIsCocycle", unfollowed := true, recurses := true, named := ["loop.example/g01363/impl.errNoList"], ifaces := true, plainKeys := false, apart := false, laid := [("loop.example/g01363/impl.errNoList", laid_loop_example_g01363_impl_errNoList)], narrowed := true }
def FnExactIsCocycleUptoSaid : Prop := fnExactIsCocycleUptoRow.holds Tryd.pinned (OpenSpec.upto fnExactIsCocycleSpec)

/-- 'laws.FnExactProductOfCochains', WHERE WHAT IT READS IS OF BULK AT MOST 1048576: true; the input reads as it did. -/
def fnExactProductOfCochainsUptoRow : OpenClaim := { program := "ytilhnmclleiodaadoor", sum := "c31a979b41397d79747146bf3b2fa6b80ea1fd41b0d6aac105f69c775b71329c", func := "loop.example/g01363/laws.FnExactProductOfCochains", spec := "fnExactProductOfCochains", unfollowed := true, recurses := true, named := ["loop.example/g01363/impl.errNoList"], ifaces := true, plainKeys := false, apart := false, laid := [("loop.example/g01363/impl.errNoList", laid_loop_example_g01363_impl_errNoList)], narrowed := true }
def FnExactProductOfCochainsUptoSaid : Prop := fnExactProductOfCochainsUptoRow.holds Tryd.pinned (OpenSpec.upto fnExactProductOfCochainsSpec)

/-- 'laws.FnExactPullBack', WHERE WHAT IT READS IS OF BULK AT MOST 1048576: true; the input reads as it did. -/
def fnExactPullBackUptoRow : OpenClaim := { program := "ytilhnmclleiodaadoor", sum := "c31a979b41397d79747146bf3b2fa6b80ea1fd41b0d6aac105f69c775b71329c", func := "loop.example/g01363/laws.FnExactPullBack", spec := "fnExactPullBack", unfollowed := true, recurses := true, named := ["loop.example/g01363/impl.errNoList"], ifaces := true, plainKeys := false, apart := false, laid := [("loop.example/g01363/impl.errNoList", laid_loop_example_g01363_impl_errNoList)], narrowed := true }
def FnExactPullBackUptoSaid : Prop := fnExactPullBackUptoRow.holds Tryd.pinned (OpenSpec.upto fnExactPullBackSpec)

/-- 'laws.FnExactMoveCochain', WHERE WHAT IT READS IS OF BULK AT MOST 1048576: true; the input reads as it did. -/
def fnExactMoveCochainUptoRow : OpenClaim := { program := "ytilhnmclleiodaadoor", sum := "c31a979b41397d79747146bf3b2fa6b80ea1fd41b0d6aac105f69c775b71329c", func := "loop.example/g01363/laws.FnExactMoveCochain", spec := "fnExactMoveCochain", unfollowed := true, recurses := true, named := ["loop.example/g01363/impl.errNoList"], ifaces := true, plainKeys := false, apart := false, laid := [("loop.example/g01363/impl.errNoList", laid_loop_example_g01363_impl_errNoList)], narrowed := true }
def FnExactMoveCochainUptoSaid : Prop := fnExactMoveCochainUptoRow.holds Tryd.pinned (OpenSpec.upto fnExactMoveCochainSpec)

/-- 'laws.FnExactParseCochain', WHERE WHAT IT READS IS OF BULK AT MOST 1048576: true; the input reads as it did. -/
def fnExactParseCochainUptoRow : OpenClaim := { program := "ytilhnmclleiodaadoor", sum := "c31a979b41397d79747146bf3b2fa6b80ea1fd41b0d6aac105f69c775b71329c", func := "loop.example/g01363/laws.FnExactParseCochain", spec := "fnExactParseCochain", inPlace := ["internal/bytealg.IndexByteString", "internal/bytealg.IndexString", "internal/bytealg.CountString"], unfollowed := true, recurses := true, named := ["internal/bytealg.MaxLen", "unicode/utf8.first", "unicode/utf8.acceptRanges"], plainKeys := false, apart := false, laid := [("unicode/utf8.acceptRanges", laid_unicode_utf8_acceptRanges), ("unicode/utf8.first", laid_unicode_utf8_first)], narrowed := true }
def FnExactParseCochainUptoSaid : Prop := fnExactParseCochainUptoRow.holds Tryd.pinned (OpenSpec.upto fnExactParseCochainSpec)

/-- 'laws.FnExactCocycleSteps', WHERE WHAT IT READS IS OF BULK AT MOST 1048576: true; the input reads as it did. -/
def fnExactCocycleStepsUptoRow : OpenClaim := { program := "ytilhnmclleiodaadoor", sum := "c31a979b41397d79747146bf3b2fa6b80ea1fd41b0d6aac105f69c775b71329c", func := "loop.example/g01363/laws.FnExactCocycleSteps", spec := "fnExactCocycleSteps", unfollowed := true, recurses := true, named := ["loop.example/g01363/impl.errNoList"], ifaces := true, plainKeys := false, apart := false, laid := [("loop.example/g01363/impl.errNoList", laid_loop_example_g01363_impl_errNoList)], narrowed := true }
def FnExactCocycleStepsUptoSaid : Prop := fnExactCocycleStepsUptoRow.holds Tryd.pinned (OpenSpec.upto fnExactCocycleStepsSpec)

/-- 'laws.FnExactBoundingSteps', WHERE WHAT IT READS IS OF BULK AT MOST 1048576: true; the input reads as it did. -/
def fnExactBoundingStepsUptoRow : OpenClaim := { program := "ytilhnmclleiodaadoor", sum := "c31a979b41397d79747146bf3b2fa6b80ea1fd41b0d6aac105f69c775b71329c", func := "loop.example/g01363/laws.FnExactBoundingSteps", spec := "fnExactBoundingSteps", unfollowed := true, recurses := true, named := ["loop.example/g01363/impl.errNoList"], ifaces := true, plainKeys := false, apart := false, laid := [("loop.example/g01363/impl.errNoList", laid_loop_example_g01363_impl_errNoList)], narrowed := true }
def FnExactBoundingStepsUptoSaid : Prop := fnExactBoundingStepsUptoRow.holds Tryd.pinned (OpenSpec.upto fnExactBoundingStepsSpec)

/-- 'laws.FnExactInvariantsOf', WHERE WHAT IT READS IS OF BULK AT MOST 1048576: true; the input reads as it did. -/
def fnExactInvariantsOfUptoRow : OpenClaim := { program := "ytilhnmclleiodaadoor", sum := "c31a979b41397d79747146bf3b2fa6b80ea1fd41b0d6aac105f69c775b71329c", func := "loop.example/g01363/laws.FnExactInvariantsOf", spec := "fnExactInvariantsOf", unfollowed := true, recurses := true, named := ["loop.example/g01363/impl.errNoList"], ifaces := true, plainKeys := false, apart := false, laid := [("loop.example/g01363/impl.errNoList", laid_loop_example_g01363_impl_errNoList)], narrowed := true }
def FnExactInvariantsOfUptoSaid : Prop := fnExactInvariantsOfUptoRow.holds Tryd.pinned (OpenSpec.upto fnExactInvariantsOfSpec)

/-- 'laws.FnExactOrderOfCohomology', WHERE WHAT IT READS IS OF BULK AT MOST 1048576: true; the input reads as it did. -/
def fnExactOrderOfCohomologyUptoRow : OpenClaim := { program := "ytilhnmclleiodaadoor", sum := "c31a979b41397d79747146bf3b2fa6b80ea1fd41b0d6aac105f69c775b71329c", func := "loop.example/g01363/laws.FnExactOrderOfCohomology", spec := "fnExactOrderOfCohomology", unfollowed := true, recurses := true, named := ["loop.example/g01363/impl.errNoList"], ifaces := true, plainKeys := false, apart := false, laid := [("loop.example/g01363/impl.errNoList", laid_loop_example_g01363_impl_errNoList)], narrowed := true }
def FnExactOrderOfCohomologyUptoSaid : Prop := fnExactOrderOfCohomologyUptoRow.holds Tryd.pinned (OpenSpec.upto fnExactOrderOfCohomologySpec)

/-- 'laws.FnExactIsBounding', WHERE WHAT IT READS IS OF BULK AT MOST 1048576: true; the input reads as it did. -/
def fnExactIsBoundingUptoRow : OpenClaim := { program := "ytilhnmclleiodaadoor", sum := "c31a979b41397d79747146bf3b2fa6b80ea1fd41b0d6aac105f69c775b71329c", func := "loop.example/g01363/laws.FnExactIsBounding", spec := "fnExactIsBounding", unfollowed := true, recurses := true, named := ["loop.example/g01363/impl.errNoList"], ifaces := true, plainKeys := false, apart := false, laid := [("loop.example/g01363/impl.errNoList", laid_loop_example_g01363_impl_errNoList)], narrowed := true }
def FnExactIsBoundingUptoSaid : Prop := fnExactIsBoundingUptoRow.holds Tryd.pinned (OpenSpec.upto fnExactIsBoundingSpec)

/-- 'laws.FnExactLeastBounded', WHERE WHAT IT READS IS OF BULK AT MOST 1048576: true; the input reads as it did. -/
def fnExactLeastBoundedUptoRow : OpenClaim := { program := "ytilhnmclleiodaadoor", sum := "c31a979b41397d79747146bf3b2fa6b80ea1fd41b0d6aac105f69c775b71329c", func := "loop.example/g01363/laws.FnExactLeastBounded", spec := "fnExactLeastBounded", unfollowed := true, recurses := true, named := ["loop.example/g01363/impl.errNoList"], ifaces := true, plainKeys := false, apart := false, laid := [("loop.example/g01363/impl.errNoList", laid_loop_example_g01363_impl_errNoList)], narrowed := true }
def FnExactLeastBoundedUptoSaid : Prop := fnExactLeastBoundedUptoRow.holds Tryd.pinned (OpenSpec.upto fnExactLeastBoundedSpec)

end Rows
end Go.Proofs.YtilhnmclleiodaaDoor
