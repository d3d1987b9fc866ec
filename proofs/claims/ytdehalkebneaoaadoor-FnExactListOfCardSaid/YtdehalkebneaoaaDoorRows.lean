/-
  NARROWER THAN 'FOR EVERY INPUT', by the rows' own cells (each row's printed sentence says how): FnExactListOf: ifaces, laid · FnExactValueOf: ifaces, laid · FnExactBoundaryOf: ifaces, laid · FnExactIsCocycle: ifaces, laid · FnExactProductOfCochains: ifaces, laid · FnExactPullBack: ifaces, laid · FnExactMoveCochain: ifaces, laid · FnExactKernelOf: laid · FnExactModuleText: laid · FnExactParseModule: laid · FnExactCochainText: laid · FnExactParseCochain: laid.
  DERIVED. THE GIVEN ROWS OF THIS SEAT. 12 by the template 'for every input the law returns true; each argument reads behind the call as it read before'; 0 by the template 'total and deterministic' (their statements: YtdehalkebneaoaaDoorTotals.lean).
  GIVEN WITH THE SEED: the statements are not yours to turn. If you find one false, say at which input.
  Laid BY PROGRAM, IN A SANDBOX (cutbox-rows.mjs): the forced cells as the released guide's own fill.sh prints them over the translation 831f61d988b290b6… (all of the seat's roots in one cut). By AI agents, Wed Nov 11 2026. No macro, syntax, notation, axiom, sorry.
-/
import Derived.Test.YtdehalkebneaoaaDoorChecked
import GoSem.PinnedTables
import GoSem.Claim
import GoSem.ClaimJoined
import GoSem.ClaimMapViews
import Derived.JoinedTies
import Derived.KernelRfl
namespace Go.Proofs.YtdehalkebneaoaaDoor
/- THE CELL 'sum', in the pinned program and in every row, IS THE sha256 OF THE DUMP (.gsa) THAT YtdehalkebneaoaaDoorProg.lean LOADS. Nothing in Lean hashes anything: it is a label: what it is worth is what the hold of that sum in a sandbox is worth. -/
noncomputable def Tryd.pinned : Pinned := { name := "ytdehalkebneaoaadoor", sum := "831f61d988b290b6775e47010e94840798e68b2827989b6ee7b76767a2d9a8f6", checked := Tryd.checked }
namespace Rows
def none {H : Type} : Left H := { results := [], args := [] }

/- WHAT THE LISTED PACKAGE-LEVEL VARIABLES READ AS WHEN THE CALL BEGINS. Each datum BY PROGRAM (the guide's laid-datum.mjs) off the statement by which the dump's own 'gosem.cut.vars' lays the variable. In a bare row this is a premise. The card (YtdehalkebneaoaaDoorCards.lean) ties it to the program's text. -/
def laid_loop_example_g01363_impl_errNoList {H : Type} : DataW H := .iface "*errors.errorString" (.ptr (.agg [.lit (.string [110, 111, 32, 108, 105, 115, 116, 32, 111, 102, 32, 101, 108, 101, 109, 101, 110, 116, 115, 32, 111, 102, 32, 116, 104, 101, 32, 103, 114, 111, 117, 112])]))
def laid_math_bits_deBruijn64tab {H : Type} : DataW H := .agg [.lit (.int .u8 0), .lit (.int .u8 1), .lit (.int .u8 56), .lit (.int .u8 2), .lit (.int .u8 57), .lit (.int .u8 49), .lit (.int .u8 28), .lit (.int .u8 3), .lit (.int .u8 61), .lit (.int .u8 58), .lit (.int .u8 42), .lit (.int .u8 50), .lit (.int .u8 38), .lit (.int .u8 29), .lit (.int .u8 17), .lit (.int .u8 4), .lit (.int .u8 62), .lit (.int .u8 47), .lit (.int .u8 59), .lit (.int .u8 36), .lit (.int .u8 45), .lit (.int .u8 43), .lit (.int .u8 51), .lit (.int .u8 22), .lit (.int .u8 53), .lit (.int .u8 39), .lit (.int .u8 33), .lit (.int .u8 30), .lit (.int .u8 24), .lit (.int .u8 18), .lit (.int .u8 12), .lit (.int .u8 5), .lit (.int .u8 63), .lit (.int .u8 55), .lit (.int .u8 48), .lit (.int .u8 27), .lit (.int .u8 60), .lit (.int .u8 41), .lit (.int .u8 37), .lit (.int .u8 16), .lit (.int .u8 46), .lit (.int .u8 35), .lit (.int .u8 44), .lit (.int .u8 21), .lit (.int .u8 52), .lit (.int .u8 32), .lit (.int .u8 23), .lit (.int .u8 11), .lit (.int .u8 54), .lit (.int .u8 26), .lit (.int .u8 40), .lit (.int .u8 15), .lit (.int .u8 34), .lit (.int .u8 20), .lit (.int .u8 31), .lit (.int .u8 10), .lit (.int .u8 25), .lit (.int .u8 14), .lit (.int .u8 19), .lit (.int .u8 9), .lit (.int .u8 13), .lit (.int .u8 8), .lit (.int .u8 7), .lit (.int .u8 6)]
def laid_math_bits_deBruijn32tab {H : Type} : DataW H := .agg [.lit (.int .u8 0), .lit (.int .u8 1), .lit (.int .u8 28), .lit (.int .u8 2), .lit (.int .u8 29), .lit (.int .u8 14), .lit (.int .u8 24), .lit (.int .u8 3), .lit (.int .u8 30), .lit (.int .u8 22), .lit (.int .u8 20), .lit (.int .u8 15), .lit (.int .u8 25), .lit (.int .u8 17), .lit (.int .u8 4), .lit (.int .u8 8), .lit (.int .u8 31), .lit (.int .u8 27), .lit (.int .u8 13), .lit (.int .u8 23), .lit (.int .u8 21), .lit (.int .u8 19), .lit (.int .u8 16), .lit (.int .u8 7), .lit (.int .u8 26), .lit (.int .u8 12), .lit (.int .u8 18), .lit (.int .u8 6), .lit (.int .u8 11), .lit (.int .u8 5), .lit (.int .u8 10), .lit (.int .u8 9)]
def laid_internal_strconv_uint64pow10 {H : Type} : DataW H := .agg [.lit (.int .u64 1), .lit (.int .u64 10), .lit (.int .u64 100), .lit (.int .u64 1000), .lit (.int .u64 10000), .lit (.int .u64 100000), .lit (.int .u64 1000000), .lit (.int .u64 10000000), .lit (.int .u64 100000000), .lit (.int .u64 1000000000), .lit (.int .u64 10000000000), .lit (.int .u64 100000000000), .lit (.int .u64 1000000000000), .lit (.int .u64 10000000000000), .lit (.int .u64 100000000000000), .lit (.int .u64 1000000000000000), .lit (.int .u64 10000000000000000), .lit (.int .u64 100000000000000000), .lit (.int .u64 1000000000000000000), .lit (.int .u64 10000000000000000000)]
def laid_unicode_utf8_acceptRanges {H : Type} : DataW H := .agg [.agg [.lit (.int .u8 128), .lit (.int .u8 191)], .agg [.lit (.int .u8 160), .lit (.int .u8 191)], .agg [.lit (.int .u8 128), .lit (.int .u8 159)], .agg [.lit (.int .u8 144), .lit (.int .u8 191)], .agg [.lit (.int .u8 128), .lit (.int .u8 143)], .agg [.lit (.int .u8 0), .lit (.int .u8 0)], .agg [.lit (.int .u8 0), .lit (.int .u8 0)], .agg [.lit (.int .u8 0), .lit (.int .u8 0)], .agg [.lit (.int .u8 0), .lit (.int .u8 0)], .agg [.lit (.int .u8 0), .lit (.int .u8 0)], .agg [.lit (.int .u8 0), .lit (.int .u8 0)], .agg [.lit (.int .u8 0), .lit (.int .u8 0)], .agg [.lit (.int .u8 0), .lit (.int .u8 0)], .agg [.lit (.int .u8 0), .lit (.int .u8 0)], .agg [.lit (.int .u8 0), .lit (.int .u8 0)], .agg [.lit (.int .u8 0), .lit (.int .u8 0)]]
/-- One of Go's own tables, pinned by name: the form's constant. -/
def laid_unicode_utf8_first : DataW Unit := Go.Pinned.utf8First

/-- 'laws.FnExactListOf': WHATEVER THE INPUT: true; the input reads as it did. -/
def fnExactListOfSpec : ChangeSpec := { name := "fnExactListOf", vars := ["loop.example/g01363/impl.errNoList"], fn := fun _ => fun
  | [d1, d2, d3, g1] => { results := [.lit (.bool true)], args := [d1, d2, d3], vars := [g1] }
  | _ => none }
def fnExactListOfRow : OpenClaim := { program := "ytdehalkebneaoaadoor", sum := "831f61d988b290b6775e47010e94840798e68b2827989b6ee7b76767a2d9a8f6", func := "loop.example/g01363/laws.FnExactListOf", spec := "fnExactListOf", unfollowed := true, recurses := true, named := ["loop.example/g01363/impl.errNoList"], ifaces := true, plainKeys := false, apart := false, laid := [("loop.example/g01363/impl.errNoList", laid_loop_example_g01363_impl_errNoList)] }
def FnExactListOfSaid : Prop := fnExactListOfRow.holds Tryd.pinned (OpenSpec.ofChange fnExactListOfSpec)

/-- ITS FALSE NEIGHBOUR: 'it returns false'. Refute it at one input. -/
def fnExactListOfWrong : ChangeSpec := { name := "fnExactListOf", vars := ["loop.example/g01363/impl.errNoList"], fn := fun _ => fun
  | [d1, d2, d3, g1] => { results := [.lit (.bool false)], args := [d1, d2, d3], vars := [g1] }
  | _ => none }
def FnExactListOfWrongFalsely : Prop := fnExactListOfRow.holds Tryd.pinned (OpenSpec.ofChange fnExactListOfWrong)

/-- 'laws.FnExactValueOf': WHATEVER THE INPUT: true; the input reads as it did. -/
def fnExactValueOfSpec : ChangeSpec := { name := "fnExactValueOf", vars := ["loop.example/g01363/impl.errNoList"], fn := fun _ => fun
  | [d1, d2, d3, d4, g1] => { results := [.lit (.bool true)], args := [d1, d2, d3, d4], vars := [g1] }
  | _ => none }
def fnExactValueOfRow : OpenClaim := { program := "ytdehalkebneaoaadoor", sum := "831f61d988b290b6775e47010e94840798e68b2827989b6ee7b76767a2d9a8f6", func := "loop.example/g01363/laws.FnExactValueOf", spec := "fnExactValueOf", unfollowed := true, recurses := true, named := ["loop.example/g01363/impl.errNoList"], ifaces := true, plainKeys := false, apart := false, laid := [("loop.example/g01363/impl.errNoList", laid_loop_example_g01363_impl_errNoList)] }
def FnExactValueOfSaid : Prop := fnExactValueOfRow.holds Tryd.pinned (OpenSpec.ofChange fnExactValueOfSpec)

/-- ITS FALSE NEIGHBOUR: 'it returns false'. Refute it at one input. -/
def fnExactValueOfWrong : ChangeSpec := { name := "fnExactValueOf", vars := ["loop.example/g01363/impl.errNoList"], fn := fun _ => fun
  | [d1, d2, d3, d4, g1] => { results := [.lit (.bool false)], args := [d1, d2, d3, d4], vars := [g1] }
  | _ => none }
def FnExactValueOfWrongFalsely : Prop := fnExactValueOfRow.holds Tryd.pinned (OpenSpec.ofChange fnExactValueOfWrong)

/-- 'laws.FnExactBoundaryOf': WHATEVER THE INPUT: true; the input reads as it did. -/
def fnExactBoundaryOfSpec : ChangeSpec := { name := "fnExactBoundaryOf", vars := ["loop.example/g01363/impl.errNoList"], fn := fun _ => fun
  | [d1, d2, d3, g1] => { results := [.lit (.bool true)], args := [d1, d2, d3], vars := [g1] }
  | _ => none }
def fnExactBoundaryOfRow : OpenClaim := { program := "ytdehalkebneaoaadoor", sum := "831f61d988b290b6775e47010e94840798e68b2827989b6ee7b76767a2d9a8f6", func := "loop.example/g01363/laws.FnExactBoundaryOf", spec := "fnExactBoundaryOf", unfollowed := true, recurses := true, named := ["loop.example/g01363/impl.errNoList"], ifaces := true, plainKeys := false, apart := false, laid := [("loop.example/g01363/impl.errNoList", laid_loop_example_g01363_impl_errNoList)] }
def FnExactBoundaryOfSaid : Prop := fnExactBoundaryOfRow.holds Tryd.pinned (OpenSpec.ofChange fnExactBoundaryOfSpec)

/-- ITS FALSE NEIGHBOUR: 'it returns false'. Refute it at one input. -/
def fnExactBoundaryOfWrong : ChangeSpec := { name := "fnExactBoundaryOf", vars := ["loop.example/g01363/impl.errNoList"], fn := fun _ => fun
  | [d1, d2, d3, g1] => { results := [.lit (.bool false)], args := [d1, d2, d3], vars := [g1] }
  | _ => none }
def FnExactBoundaryOfWrongFalsely : Prop := fnExactBoundaryOfRow.holds Tryd.pinned (OpenSpec.ofChange fnExactBoundaryOfWrong)

/-- 'laws.FnExactIsCocycle': WHATEVER THE INPUT: true; the input reads as it did. -/
def fnExactIsCocycleSpec : ChangeSpec := { name := "fnExactIsCocycle", vars := ["loop.example/g01363/impl.errNoList"], fn := fun _ => fun
  | [d1, d2, d3, g1] => { results := [.lit (.bool true)], args := [d1, d2, d3], vars := [g1] }
  | _ => none }
def fnExactIsCocycleRow : OpenClaim := { program := "ytdehalkebneaoaadoor", sum := "831f61d988b290b6775e47010e94840798e68b2827989b6ee7b76767a2d9a8f6", func := "loop.example/g01363/laws.FnExactIsCocycle", spec := "fnExactIsCocycle", unfollowed := true, recurses := true, named := ["loop.example/g01363/impl.errNoList"], ifaces := true, plainKeys := false, apart := false, laid := [("loop.example/g01363/impl.errNoList", laid_loop_example_g01363_impl_errNoList)] }
def FnExactIsCocycleSaid : Prop := fnExactIsCocycleRow.holds Tryd.pinned (OpenSpec.ofChange fnExactIsCocycleSpec)

/-- ITS FALSE NEIGHBOUR: 'it returns false'. Refute it at one input. -/
def fnExactIsCocycleWrong : ChangeSpec := { name := "fnExactIsCocycle", vars := ["loop.example/g01363/impl.errNoList"], fn := fun _ => fun
  | [d1, d2, d3, g1] => { results := [.lit (.bool false)], args := [d1, d2, d3], vars := [g1] }
  | _ => none }
def FnExactIsCocycleWrongFalsely : Prop := fnExactIsCocycleRow.holds Tryd.pinned (OpenSpec.ofChange fnExactIsCocycleWrong)

/-- 'laws.FnExactProductOfCochains': WHATEVER THE INPUT: true; the input reads as it did. -/
def fnExactProductOfCochainsSpec : ChangeSpec := { name := "fnExactProductOfCochains", vars := ["loop.example/g01363/impl.errNoList"], fn := fun _ => fun
  | [d1, d2, d3, d4, d5, g1] => { results := [.lit (.bool true)], args := [d1, d2, d3, d4, d5], vars := [g1] }
  | _ => none }
def fnExactProductOfCochainsRow : OpenClaim := { program := "ytdehalkebneaoaadoor", sum := "831f61d988b290b6775e47010e94840798e68b2827989b6ee7b76767a2d9a8f6", func := "loop.example/g01363/laws.FnExactProductOfCochains", spec := "fnExactProductOfCochains", unfollowed := true, recurses := true, named := ["loop.example/g01363/impl.errNoList"], ifaces := true, plainKeys := false, apart := false, laid := [("loop.example/g01363/impl.errNoList", laid_loop_example_g01363_impl_errNoList)] }
def FnExactProductOfCochainsSaid : Prop := fnExactProductOfCochainsRow.holds Tryd.pinned (OpenSpec.ofChange fnExactProductOfCochainsSpec)

/-- ITS FALSE NEIGHBOUR: 'it returns false'. Refute it at one input. -/
def fnExactProductOfCochainsWrong : ChangeSpec := { name := "fnExactProductOfCochains", vars := ["loop.example/g01363/impl.errNoList"], fn := fun _ => fun
  | [d1, d2, d3, d4, d5, g1] => { results := [.lit (.bool false)], args := [d1, d2, d3, d4, d5], vars := [g1] }
  | _ => none }
def FnExactProductOfCochainsWrongFalsely : Prop := fnExactProductOfCochainsRow.holds Tryd.pinned (OpenSpec.ofChange fnExactProductOfCochainsWrong)

/-- 'laws.FnExactPullBack': WHATEVER THE INPUT: true; the input reads as it did. -/
def fnExactPullBackSpec : ChangeSpec := { name := "fnExactPullBack", vars := ["loop.example/g01363/impl.errNoList"], fn := fun _ => fun
  | [d1, d2, d3, d4, d5, g1] => { results := [.lit (.bool true)], args := [d1, d2, d3, d4, d5], vars := [g1] }
  | _ => none }
def fnExactPullBackRow : OpenClaim := { program := "ytdehalkebneaoaadoor", sum := "831f61d988b290b6775e47010e94840798e68b2827989b6ee7b76767a2d9a8f6", func := "loop.example/g01363/laws.FnExactPullBack", spec := "fnExactPullBack", unfollowed := true, recurses := true, named := ["loop.example/g01363/impl.errNoList"], ifaces := true, plainKeys := false, apart := false, laid := [("loop.example/g01363/impl.errNoList", laid_loop_example_g01363_impl_errNoList)] }
def FnExactPullBackSaid : Prop := fnExactPullBackRow.holds Tryd.pinned (OpenSpec.ofChange fnExactPullBackSpec)

/-- ITS FALSE NEIGHBOUR: 'it returns false'. Refute it at one input. -/
def fnExactPullBackWrong : ChangeSpec := { name := "fnExactPullBack", vars := ["loop.example/g01363/impl.errNoList"], fn := fun _ => fun
  | [d1, d2, d3, d4, d5, g1] => { results := [.lit (.bool false)], args := [d1, d2, d3, d4, d5], vars := [g1] }
  | _ => none }
def FnExactPullBackWrongFalsely : Prop := fnExactPullBackRow.holds Tryd.pinned (OpenSpec.ofChange fnExactPullBackWrong)

/-- 'laws.FnExactMoveCochain': WHATEVER THE INPUT: true; the input reads as it did. -/
def fnExactMoveCochainSpec : ChangeSpec := { name := "fnExactMoveCochain", vars := ["loop.example/g01363/impl.errNoList"], fn := fun _ => fun
  | [d1, d2, d3, d4, g1] => { results := [.lit (.bool true)], args := [d1, d2, d3, d4], vars := [g1] }
  | _ => none }
def fnExactMoveCochainRow : OpenClaim := { program := "ytdehalkebneaoaadoor", sum := "831f61d988b290b6775e47010e94840798e68b2827989b6ee7b76767a2d9a8f6", func := "loop.example/g01363/laws.FnExactMoveCochain", spec := "fnExactMoveCochain", unfollowed := true, recurses := true, named := ["loop.example/g01363/impl.errNoList"], ifaces := true, plainKeys := false, apart := false, laid := [("loop.example/g01363/impl.errNoList", laid_loop_example_g01363_impl_errNoList)] }
def FnExactMoveCochainSaid : Prop := fnExactMoveCochainRow.holds Tryd.pinned (OpenSpec.ofChange fnExactMoveCochainSpec)

/-- ITS FALSE NEIGHBOUR: 'it returns false'. Refute it at one input. -/
def fnExactMoveCochainWrong : ChangeSpec := { name := "fnExactMoveCochain", vars := ["loop.example/g01363/impl.errNoList"], fn := fun _ => fun
  | [d1, d2, d3, d4, g1] => { results := [.lit (.bool false)], args := [d1, d2, d3, d4], vars := [g1] }
  | _ => none }
def FnExactMoveCochainWrongFalsely : Prop := fnExactMoveCochainRow.holds Tryd.pinned (OpenSpec.ofChange fnExactMoveCochainWrong)

/-- 'laws.FnExactKernelOf': WHATEVER THE INPUT: true; the input reads as it did. -/
def fnExactKernelOfSpec : ChangeSpec := { name := "fnExactKernelOf", fn := fun _ => fun
  | [d1, d2] => { results := [.lit (.bool true)], args := [d1, d2] }
  | _ => none }
def fnExactKernelOfRow : OpenClaim := { program := "ytdehalkebneaoaadoor", sum := "831f61d988b290b6775e47010e94840798e68b2827989b6ee7b76767a2d9a8f6", func := "loop.example/g01363/laws.FnExactKernelOf", spec := "fnExactKernelOf", unfollowed := true, recurses := true, named := ["math/bits.deBruijn64tab"], plainKeys := false, apart := false, laid := [("math/bits.deBruijn64tab", laid_math_bits_deBruijn64tab)] }
def FnExactKernelOfSaid : Prop := fnExactKernelOfRow.holds Tryd.pinned (OpenSpec.ofChange fnExactKernelOfSpec)

/-- ITS FALSE NEIGHBOUR: 'it returns false'. Refute it at one input. -/
def fnExactKernelOfWrong : ChangeSpec := { name := "fnExactKernelOf", fn := fun _ => fun
  | [d1, d2] => { results := [.lit (.bool false)], args := [d1, d2] }
  | _ => none }
def FnExactKernelOfWrongFalsely : Prop := fnExactKernelOfRow.holds Tryd.pinned (OpenSpec.ofChange fnExactKernelOfWrong)

/-- 'laws.FnExactModuleText': WHATEVER THE INPUT: true; the input reads as it did. -/
def fnExactModuleTextSpec : ChangeSpec := { name := "fnExactModuleText", fn := fun _ => fun
  | [d1, d2] => { results := [.lit (.bool true)], args := [d1, d2] }
  | _ => none }
def fnExactModuleTextRow : OpenClaim := { program := "ytdehalkebneaoaadoor", sum := "831f61d988b290b6775e47010e94840798e68b2827989b6ee7b76767a2d9a8f6", func := "loop.example/g01363/laws.FnExactModuleText", spec := "fnExactModuleText", unfollowed := true, recurses := true, named := ["internal/strconv.uint64pow10", "math/bits.deBruijn32tab", "math/bits.deBruijn64tab"], plainKeys := false, apart := false, laid := [("math/bits.deBruijn32tab", laid_math_bits_deBruijn32tab), ("math/bits.deBruijn64tab", laid_math_bits_deBruijn64tab), ("internal/strconv.uint64pow10", laid_internal_strconv_uint64pow10)] }
def FnExactModuleTextSaid : Prop := fnExactModuleTextRow.holds Tryd.pinned (OpenSpec.ofChange fnExactModuleTextSpec)

/-- ITS FALSE NEIGHBOUR: 'it returns false'. Refute it at one input. -/
def fnExactModuleTextWrong : ChangeSpec := { name := "fnExactModuleText", fn := fun _ => fun
  | [d1, d2] => { results := [.lit (.bool false)], args := [d1, d2] }
  | _ => none }
def FnExactModuleTextWrongFalsely : Prop := fnExactModuleTextRow.holds Tryd.pinned (OpenSpec.ofChange fnExactModuleTextWrong)

/-- 'laws.FnExactParseModule': WHATEVER THE INPUT: true; the input reads as it did. -/
def fnExactParseModuleSpec : ChangeSpec := { name := "fnExactParseModule", fn := fun _ => fun
  | [d1, d2] => { results := [.lit (.bool true)], args := [d1, d2] }
  | _ => none }
def fnExactParseModuleRow : OpenClaim := { program := "ytdehalkebneaoaadoor", sum := "831f61d988b290b6775e47010e94840798e68b2827989b6ee7b76767a2d9a8f6", func := "loop.example/g01363/laws.FnExactParseModule", spec := "fnExactParseModule", inPlace := ["internal/bytealg.IndexByteString", "internal/bytealg.IndexString", "internal/bytealg.CountString"], unfollowed := true, recurses := true, named := ["internal/bytealg.MaxLen", "unicode/utf8.first", "unicode/utf8.acceptRanges"], plainKeys := false, apart := false, laid := [("unicode/utf8.acceptRanges", laid_unicode_utf8_acceptRanges), ("unicode/utf8.first", laid_unicode_utf8_first)] }
def FnExactParseModuleSaid : Prop := fnExactParseModuleRow.holds Tryd.pinned (OpenSpec.ofChange fnExactParseModuleSpec)

/-- ITS FALSE NEIGHBOUR: 'it returns false'. Refute it at one input. -/
def fnExactParseModuleWrong : ChangeSpec := { name := "fnExactParseModule", fn := fun _ => fun
  | [d1, d2] => { results := [.lit (.bool false)], args := [d1, d2] }
  | _ => none }
def FnExactParseModuleWrongFalsely : Prop := fnExactParseModuleRow.holds Tryd.pinned (OpenSpec.ofChange fnExactParseModuleWrong)

/-- 'laws.FnExactCochainText': WHATEVER THE INPUT: true; the input reads as it did. -/
def fnExactCochainTextSpec : ChangeSpec := { name := "fnExactCochainText", fn := fun _ => fun
  | [d1, d2, d3] => { results := [.lit (.bool true)], args := [d1, d2, d3] }
  | _ => none }
def fnExactCochainTextRow : OpenClaim := { program := "ytdehalkebneaoaadoor", sum := "831f61d988b290b6775e47010e94840798e68b2827989b6ee7b76767a2d9a8f6", func := "loop.example/g01363/laws.FnExactCochainText", spec := "fnExactCochainText", unfollowed := true, recurses := true, named := ["internal/strconv.uint64pow10", "math/bits.deBruijn32tab", "math/bits.deBruijn64tab"], plainKeys := false, apart := false, laid := [("math/bits.deBruijn32tab", laid_math_bits_deBruijn32tab), ("math/bits.deBruijn64tab", laid_math_bits_deBruijn64tab), ("internal/strconv.uint64pow10", laid_internal_strconv_uint64pow10)] }
def FnExactCochainTextSaid : Prop := fnExactCochainTextRow.holds Tryd.pinned (OpenSpec.ofChange fnExactCochainTextSpec)

/-- ITS FALSE NEIGHBOUR: 'it returns false'. Refute it at one input. -/
def fnExactCochainTextWrong : ChangeSpec := { name := "fnExactCochainText", fn := fun _ => fun
  | [d1, d2, d3] => { results := [.lit (.bool false)], args := [d1, d2, d3] }
  | _ => none }
def FnExactCochainTextWrongFalsely : Prop := fnExactCochainTextRow.holds Tryd.pinned (OpenSpec.ofChange fnExactCochainTextWrong)

/-- 'laws.FnExactParseCochain': WHATEVER THE INPUT: true; the input reads as it did. -/
def fnExactParseCochainSpec : ChangeSpec := { name := "fnExactParseCochain", fn := fun _ => fun
  | [d1, d2, d3] => { results := [.lit (.bool true)], args := [d1, d2, d3] }
  | _ => none }
def fnExactParseCochainRow : OpenClaim := { program := "ytdehalkebneaoaadoor", sum := "831f61d988b290b6775e47010e94840798e68b2827989b6ee7b76767a2d9a8f6", func := "loop.example/g01363/laws.FnExactParseCochain", spec := "fnExactParseCochain", inPlace := ["internal/bytealg.IndexByteString", "internal/bytealg.IndexString", "internal/bytealg.CountString"], unfollowed := true, recurses := true, named := ["internal/bytealg.MaxLen", "unicode/utf8.first", "unicode/utf8.acceptRanges"], plainKeys := false, apart := false, laid := [("unicode/utf8.acceptRanges", laid_unicode_utf8_acceptRanges), ("unicode/utf8.first", laid_unicode_utf8_first)] }
def FnExactParseCochainSaid : Prop := fnExactParseCochainRow.holds Tryd.pinned (OpenSpec.ofChange fnExactParseCochainSpec)

/-- ITS FALSE NEIGHBOUR: 'it returns false'. Refute it at one input. -/
def fnExactParseCochainWrong : ChangeSpec := { name := "fnExactParseCochain", fn := fun _ => fun
  | [d1, d2, d3] => { results := [.lit (.bool false)], args := [d1, d2, d3] }
  | _ => none }
def FnExactParseCochainWrongFalsely : Prop := fnExactParseCochainRow.holds Tryd.pinned (OpenSpec.ofChange fnExactParseCochainWrong)

/- THE SECOND FORM. 'bulk': how many values and letters a reading holds, each counted each time it is reached (what is shared counts as often as it is met; a slice's spare places count too). A statement '..UptoSaid' is the law's where the arguments, and the package variables that the reading takes, are together of bulk at most 1048576: NARROWER than '..Said'. Prove '..Said' where nothing that the law and all that it calls make is longer than what came in: it says more and counts as full. Else prove '..UptoSaid'. A law counts once. -/
mutual
def uptoBulk {H : Type} : DataW H → Nat
  | .lit (.string bytes) => bytes.length + 1
  | .lit _ => 1
  | .nil => 1
  | .ptr d => uptoBulk d + 1
  | .slice elems spare => uptoBulkAll elems + uptoBulkAll spare + 1
  | .agg parts => uptoBulkAll parts + 1
  | .iface _ d => uptoBulk d + 1
  | .map entries => uptoBulkEntries entries + 1
  | .held _ => 1
def uptoBulkAll {H : Type} : List (DataW H) → Nat
  | [] => 0
  | d :: r => uptoBulk d + uptoBulkAll r
def uptoBulkEntries {H : Type} : List (Lit × DataW H) → Nat
  | [] => 0
  | x :: r => uptoBulkEntry x + uptoBulkEntries r
def uptoBulkEntry {H : Type} : Lit × DataW H → Nat
  | (.string bytes, d) => bytes.length + uptoBulk d + 1
  | (_, d) => uptoBulk d + 1
 end
def uptoSmall : (H : Type) → List (DataW H) → Bool := fun _ ds => decide (uptoBulkAll ds ≤ 1048576)
def OpenSpec.upto (s : _root_.Go.ChangeSpec) : _root_.Go.OpenSpec := { _root_.Go.OpenSpec.ofChange s with cond := some uptoSmall }

/-- 'laws.FnExactListOf', WHERE WHAT IT READS IS OF BULK AT MOST 1048576: true; the input reads as it did. -/
def fnExactListOfUptoRow : OpenClaim := { program := "ytdehalkebneaoaadoor", sum := "831f61d988b290b6775e47010e94840798e68b2827989b6ee7b76767a2d9a8f6", func := "loop.example/g01363/laws.FnExactListOf", spec := "fnExactListOf", unfollowed := true, recurses := true, named := ["loop.example/g01363/impl.errNoList"], ifaces := true, plainKeys := false, apart := false, laid := [("loop.example/g01363/impl.errNoList", laid_loop_example_g01363_impl_errNoList)], narrowed := true }
def FnExactListOfUptoSaid : Prop := fnExactListOfUptoRow.holds Tryd.pinned (OpenSpec.upto fnExactListOfSpec)

/-- 'laws.FnExactValueOf', WHERE WHAT IT READS IS OF BULK AT MOST 1048576: true; the input reads as it did. -/
def fnExactValueOfUptoRow : OpenClaim := { program := "ytdehalkebneaoaadoor", sum := "831f61d988b290b6775e47010e94840798e68b2827989b6ee7b76767a2d9a8f6", func := "loop.example/g01363/laws.FnExactValueOf", spec := "fnExactValueOf", unfollowed := true, recurses := true, named := ["loop.example/g01363/impl.errNoList"], ifaces := true, plainKeys := false, apart := false, laid := [("loop.example/g01363/impl.errNoList", laid_loop_example_g01363_impl_errNoList)], narrowed := true }
def FnExactValueOfUptoSaid : Prop := fnExactValueOfUptoRow.holds Tryd.pinned (OpenSpec.upto fnExactValueOfSpec)

/-- 'laws.FnExactBoundaryOf', WHERE WHAT IT READS IS OF BULK AT MOST 1048576: true; the input reads as it did. -/
def fnExactBoundaryOfUptoRow : OpenClaim := { program := "ytdehalkebneaoaadoor", sum := "831f61d988b290b6775e47010e94840798e68b2827989b6ee7b76767a2d9a8f6", func := "loop.example/g01363/laws.FnExactBoundaryOf", spec := "fnExactBoundaryOf", unfollowed := true, recurses := true, named := ["loop.example/g01363/impl.errNoList"], ifaces := true, plainKeys := false, apart := false, laid := [("loop.example/g01363/impl.errNoList", laid_loop_example_g01363_impl_errNoList)], narrowed := true }
def FnExactBoundaryOfUptoSaid : Prop := fnExactBoundaryOfUptoRow.holds Tryd.pinned (OpenSpec.upto fnExactBoundaryOfSpec)

/-- 'laws.FnExactIsCocycle', WHERE WHAT IT READS IS OF BULK AT MOST 1048576: true; the input reads as it did. -/
def fnExactIsCocycleUptoRow : OpenClaim := { program := "ytdehalkebneaoaadoor", sum := "831f61d988b290b6775e47010e94840798e68b2827989b6ee7b76767a2d9a8f6", func := "loop.example/g01363/laws.FnExactIsCocycle", spec := "fnExactIsCocycle", unfollowed := true, recurses := true, named := ["loop.example/g01363/impl.errNoList"], ifaces := true, plainKeys := false, apart := false, laid := [("loop.example/g01363/impl.errNoList", laid_loop_example_g01363_impl_errNoList)], narrowed := true }
def FnExactIsCocycleUptoSaid : Prop := fnExactIsCocycleUptoRow.holds Tryd.pinned (OpenSpec.upto fnExactIsCocycleSpec)

/-- 'laws.FnExactProductOfCochains', WHERE WHAT IT READS IS OF BULK AT MOST 1048576: true; the input reads as it did. -/
def fnExactProductOfCochainsUptoRow : OpenClaim := { program := "ytdehalkebneaoaadoor", sum := "831f61d988b290b6775e47010e94840798e68b2827989b6ee7b76767a2d9a8f6", func := "loop.example/g01363/laws.FnExactProductOfCochains", spec := "fnExactProductOfCochains", unfollowed := true, recurses := true, named := ["loop.example/g01363/impl.errNoList"], ifaces := true, plainKeys := false, apart := false, laid := [("loop.example/g01363/impl.errNoList", laid_loop_example_g01363_impl_errNoList)], narrowed := true }
def FnExactProductOfCochainsUptoSaid : Prop := fnExactProductOfCochainsUptoRow.holds Tryd.pinned (OpenSpec.upto fnExactProductOfCochainsSpec)

/-- 'laws.FnExactPullBack', WHERE WHAT IT READS IS OF BULK AT MOST 1048576: true; the input reads as it did. -/
def fnExactPullBackUptoRow : OpenClaim := { program := "ytdehalkebneaoaadoor", sum := "831f61d988b290b6775e47010e94840798e68b2827989b6ee7b76767a2d9a8f6", func := "loop.example/g01363/laws.FnExactPullBack", spec := "fnExactPullBack", unfollowed := true, recurses := true, named := ["loop.example/g01363/impl.errNoList"], ifaces := true, plainKeys := false, apart := false, laid := [("loop.example/g01363/impl.errNoList", laid_loop_example_g01363_impl_errNoList)], narrowed := true }
def FnExactPullBackUptoSaid : Prop := fnExactPullBackUptoRow.holds Tryd.pinned (OpenSpec.upto fnExactPullBackSpec)

/-- 'laws.FnExactMoveCochain', WHERE WHAT IT READS IS OF BULK AT MOST 1048576: true; the input reads as it did. -/
def fnExactMoveCochainUptoRow : OpenClaim := { program := "ytdehalkebneaoaadoor", sum := "831f61d988b290b6775e47010e94840798e68b2827989b6ee7b76767a2d9a8f6", func := "loop.example/g01363/laws.FnExactMoveCochain", spec := "fnExactMoveCochain", unfollowed := true, recurses := true, named := ["loop.example/g01363/impl.errNoList"], ifaces := true, plainKeys := false, apart := false, laid := [("loop.example/g01363/impl.errNoList", laid_loop_example_g01363_impl_errNoList)], narrowed := true }
def FnExactMoveCochainUptoSaid : Prop := fnExactMoveCochainUptoRow.holds Tryd.pinned (OpenSpec.upto fnExactMoveCochainSpec)

/-- 'laws.FnExactKernelOf', WHERE WHAT IT READS IS OF BULK AT MOST 1048576: true; the input reads as it did. -/
def fnExactKernelOfUptoRow : OpenClaim := { program := "ytdehalkebneaoaadoor", sum := "831f61d988b290b6775e47010e94840798e68b2827989b6ee7b76767a2d9a8f6", func := "loop.example/g01363/laws.FnExactKernelOf", spec := "fnExactKernelOf", unfollowed := true, recurses := true, named := ["math/bits.deBruijn64tab"], plainKeys := false, apart := false, laid := [("math/bits.deBruijn64tab", laid_math_bits_deBruijn64tab)], narrowed := true }
def FnExactKernelOfUptoSaid : Prop := fnExactKernelOfUptoRow.holds Tryd.pinned (OpenSpec.upto fnExactKernelOfSpec)

/-- 'laws.FnExactModuleText', WHERE WHAT IT READS IS OF BULK AT MOST 1048576: true; the input reads as it did. -/
def fnExactModuleTextUptoRow : OpenClaim := { program := "ytdehalkebneaoaadoor", sum := "831f61d988b290b6775e47010e94840798e68b2827989b6ee7b76767a2d9a8f6", func := "loop.example/g01363/laws.FnExactModuleText", spec := "fnExactModuleText", unfollowed := true, recurses := true, named := ["internal/strconv.uint64pow10", "math/bits.deBruijn32tab", "math/bits.deBruijn64tab"], plainKeys := false, apart := false, laid := [("math/bits.deBruijn32tab", laid_math_bits_deBruijn32tab), ("math/bits.deBruijn64tab", laid_math_bits_deBruijn64tab), ("internal/strconv.uint64pow10", laid_internal_strconv_uint64pow10)], narrowed := true }
def FnExactModuleTextUptoSaid : Prop := fnExactModuleTextUptoRow.holds Tryd.pinned (OpenSpec.upto fnExactModuleTextSpec)

/-- 'laws.FnExactParseModule', WHERE WHAT IT READS IS OF BULK AT MOST 1048576: true; the input reads as it did. -/
def fnExactParseModuleUptoRow : OpenClaim := { program := "ytdehalkebneaoaadoor", sum := "831f61d988b290b6775e47010e94840798e68b2827989b6ee7b76767a2d9a8f6", func := "loop.example/g01363/laws.FnExactParseModule", spec := "fnExactParseModule", inPlace := ["internal/bytealg.IndexByteString", "internal/bytealg.IndexString", "internal/bytealg.CountString"], unfollowed := true, recurses := true, named := ["internal/bytealg.MaxLen", "unicode/utf8.first", "unicode/utf8.acceptRanges"], plainKeys := false, apart := false, laid := [("unicode/utf8.acceptRanges", laid_unicode_utf8_acceptRanges), ("unicode/utf8.first", laid_unicode_utf8_first)], narrowed := true }
def FnExactParseModuleUptoSaid : Prop := fnExactParseModuleUptoRow.holds Tryd.pinned (OpenSpec.upto fnExactParseModuleSpec)

/-- 'laws.FnExactCochainText', WHERE WHAT IT READS IS OF BULK AT MOST 1048576: true; the input reads as it did. -/
def fnExactCochainTextUptoRow : OpenClaim := { program := "ytdehalkebneaoaadoor", sum := "831f61d988b290b6775e47010e94840798e68b2827989b6ee7b76767a2d9a8f6", func := "loop.example/g01363/laws.FnExactCochainText", spec := "fnExactCochainText", unfollowed := true, recurses := true, named := ["internal/strconv.uint64pow10", "math/bits.deBruijn32tab", "math/bits.deBruijn64tab"], plainKeys := false, apart := false, laid := [("math/bits.deBruijn32tab", laid_math_bits_deBruijn32tab), ("math/bits.deBruijn64tab", laid_math_bits_deBruijn64tab), ("internal/strconv.uint64pow10", laid_internal_strconv_uint64pow10)], narrowed := true }
def FnExactCochainTextUptoSaid : Prop := fnExactCochainTextUptoRow.holds Tryd.pinned (OpenSpec.upto fnExactCochainTextSpec)

/-- 'laws.FnExactParseCochain', WHERE WHAT IT READS IS OF BULK AT MOST 1048576: true; the input reads as it did. -/
def fnExactParseCochainUptoRow : OpenClaim := { program := "ytdehalkebneaoaadoor", sum := "831f61d988b290b6775e47010e94840798e68b2827989b6ee7b76767a2d9a8f6", func := "loop.example/g01363/laws.FnExactParseCochain", spec := "fnExactParseCochain", inPlace := ["internal/bytealg.IndexByteString", "internal/bytealg.IndexString", "internal/bytealg.CountString"], unfollowed := true, recurses := true, named := ["internal/bytealg.MaxLen", "unicode/utf8.first", "unicode/utf8.acceptRanges"], plainKeys := false, apart := false, laid := [("unicode/utf8.acceptRanges", laid_unicode_utf8_acceptRanges), ("unicode/utf8.first", laid_unicode_utf8_first)], narrowed := true }
def FnExactParseCochainUptoSaid : Prop := fnExactParseCochainUptoRow.holds Tryd.pinned (OpenSpec.upto fnExactParseCochainSpec)

end Rows
end Go.Proofs.YtdehalkebneaoaaDoor
