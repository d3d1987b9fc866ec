/-
  No cell of these rows narrows 'for every input' (looked for: loops, veiled, ifaces, maps, wideKeys, modest, calm, conditions, laid).
  DERIVED. THE GIVEN ROWS OF THIS SEAT. 11 by the template 'for every input the law returns true; each argument reads behind the call as it read before'; 0 by the template 'total and deterministic' (their statements: YtdehalkebneaoaaTotals.lean).
  GIVEN WITH THE SEED: the statements are not yours to turn. If you find one false, say at which input.
  Laid BY PROGRAM, IN A SANDBOX (cutbox-rows.mjs): the forced cells as the released guide's own fill.sh prints them over the translation 52a260ac26172009… (all of the seat's roots in one cut). By AI agents, Wed Nov 11 2026. No macro, syntax, notation, axiom, sorry.
-/
import Derived.Test.YtdehalkebneaoaaChecked
import GoSem.Claim
import GoSem.ClaimJoined
import GoSem.ClaimMapViews
import Derived.JoinedTies
import Derived.KernelRfl
namespace Go.Proofs.Ytdehalkebneaoaa
/- THE CELL 'sum', in the pinned program and in every row, IS THE sha256 OF THE DUMP (.gsa) THAT YtdehalkebneaoaaProg.lean LOADS. Nothing in Lean hashes anything: it is a label: what it is worth is what the hold of that sum in a sandbox is worth. -/
noncomputable def Try.pinned : Pinned := { name := "ytdehalkebneaoaa", sum := "52a260ac26172009d5df6fdf3fb534ac0db5d3cd1f92005b511d6bc52e5d4f18", checked := Try.checked }
namespace Rows
def none {H : Type} : Left H := { results := [], args := [] }

/-- 'laws.FnExactIsHomomorphism': WHATEVER THE INPUT: true; the input reads as it did. -/
def fnExactIsHomomorphismSpec : ChangeSpec := { name := "fnExactIsHomomorphism", fn := fun _ => fun
  | [d1, d2, d3] => { results := [.lit (.bool true)], args := [d1, d2, d3] }
  | _ => none }
def fnExactIsHomomorphismRow : OpenClaim := { program := "ytdehalkebneaoaa", sum := "52a260ac26172009d5df6fdf3fb534ac0db5d3cd1f92005b511d6bc52e5d4f18", func := "loop.example/g01363/laws.FnExactIsHomomorphism", spec := "fnExactIsHomomorphism", unfollowed := true, recurses := true, apart := false }
def FnExactIsHomomorphismSaid : Prop := fnExactIsHomomorphismRow.holds Try.pinned (OpenSpec.ofChange fnExactIsHomomorphismSpec)

/-- ITS FALSE NEIGHBOUR: 'it returns false'. Refute it at one input. -/
def fnExactIsHomomorphismWrong : ChangeSpec := { name := "fnExactIsHomomorphism", fn := fun _ => fun
  | [d1, d2, d3] => { results := [.lit (.bool false)], args := [d1, d2, d3] }
  | _ => none }
def FnExactIsHomomorphismWrongFalsely : Prop := fnExactIsHomomorphismRow.holds Try.pinned (OpenSpec.ofChange fnExactIsHomomorphismWrong)

/-- 'laws.FnExactTrivialModule': WHATEVER THE INPUT: true; the input reads as it did. -/
def fnExactTrivialModuleSpec : ChangeSpec := { name := "fnExactTrivialModule", fn := fun _ => fun
  | [d1, d2] => { results := [.lit (.bool true)], args := [d1, d2] }
  | _ => none }
def fnExactTrivialModuleRow : OpenClaim := { program := "ytdehalkebneaoaa", sum := "52a260ac26172009d5df6fdf3fb534ac0db5d3cd1f92005b511d6bc52e5d4f18", func := "loop.example/g01363/laws.FnExactTrivialModule", spec := "fnExactTrivialModule", unfollowed := true, recurses := true, apart := false }
def FnExactTrivialModuleSaid : Prop := fnExactTrivialModuleRow.holds Try.pinned (OpenSpec.ofChange fnExactTrivialModuleSpec)

/-- ITS FALSE NEIGHBOUR: 'it returns false'. Refute it at one input. -/
def fnExactTrivialModuleWrong : ChangeSpec := { name := "fnExactTrivialModule", fn := fun _ => fun
  | [d1, d2] => { results := [.lit (.bool false)], args := [d1, d2] }
  | _ => none }
def FnExactTrivialModuleWrongFalsely : Prop := fnExactTrivialModuleRow.holds Try.pinned (OpenSpec.ofChange fnExactTrivialModuleWrong)

/-- 'laws.FnExactModulesOf': WHATEVER THE INPUT: true; the input reads as it did. -/
def fnExactModulesOfSpec : ChangeSpec := { name := "fnExactModulesOf", fn := fun _ => fun
  | [d1, d2] => { results := [.lit (.bool true)], args := [d1, d2] }
  | _ => none }
def fnExactModulesOfRow : OpenClaim := { program := "ytdehalkebneaoaa", sum := "52a260ac26172009d5df6fdf3fb534ac0db5d3cd1f92005b511d6bc52e5d4f18", func := "loop.example/g01363/laws.FnExactModulesOf", spec := "fnExactModulesOf", unfollowed := true, recurses := true, apart := false }
def FnExactModulesOfSaid : Prop := fnExactModulesOfRow.holds Try.pinned (OpenSpec.ofChange fnExactModulesOfSpec)

/-- ITS FALSE NEIGHBOUR: 'it returns false'. Refute it at one input. -/
def fnExactModulesOfWrong : ChangeSpec := { name := "fnExactModulesOf", fn := fun _ => fun
  | [d1, d2] => { results := [.lit (.bool false)], args := [d1, d2] }
  | _ => none }
def FnExactModulesOfWrongFalsely : Prop := fnExactModulesOfRow.holds Try.pinned (OpenSpec.ofChange fnExactModulesOfWrong)

/-- 'laws.FnExactDualModule': WHATEVER THE INPUT: true; the input reads as it did. -/
def fnExactDualModuleSpec : ChangeSpec := { name := "fnExactDualModule", fn := fun _ => fun
  | [d1, d2] => { results := [.lit (.bool true)], args := [d1, d2] }
  | _ => none }
def fnExactDualModuleRow : OpenClaim := { program := "ytdehalkebneaoaa", sum := "52a260ac26172009d5df6fdf3fb534ac0db5d3cd1f92005b511d6bc52e5d4f18", func := "loop.example/g01363/laws.FnExactDualModule", spec := "fnExactDualModule", unfollowed := true, recurses := true, apart := false }
def FnExactDualModuleSaid : Prop := fnExactDualModuleRow.holds Try.pinned (OpenSpec.ofChange fnExactDualModuleSpec)

/-- ITS FALSE NEIGHBOUR: 'it returns false'. Refute it at one input. -/
def fnExactDualModuleWrong : ChangeSpec := { name := "fnExactDualModule", fn := fun _ => fun
  | [d1, d2] => { results := [.lit (.bool false)], args := [d1, d2] }
  | _ => none }
def FnExactDualModuleWrongFalsely : Prop := fnExactDualModuleRow.holds Try.pinned (OpenSpec.ofChange fnExactDualModuleWrong)

/-- 'laws.FnExactProductModule': WHATEVER THE INPUT: true; the input reads as it did. -/
def fnExactProductModuleSpec : ChangeSpec := { name := "fnExactProductModule", fn := fun _ => fun
  | [d1, d2, d3] => { results := [.lit (.bool true)], args := [d1, d2, d3] }
  | _ => none }
def fnExactProductModuleRow : OpenClaim := { program := "ytdehalkebneaoaa", sum := "52a260ac26172009d5df6fdf3fb534ac0db5d3cd1f92005b511d6bc52e5d4f18", func := "loop.example/g01363/laws.FnExactProductModule", spec := "fnExactProductModule", unfollowed := true, recurses := true, apart := false }
def FnExactProductModuleSaid : Prop := fnExactProductModuleRow.holds Try.pinned (OpenSpec.ofChange fnExactProductModuleSpec)

/-- ITS FALSE NEIGHBOUR: 'it returns false'. Refute it at one input. -/
def fnExactProductModuleWrong : ChangeSpec := { name := "fnExactProductModule", fn := fun _ => fun
  | [d1, d2, d3] => { results := [.lit (.bool false)], args := [d1, d2, d3] }
  | _ => none }
def FnExactProductModuleWrongFalsely : Prop := fnExactProductModuleRow.holds Try.pinned (OpenSpec.ofChange fnExactProductModuleWrong)

/-- 'laws.FnExactReduceModule': WHATEVER THE INPUT: true; the input reads as it did. -/
def fnExactReduceModuleSpec : ChangeSpec := { name := "fnExactReduceModule", fn := fun _ => fun
  | [d1, d2, d3] => { results := [.lit (.bool true)], args := [d1, d2, d3] }
  | _ => none }
def fnExactReduceModuleRow : OpenClaim := { program := "ytdehalkebneaoaa", sum := "52a260ac26172009d5df6fdf3fb534ac0db5d3cd1f92005b511d6bc52e5d4f18", func := "loop.example/g01363/laws.FnExactReduceModule", spec := "fnExactReduceModule", unfollowed := true, recurses := true, apart := false }
def FnExactReduceModuleSaid : Prop := fnExactReduceModuleRow.holds Try.pinned (OpenSpec.ofChange fnExactReduceModuleSpec)

/-- ITS FALSE NEIGHBOUR: 'it returns false'. Refute it at one input. -/
def fnExactReduceModuleWrong : ChangeSpec := { name := "fnExactReduceModule", fn := fun _ => fun
  | [d1, d2, d3] => { results := [.lit (.bool false)], args := [d1, d2, d3] }
  | _ => none }
def FnExactReduceModuleWrongFalsely : Prop := fnExactReduceModuleRow.holds Try.pinned (OpenSpec.ofChange fnExactReduceModuleWrong)

/-- 'laws.FnExactRestrictModule': WHATEVER THE INPUT: true; the input reads as it did. -/
def fnExactRestrictModuleSpec : ChangeSpec := { name := "fnExactRestrictModule", fn := fun _ => fun
  | [d1, d2, d3, d4] => { results := [.lit (.bool true)], args := [d1, d2, d3, d4] }
  | _ => none }
def fnExactRestrictModuleRow : OpenClaim := { program := "ytdehalkebneaoaa", sum := "52a260ac26172009d5df6fdf3fb534ac0db5d3cd1f92005b511d6bc52e5d4f18", func := "loop.example/g01363/laws.FnExactRestrictModule", spec := "fnExactRestrictModule", unfollowed := true, recurses := true, apart := false }
def FnExactRestrictModuleSaid : Prop := fnExactRestrictModuleRow.holds Try.pinned (OpenSpec.ofChange fnExactRestrictModuleSpec)

/-- ITS FALSE NEIGHBOUR: 'it returns false'. Refute it at one input. -/
def fnExactRestrictModuleWrong : ChangeSpec := { name := "fnExactRestrictModule", fn := fun _ => fun
  | [d1, d2, d3, d4] => { results := [.lit (.bool false)], args := [d1, d2, d3, d4] }
  | _ => none }
def FnExactRestrictModuleWrongFalsely : Prop := fnExactRestrictModuleRow.holds Try.pinned (OpenSpec.ofChange fnExactRestrictModuleWrong)

/-- 'laws.FnExactCountCells': WHATEVER THE INPUT: true; the input reads as it did. -/
def fnExactCountCellsSpec : ChangeSpec := { name := "fnExactCountCells", fn := fun _ => fun
  | [d1, d2] => { results := [.lit (.bool true)], args := [d1, d2] }
  | _ => none }
def fnExactCountCellsRow : OpenClaim := { program := "ytdehalkebneaoaa", sum := "52a260ac26172009d5df6fdf3fb534ac0db5d3cd1f92005b511d6bc52e5d4f18", func := "loop.example/g01363/laws.FnExactCountCells", spec := "fnExactCountCells", unfollowed := true, recurses := true, apart := false }
def FnExactCountCellsSaid : Prop := fnExactCountCellsRow.holds Try.pinned (OpenSpec.ofChange fnExactCountCellsSpec)

/-- ITS FALSE NEIGHBOUR: 'it returns false'. Refute it at one input. -/
def fnExactCountCellsWrong : ChangeSpec := { name := "fnExactCountCells", fn := fun _ => fun
  | [d1, d2] => { results := [.lit (.bool false)], args := [d1, d2] }
  | _ => none }
def FnExactCountCellsWrongFalsely : Prop := fnExactCountCellsRow.holds Try.pinned (OpenSpec.ofChange fnExactCountCellsWrong)

/-- 'laws.FnExactIsCochain': WHATEVER THE INPUT: true; the input reads as it did. -/
def fnExactIsCochainSpec : ChangeSpec := { name := "fnExactIsCochain", fn := fun _ => fun
  | [d1, d2, d3] => { results := [.lit (.bool true)], args := [d1, d2, d3] }
  | _ => none }
def fnExactIsCochainRow : OpenClaim := { program := "ytdehalkebneaoaa", sum := "52a260ac26172009d5df6fdf3fb534ac0db5d3cd1f92005b511d6bc52e5d4f18", func := "loop.example/g01363/laws.FnExactIsCochain", spec := "fnExactIsCochain", unfollowed := true, recurses := true, apart := false }
def FnExactIsCochainSaid : Prop := fnExactIsCochainRow.holds Try.pinned (OpenSpec.ofChange fnExactIsCochainSpec)

/-- ITS FALSE NEIGHBOUR: 'it returns false'. Refute it at one input. -/
def fnExactIsCochainWrong : ChangeSpec := { name := "fnExactIsCochain", fn := fun _ => fun
  | [d1, d2, d3] => { results := [.lit (.bool false)], args := [d1, d2, d3] }
  | _ => none }
def FnExactIsCochainWrongFalsely : Prop := fnExactIsCochainRow.holds Try.pinned (OpenSpec.ofChange fnExactIsCochainWrong)

/-- 'laws.FnExactZeroCochain': WHATEVER THE INPUT: true; the input reads as it did. -/
def fnExactZeroCochainSpec : ChangeSpec := { name := "fnExactZeroCochain", fn := fun _ => fun
  | [d1, d2, d3] => { results := [.lit (.bool true)], args := [d1, d2, d3] }
  | _ => none }
def fnExactZeroCochainRow : OpenClaim := { program := "ytdehalkebneaoaa", sum := "52a260ac26172009d5df6fdf3fb534ac0db5d3cd1f92005b511d6bc52e5d4f18", func := "loop.example/g01363/laws.FnExactZeroCochain", spec := "fnExactZeroCochain", unfollowed := true, recurses := true, apart := false }
def FnExactZeroCochainSaid : Prop := fnExactZeroCochainRow.holds Try.pinned (OpenSpec.ofChange fnExactZeroCochainSpec)

/-- ITS FALSE NEIGHBOUR: 'it returns false'. Refute it at one input. -/
def fnExactZeroCochainWrong : ChangeSpec := { name := "fnExactZeroCochain", fn := fun _ => fun
  | [d1, d2, d3] => { results := [.lit (.bool false)], args := [d1, d2, d3] }
  | _ => none }
def FnExactZeroCochainWrongFalsely : Prop := fnExactZeroCochainRow.holds Try.pinned (OpenSpec.ofChange fnExactZeroCochainWrong)

/-- 'laws.FnExactAddCochains': WHATEVER THE INPUT: true; the input reads as it did. -/
def fnExactAddCochainsSpec : ChangeSpec := { name := "fnExactAddCochains", fn := fun _ => fun
  | [d1, d2, d3, d4, d5] => { results := [.lit (.bool true)], args := [d1, d2, d3, d4, d5] }
  | _ => none }
def fnExactAddCochainsRow : OpenClaim := { program := "ytdehalkebneaoaa", sum := "52a260ac26172009d5df6fdf3fb534ac0db5d3cd1f92005b511d6bc52e5d4f18", func := "loop.example/g01363/laws.FnExactAddCochains", spec := "fnExactAddCochains", unfollowed := true, recurses := true, apart := false }
def FnExactAddCochainsSaid : Prop := fnExactAddCochainsRow.holds Try.pinned (OpenSpec.ofChange fnExactAddCochainsSpec)

/-- ITS FALSE NEIGHBOUR: 'it returns false'. Refute it at one input. -/
def fnExactAddCochainsWrong : ChangeSpec := { name := "fnExactAddCochains", fn := fun _ => fun
  | [d1, d2, d3, d4, d5] => { results := [.lit (.bool false)], args := [d1, d2, d3, d4, d5] }
  | _ => none }
def FnExactAddCochainsWrongFalsely : Prop := fnExactAddCochainsRow.holds Try.pinned (OpenSpec.ofChange fnExactAddCochainsWrong)

/- THE SECOND FORM. 'bulk': how many values and letters a reading holds, each counted each time it is reached (what is shared counts as often as it is met; a slice's spare places count too). A statement '..UptoSaid' is the law's where the arguments, and the package variables that the reading takes, are together of bulk at most 1048576: NARROWER than '..Said'. Prove '..Said' where nothing that the law and all that it calls make is longer than what came in: it says more and counts as full. Else prove '..UptoSaid'. A law counts once. -/
mutual
def uptoBulk {H : Type} : DataW H → Nat
  | .lit (.string bytes) => bytes.length + 1
  | .lit _ => 1
  | .nil => 1
  | .ptr d => uptoBulk d + 1
  | .slice elems spare => uptoBulkAll elems + uptoBulkAll spare + 1
  | .agg parts => uptoBulkAll parts + 1
  | .iface _ d => uptoBulk d + 1
  | .map entries => uptoBulkEntries entries + 1
  | .held _ => 1
def uptoBulkAll {H : Type} : List (DataW H) → Nat
  | [] => 0
  | d :: r => uptoBulk d + uptoBulkAll r
def uptoBulkEntries {H : Type} : List (Lit × DataW H) → Nat
  | [] => 0
  | x :: r => uptoBulkEntry x + uptoBulkEntries r
def uptoBulkEntry {H : Type} : Lit × DataW H → Nat
  | (.string bytes, d) => bytes.length + uptoBulk d + 1
  | (_, d) => uptoBulk d + 1
 end
def uptoSmall : (H : Type) → List (DataW H) → Bool := fun _ ds => decide (uptoBulkAll ds ≤ 1048576)
def OpenSpec.upto (s : _root_.Go.ChangeSpec) : _root_.Go.OpenSpec := { _root_.Go.OpenSpec.ofChange s with cond := some uptoSmall }

/-- 'laws.FnExactIsHomomorphism', WHERE WHAT IT READS IS OF BULK AT MOST 1048576: true; the input reads as it did. -/
def fnExactIsHomomorphismUptoRow : OpenClaim := { program := "ytdehalkebneaoaa", sum := "52a260ac26172009d5df6fdf3fb534ac0db5d3cd1f92005b511d6bc52e5d4f18", func := "loop.example/g01363/laws.FnExactIsHomomorphism", spec := "fnExactIsHomomorphism", unfollowed := true, recurses := true, apart := false, narrowed := true }
def FnExactIsHomomorphismUptoSaid : Prop := fnExactIsHomomorphismUptoRow.holds Try.pinned (OpenSpec.upto fnExactIsHomomorphismSpec)

/-- 'laws.FnExactTrivialModule', WHERE WHAT IT READS IS OF BULK AT MOST 1048576: true; the input reads as it did. -/
def fnExactTrivialModuleUptoRow : OpenClaim := { program := "ytdehalkebneaoaa", sum := "52a260ac26172009d5df6fdf3fb534ac0db5d3cd1f92005b511d6bc52e5d4f18", func := "loop.example/g01363/laws.FnExactTrivialModule", spec := "fnExactTrivialModule", unfollowed := true, recurses := true, apart := false, narrowed := true }
def FnExactTrivialModuleUptoSaid : Prop := fnExactTrivialModuleUptoRow.holds Try.pinned (OpenSpec.upto fnExactTrivialModuleSpec)

/-- 'laws.FnExactModulesOf', WHERE WHAT IT READS IS OF BULK AT MOST 1048576: true; the input reads as it did. -/
def fnExactModulesOfUptoRow : OpenClaim := { program := "ytdehalkebneaoaa", sum := "52a260ac26172009d5df6fdf3fb534ac0db5d3cd1f92005b511d6bc52e5d4f18", func := "loop.example/g01363/laws.FnExactModulesOf", spec := "fnExactModulesOf", unfollowed := true, recurses := true, apart := false, narrowed := true }
def FnExactModulesOfUptoSaid : Prop := fnExactModulesOfUptoRow.holds Try.pinned (OpenSpec.upto fnExactModulesOfSpec)

/-- 'laws.FnExactDualModule', WHERE WHAT IT READS IS OF BULK AT MOST 1048576: true; the input reads as it did. -/
def fnExactDualModuleUptoRow : OpenClaim := { program := "ytdehalkebneaoaa", sum := "52a260ac26172009d5df6fdf3fb534ac0db5d3cd1f92005b511d6bc52e5d4f18", func := "loop.example/g01363/laws.FnExactDualModule", spec := "fnExactDualModule", unfollowed := true, recurses := true, apart := false, narrowed := true }
def FnExactDualModuleUptoSaid : Prop := fnExactDualModuleUptoRow.holds Try.pinned (OpenSpec.upto fnExactDualModuleSpec)

/-- 'laws.FnExactProductModule', WHERE WHAT IT READS IS OF BULK AT MOST 1048576: true; the input reads as it did. -/
def fnExactProductModuleUptoRow : OpenClaim := { program := "ytdehalkebneaoaa", sum := "52a260ac26172009d5df6fdf3fb534ac0db5d3cd1f92005b511d6bc52e5d4f18", func := "loop.example/g01363/laws.FnExactProductModule", spec := "fnExactProductModule", unfollowed := true, recurses := true, apart := false, narrowed := true }
def FnExactProductModuleUptoSaid : Prop := fnExactProductModuleUptoRow.holds Try.pinned (OpenSpec.upto fnExactProductModuleSpec)

/-- 'laws.FnExactReduceModule', WHERE WHAT IT READS IS OF BULK AT MOST 1048576: true; the input reads as it did. -/
def fnExactReduceModuleUptoRow : OpenClaim := { program := "ytdehalkebneaoaa", sum := "52a260ac26172009d5df6fdf3fb534ac0db5d3cd1f92005b511d6bc52e5d4f18", func := "loop.example/g01363/laws.FnExactReduceModule", spec := "fnExactReduceModule", unfollowed := true, recurses := true, apart := false, narrowed := true }
def FnExactReduceModuleUptoSaid : Prop := fnExactReduceModuleUptoRow.holds Try.pinned (OpenSpec.upto fnExactReduceModuleSpec)

/-- 'laws.FnExactRestrictModule', WHERE WHAT IT READS IS OF BULK AT MOST 1048576: true; the input reads as it did. -/
def fnExactRestrictModuleUptoRow : OpenClaim := { program := "ytdehalkebneaoaa", sum := "52a260ac26172009d5df6fdf3fb534ac0db5d3cd1f92005b511d6bc52e5d4f18", func := "loop.example/g01363/laws.FnExactRestrictModule", spec := "fnExactRestrictModule", unfollowed := true, recurses := true, apart := false, narrowed := true }
def FnExactRestrictModuleUptoSaid : Prop := fnExactRestrictModuleUptoRow.holds Try.pinned (OpenSpec.upto fnExactRestrictModuleSpec)

/-- 'laws.FnExactCountCells', WHERE WHAT IT READS IS OF BULK AT MOST 1048576: true; the input reads as it did. -/
def fnExactCountCellsUptoRow : OpenClaim := { program := "ytdehalkebneaoaa", sum := "52a260ac26172009d5df6fdf3fb534ac0db5d3cd1f92005b511d6bc52e5d4f18", func := "loop.example/g01363/laws.FnExactCountCells", spec := "fnExactCountCells", unfollowed := true, recurses := true, apart := false, narrowed := true }
def FnExactCountCellsUptoSaid : Prop := fnExactCountCellsUptoRow.holds Try.pinned (OpenSpec.upto fnExactCountCellsSpec)

/-- 'laws.FnExactIsCochain', WHERE WHAT IT READS IS OF BULK AT MOST 1048576: true; the input reads as it did. -/
def fnExactIsCochainUptoRow : OpenClaim := { program := "ytdehalkebneaoaa", sum := "52a260ac26172009d5df6fdf3fb534ac0db5d3cd1f92005b511d6bc52e5d4f18", func := "loop.example/g01363/laws.FnExactIsCochain", spec := "fnExactIsCochain", unfollowed := true, recurses := true, apart := false, narrowed := true }
def FnExactIsCochainUptoSaid : Prop := fnExactIsCochainUptoRow.holds Try.pinned (OpenSpec.upto fnExactIsCochainSpec)

/-- 'laws.FnExactZeroCochain', WHERE WHAT IT READS IS OF BULK AT MOST 1048576: true; the input reads as it did. -/
def fnExactZeroCochainUptoRow : OpenClaim := { program := "ytdehalkebneaoaa", sum := "52a260ac26172009d5df6fdf3fb534ac0db5d3cd1f92005b511d6bc52e5d4f18", func := "loop.example/g01363/laws.FnExactZeroCochain", spec := "fnExactZeroCochain", unfollowed := true, recurses := true, apart := false, narrowed := true }
def FnExactZeroCochainUptoSaid : Prop := fnExactZeroCochainUptoRow.holds Try.pinned (OpenSpec.upto fnExactZeroCochainSpec)

/-- 'laws.FnExactAddCochains', WHERE WHAT IT READS IS OF BULK AT MOST 1048576: true; the input reads as it did. -/
def fnExactAddCochainsUptoRow : OpenClaim := { program := "ytdehalkebneaoaa", sum := "52a260ac26172009d5df6fdf3fb534ac0db5d3cd1f92005b511d6bc52e5d4f18", func := "loop.example/g01363/laws.FnExactAddCochains", spec := "fnExactAddCochains", unfollowed := true, recurses := true, apart := false, narrowed := true }
def FnExactAddCochainsUptoSaid : Prop := fnExactAddCochainsUptoRow.holds Try.pinned (OpenSpec.upto fnExactAddCochainsSpec)

end Rows
end Go.Proofs.Ytdehalkebneaoaa
