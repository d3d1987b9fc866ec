/-
  No cell of these rows narrows 'for every input' (looked for: loops, veiled, ifaces, maps, wideKeys, modest, calm, conditions, laid).
  DERIVED. THE GIVEN ROWS OF THIS SEAT. 4 by the template 'for every input the law returns true; each argument reads behind the call as it read before'; 0 by the template 'total and deterministic' (their statements: YtenenlpfpkdplaaTotals.lean).
  GIVEN WITH THE SEED: the statements are not yours to turn. If you find one false, say at which input.
  Laid BY PROGRAM, IN A SANDBOX (cutbox-rows.mjs): the forced cells as the released guide's own fill.sh prints them over the translation 1be05e3f7e17a7ae… (all of the seat's roots in one cut). By AI agents, Wed Nov 11 2026. No macro, syntax, notation, axiom, sorry.
-/
import Derived.Test.YtenenlpfpkdplaaChecked
import GoSem.Claim
import GoSem.ClaimJoined
import GoSem.ClaimMapViews
import Derived.JoinedTies
import Derived.KernelRfl
namespace Go.Proofs.Ytenenlpfpkdplaa
/- THE CELL 'sum', in the pinned program and in every row, IS THE sha256 OF THE DUMP (.gsa) THAT YtenenlpfpkdplaaProg.lean LOADS. Nothing in Lean hashes anything: it is a label: what it is worth is what the hold of that sum in a sandbox is worth. -/
noncomputable def Try.pinned : Pinned := { name := "ytenenlpfpkdplaa", sum := "1be05e3f7e17a7aef907fda58b747cd13fab9bfc151d6e974947c540ce5087b8", checked := Try.checked }
namespace Rows
def none {H : Type} : Left H := { results := [], args := [] }

/-- 'laws.FnExactOrdersOf': WHATEVER THE INPUT: true; the input reads as it did. -/
def fnExactOrdersOfSpec : ChangeSpec := { name := "fnExactOrdersOf", fn := fun _ => fun
  | [d] => { results := [.lit (.bool true)], args := [d] }
  | _ => none }
def fnExactOrdersOfRow : OpenClaim := { program := "ytenenlpfpkdplaa", sum := "1be05e3f7e17a7aef907fda58b747cd13fab9bfc151d6e974947c540ce5087b8", func := "loop.example/g01363/laws.FnExactOrdersOf", spec := "fnExactOrdersOf", unfollowed := true, recurses := true, apart := false }
def FnExactOrdersOfSaid : Prop := fnExactOrdersOfRow.holds Try.pinned (OpenSpec.ofChange fnExactOrdersOfSpec)

/-- ITS FALSE NEIGHBOUR: 'it returns false'. Refute it at one input. -/
def fnExactOrdersOfWrong : ChangeSpec := { name := "fnExactOrdersOf", fn := fun _ => fun
  | [d] => { results := [.lit (.bool false)], args := [d] }
  | _ => none }
def FnExactOrdersOfWrongFalsely : Prop := fnExactOrdersOfRow.holds Try.pinned (OpenSpec.ofChange fnExactOrdersOfWrong)

/-- 'laws.FnExactDirectProduct': WHATEVER THE INPUT: true; the input reads as it did. -/
def fnExactDirectProductSpec : ChangeSpec := { name := "fnExactDirectProduct", fn := fun _ => fun
  | [d1, d2] => { results := [.lit (.bool true)], args := [d1, d2] }
  | _ => none }
def fnExactDirectProductRow : OpenClaim := { program := "ytenenlpfpkdplaa", sum := "1be05e3f7e17a7aef907fda58b747cd13fab9bfc151d6e974947c540ce5087b8", func := "loop.example/g01363/laws.FnExactDirectProduct", spec := "fnExactDirectProduct", unfollowed := true, recurses := true, apart := false }
def FnExactDirectProductSaid : Prop := fnExactDirectProductRow.holds Try.pinned (OpenSpec.ofChange fnExactDirectProductSpec)

/-- ITS FALSE NEIGHBOUR: 'it returns false'. Refute it at one input. -/
def fnExactDirectProductWrong : ChangeSpec := { name := "fnExactDirectProduct", fn := fun _ => fun
  | [d1, d2] => { results := [.lit (.bool false)], args := [d1, d2] }
  | _ => none }
def FnExactDirectProductWrongFalsely : Prop := fnExactDirectProductRow.holds Try.pinned (OpenSpec.ofChange fnExactDirectProductWrong)

/-- 'laws.FnExactRenumberGroup': WHATEVER THE INPUT: true; the input reads as it did. -/
def fnExactRenumberGroupSpec : ChangeSpec := { name := "fnExactRenumberGroup", fn := fun _ => fun
  | [d1, d2] => { results := [.lit (.bool true)], args := [d1, d2] }
  | _ => none }
def fnExactRenumberGroupRow : OpenClaim := { program := "ytenenlpfpkdplaa", sum := "1be05e3f7e17a7aef907fda58b747cd13fab9bfc151d6e974947c540ce5087b8", func := "loop.example/g01363/laws.FnExactRenumberGroup", spec := "fnExactRenumberGroup", unfollowed := true, recurses := true, apart := false }
def FnExactRenumberGroupSaid : Prop := fnExactRenumberGroupRow.holds Try.pinned (OpenSpec.ofChange fnExactRenumberGroupSpec)

/-- ITS FALSE NEIGHBOUR: 'it returns false'. Refute it at one input. -/
def fnExactRenumberGroupWrong : ChangeSpec := { name := "fnExactRenumberGroup", fn := fun _ => fun
  | [d1, d2] => { results := [.lit (.bool false)], args := [d1, d2] }
  | _ => none }
def FnExactRenumberGroupWrongFalsely : Prop := fnExactRenumberGroupRow.holds Try.pinned (OpenSpec.ofChange fnExactRenumberGroupWrong)

/-- 'laws.FnExactPrincipalMaps': WHATEVER THE INPUT: true; the input reads as it did. -/
def fnExactPrincipalMapsSpec : ChangeSpec := { name := "fnExactPrincipalMaps", fn := fun _ => fun
  | [d1, d2] => { results := [.lit (.bool true)], args := [d1, d2] }
  | _ => none }
def fnExactPrincipalMapsRow : OpenClaim := { program := "ytenenlpfpkdplaa", sum := "1be05e3f7e17a7aef907fda58b747cd13fab9bfc151d6e974947c540ce5087b8", func := "loop.example/g01363/laws.FnExactPrincipalMaps", spec := "fnExactPrincipalMaps", unfollowed := true, recurses := true, apart := false }
def FnExactPrincipalMapsSaid : Prop := fnExactPrincipalMapsRow.holds Try.pinned (OpenSpec.ofChange fnExactPrincipalMapsSpec)

/-- ITS FALSE NEIGHBOUR: 'it returns false'. Refute it at one input. -/
def fnExactPrincipalMapsWrong : ChangeSpec := { name := "fnExactPrincipalMaps", fn := fun _ => fun
  | [d1, d2] => { results := [.lit (.bool false)], args := [d1, d2] }
  | _ => none }
def FnExactPrincipalMapsWrongFalsely : Prop := fnExactPrincipalMapsRow.holds Try.pinned (OpenSpec.ofChange fnExactPrincipalMapsWrong)

/- THE SECOND FORM. 'bulk': how many values and letters a reading holds, each counted each time it is reached (what is shared counts as often as it is met; a slice's spare places count too). A statement '..UptoSaid' is the law's where the arguments, and the package variables that the reading takes, are together of bulk at most 1048576: NARROWER than '..Said'. Prove '..Said' where nothing that the law and all that it calls make is longer than what came in: it says more and counts as full. Else prove '..UptoSaid'. A law counts once. -/
mutual
def uptoBulk {H : Type} : DataW H → Nat
  | .lit (.string bytes) => bytes.length + 1
  | .lit _ => 1
  | .nil => 1
  | .ptr d => uptoBulk d + 1
  | .slice elems spare => uptoBulkAll elems + uptoBulkAll spare + 1
  | .agg parts => uptoBulkAll parts + 1
  | .iface _ d => uptoBulk d + 1
  | .map entries => uptoBulkEntries entries + 1
  | .held _ => 1
def uptoBulkAll {H : Type} : List (DataW H) → Nat
  | [] => 0
  | d :: r => uptoBulk d + uptoBulkAll r
def uptoBulkEntries {H : Type} : List (Lit × DataW H) → Nat
  | [] => 0
  | x :: r => uptoBulkEntry x + uptoBulkEntries r
def uptoBulkEntry {H : Type} : Lit × DataW H → Nat
  | (.string bytes, d) => bytes.length + uptoBulk d + 1
  | (_, d) => uptoBulk d + 1
 end
def uptoSmall : (H : Type) → List (DataW H) → Bool := fun _ ds => decide (uptoBulkAll ds ≤ 1048576)
def OpenSpec.upto (s : _root_.Go.ChangeSpec) : _root_.Go.OpenSpec := { _root_.Go.OpenSpec.ofChange s with cond := some uptoSmall }

/-- 'laws.FnExactOrdersOf', WHERE WHAT IT READS IS OF BULK AT MOST 1048576: true; the input reads as it did. -/
def fnExactOrdersOfUptoRow : OpenClaim := { program := "ytenenlpfpkdplaa", sum := "1be05e3f7e17a7aef907fda58b747cd13fab9bfc151d6e974947c540ce5087b8", func := "loop.example/g01363/laws.FnExactOrdersOf", spec := "fnExactOrdersOf", unfollowed := true, recurses := true, apart := false, narrowed := true }
def FnExactOrdersOfUptoSaid : Prop := fnExactOrdersOfUptoRow.holds Try.pinned (OpenSpec.upto fnExactOrdersOfSpec)

/-- 'laws.FnExactDirectProduct', WHERE WHAT IT READS IS OF BULK AT MOST 1048576: true; the input reads as it did. -/
def fnExactDirectProductUptoRow : OpenClaim := { program := "ytenenlpfpkdplaa", sum := "1be05e3f7e17a7aef907fda58b747cd13fab9bfc151d6e974947c540ce5087b8", func := "loop.example/g01363/laws.FnExactDirectProduct", spec := "fnExactDirectProduct", unfollowed := true, recurses := true, apart := false, narrowed := true }
def FnExactDirectProductUptoSaid : Prop := fnExactDirectProductUptoRow.holds Try.pinned (OpenSpec.upto fnExactDirectProductSpec)

/-- 'laws.FnExactRenumberGroup', WHERE WHAT IT READS IS OF BULK AT MOST 1048576: true; the input reads as it did. -/
def fnExactRenumberGroupUptoRow : OpenClaim := { program := "ytenenlpfpkdplaa", sum := "1be05e3f7e17a7aef907fda58b747cd13fab9bfc151d6e974947c540ce5087b8", func := "loop.example/g01363/laws.FnExactRenumberGroup", spec := "fnExactRenumberGroup", unfollowed := true, recurses := true, apart := false, narrowed := true }
def FnExactRenumberGroupUptoSaid : Prop := fnExactRenumberGroupUptoRow.holds Try.pinned (OpenSpec.upto fnExactRenumberGroupSpec)

/-- 'laws.FnExactPrincipalMaps', WHERE WHAT IT READS IS OF BULK AT MOST 1048576: true; the input reads as it did. -/
def fnExactPrincipalMapsUptoRow : OpenClaim := { program := "ytenenlpfpkdplaa", sum := "1be05e3f7e17a7aef907fda58b747cd13fab9bfc151d6e974947c540ce5087b8", func := "loop.example/g01363/laws.FnExactPrincipalMaps", spec := "fnExactPrincipalMaps", unfollowed := true, recurses := true, apart := false, narrowed := true }
def FnExactPrincipalMapsUptoSaid : Prop := fnExactPrincipalMapsUptoRow.holds Try.pinned (OpenSpec.upto fnExactPrincipalMapsSpec)

end Rows
end Go.Proofs.Ytenenlpfpkdplaa
