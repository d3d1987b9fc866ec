/- The relation of two boxes without results. -/
import Derived.Test.YtcdijeeabgmgmaaGreatDoorTwo
namespace Go.Proofs.YtcdijeeabgmgmaaGreatDoor
open Go.RowKit

theorem keptTrue : Kept fun _ _ _ => True := ⟨fun _ _ => trivial, fun _ _ _ => trivial⟩
theorem TwoR.begin {base : Nat} {T0 T1 : TypeId} {z0 z1 c0 c1 : Array Value} {s0 s1 : Value} {D E : Nat} {w : World} : TwoR base T0 T1 z0 z1 c0 c1 (fun _ _ _ => True) true false false false false s0 s1 0 0 D E w :=
  ⟨fun h => (by cases h), fun h => (by cases h), fun h => (by cases h), fun _ => ⟨trivial, Nat.zero_le _⟩, fun h => (by cases h), fun h => (by cases h)⟩

end Go.Proofs.YtcdijeeabgmgmaaGreatDoor
