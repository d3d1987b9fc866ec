/- MoveCochain: the specification's cochain. -/
import Derived.IntWalk
import Derived.Deep.RegionHeld3
import Derived.Deep.DeepCutAuto
import Derived.Test.YtcdijeeabgmgmaaGreatDoorMx
import Derived.Test.YtcdijeeabgmgmaaGreatDoorCel
import Derived.Test.YtcdijeeabgmgmaaGreatDoorMvt
import Derived.Test.YtcdijeeabgmgmaaGreatDoorBa
namespace Go.Proofs.YtcdijeeabgmgmaaGreatDoor
open Go.RowKit

theorem upL_mov (t : List (List Int)) (d k b : Nat) : upL (lsL t.length d k) (fun p => (con t (dN t.length d k p) b : Int)) d = movL t d k b := by
  have h := upL_all (lsL t.length d k) (fun p => (con t (dN t.length d k p) b : Int))
  rw [lsL_len] at h
  exact h

end Go.Proofs.YtcdijeeabgmgmaaGreatDoor
