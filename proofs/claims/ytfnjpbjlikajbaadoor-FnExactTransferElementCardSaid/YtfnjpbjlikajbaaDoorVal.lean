/- Va Vb Vc in one text. -/
import Derived.IntWalk
import Derived.Deep.RegionHeld3
import Derived.WalkSmall
import Derived.Defers
import Derived.Recover
import Derived.Test.YtfnjpbjlikajbaaDoorFif
import Derived.Test.YtfnjpbjlikajbaaDoorIsg
import Derived.Test.YtfnjpbjlikajbaaDoorCel
/- The value of a cochain at a list: both sides. -/
namespace Go.Proofs.YtfnjpbjlikajbaaDoor
open Go.RowKit

/-- The number of a list of elements other than 0. -/
def cellF (N : Nat) (xs : List Int) : Nat → Nat
  | 0 => 0
  | k + 1 => cellF N xs k * (N - 1) + ((nth xs k).toNat - 1)
theorem cellF_lt {N : Nat} {xs : List Int} : ∀ k, (∀ j, j < k → 1 ≤ (nth xs j).toNat ∧ (nth xs j).toNat < N) → cellF N xs k < cellsN N k
  | 0, _ => by simp [cellF, cellsN]
  | k + 1, h => by
    have h1 := cellF_lt k (fun j hj => h j (by omega))
    have h2 := h k (by omega)
    rw [cellF, cellsN_succ]
    have h3 : (cellF N xs k + 1) * (N - 1) ≤ cellsN N k * (N - 1) := Nat.mul_le_mul_right _ h1
    rw [Nat.add_mul, Nat.one_mul] at h3
    omega
/-- The value. -/
def valR (N : Nat) (fs xs : List Int) : Int := if xs.any (fun x => x == 0) = true then 0 else nth fs (cellF N xs xs.length)
theorem any_zero {xs : List Int} {j : Nat} (hj : j < xs.length) (h : nth xs j = 0) : xs.any (fun x => x == 0) = true := by
  refine List.any_eq_true.2 ⟨0, ?_, by simp⟩
  rw [← h]
  simp [nth, hj]
theorem any_none {xs : List Int} (h : ∀ j, j < xs.length → nth xs j ≠ 0) : xs.any (fun x => x == 0) = false := by
  rw [Bool.eq_false_iff]
  intro e
  obtain ⟨x, hx, h0⟩ := List.any_eq_true.1 e
  obtain ⟨j, hj, rfl⟩ := List.getElem_of_mem hx
  exact h j hj (by simpa [nth, hj] using h0)
theorem valR_zero {N : Nat} {fs xs : List Int} {j : Nat} (hj : j < xs.length) (h : nth xs j = 0) : valR N fs xs = 0 := by rw [valR, if_pos (any_zero hj h)]
theorem valR_at {N : Nat} {fs xs : List Int} (h : ∀ j, j < xs.length → nth xs j ≠ 0) : valR N fs xs = nth fs (cellF N xs xs.length) := by rw [valR, any_none h]; rfl

end Go.Proofs.YtfnjpbjlikajbaaDoor

/- The value of a cochain at a list: the program's side. -/
namespace Go.Proofs.YtfnjpbjlikajbaaDoor
open Go.RowKit

/-- The variable that a panic throws holds an error. -/
def ErrL (w : World) : Prop := ∃ a : Addr, w.cell? ⟨0, 0, none⟩ = some (.iface 123 (.pointer (some a)))
theorem ErrL.lt {w : World} (h : ErrL w) : 0 < w.heap.size := let ⟨_, h⟩ := h; World.block_lt_of_cell? _ _ h
theorem ErrL.ex {w w' : World} (h : ErrL w) (k : Ex w w') : ErrL w' := by
  have hl := h.lt
  obtain ⟨a, h⟩ := h
  exact ⟨a, (k.below.cell (p := ⟨0, 0, none⟩) hl).trans h⟩

set_option maxHeartbeats 400000 in
theorem isElementList_e (A L : Option Addr) (n c c' : Nat) (xs : List Int) (w : World) (hX : IntsW w L xs) (hn : n ≤ 8) (hx : xs.length ≤ 1048576) :
    Calls Tryd.prog 62 #[.agg #[.slice A n c], .slice L xs.length c'] w fun e w' => e = .returned (.bool (belowB (n : Int) xs)) ∧ Ex w w' := by
  have e0 : Ex w (w.alloc (.cells #[.slice A n c] 36)) := (Ex.refl w).alloc _
  have b0 : Has (w.alloc (.cells #[.slice A n c] 36)) (w.heap.size) 36 #[.slice A n c] := (Has.newAt (w := w) (e := 36) (cs := #[.slice A n c]) (k := w.heap.size) (by simp))
  have HAB := Lib.hid (fun W (he : Ex w W) => areBelow_any L (n : Int) xs c' W (hX.ex he) hx (by omega) (by omega))
  have HE0 := Lib.hid e0
  have c0 := b0.cell 0
  obtain ⟨q, hq⟩ : ∃ q, belowB (n : Int) xs = q := ⟨_, rfl⟩
  rw [hq] at HAB ⊢
  clear hX b0 e0 hq
  go_enter Tryd.func62, Tryd.ntmps62
  go_wp2_with fail
  generalize (w.alloc (.cells #[.slice A n c] 36)) = W0 at *
  refine (groupOrder_ex A n c W0 (by omega)).mono ?_
  rintro e W1 ⟨rfl, he1⟩
  have HE1 := Lib.hid (HE0.out.trans he1)
  clear he1 c0
  go_wp2_with fail
  refine (HAB.out W1 HE1.out).mono ?_
  rintro e W2 ⟨rfl, he2⟩
  have HE2 := Lib.hid (HE1.out.trans he2)
  clear he2
  go_wp2_with fail
  go_ret
  exact ⟨rfl, HE2.out⟩

end Go.Proofs.YtfnjpbjlikajbaaDoor

/- The value of a cochain at a list behind a door that catches a panic. -/
namespace Go.Proofs.YtfnjpbjlikajbaaDoor
open Go.RowKit

/-- Is a list one of the cochain's degree, of elements? -/
def lisB (N n : Nat) (xs : List Int) : Bool := decide (xs.length = n) && belowB (N : Int) xs
theorem belowB_rng {N : Nat} {xs : List Int} (h : belowB (N : Int) xs = true) : InR N xs := belowB_inR h

theorem ta_err (b : Addr) (xT : TypeId) (w : World) : (Instr.typeAssert (.iface 123 (.pointer (some b))) xT 117 true).run Tryd.prog w = .ok (.tuple #[.iface 123 (.pointer (some b)), .bool true]) w := by kernel_rfl
theorem ta_nil (xT : TypeId) (w : World) : (Instr.typeAssert .nilIface xT 117 true).run Tryd.prog w = .ok (.tuple #[.nilIface, .bool false]) w := by kernel_rfl

end Go.Proofs.YtfnjpbjlikajbaaDoor
