/- The worlds that a sort of rows passes through. -/
import Derived.Shelf.GgSortFunc.Compose
import Derived.Lib.OwnBridge
import Derived.Test.YtfafccldngekgaaCq
namespace Go.Proofs.Ytfafccldngekgaa
open Go.RowKit Go.Shelf Go.Sort

/-- The worlds that the sort passes through: its row alone has turned. -/
theorem sort_has {α : Type} [Inhabited α] (enc : α → Value) {w : World} {b m : Nat} {e : TypeId} {cs : Array Value} (dk : Array α) (os : Array Obj) (h : Has w b e cs) : Has (sortWorld enc w b 0 m dk os) b e (putCells enc 0 dk cs) := by
  have hlt := h.lt
  have hs : b < (putRow enc (Sort.ahead w m) b 0 dk).heap.size := by simpa [putRow, mapBlock, Sort.ahead] using hlt
  show (sortWorld enc w b 0 m dk os).heap[b]? = _
  unfold sortWorld
  rw [heap_grow_old _ _ hs]
  have hh : w.heap[b]? = some (.cells cs e (0, 0)) := h
  simp [putRow, mapBlock, Sort.ahead, Array.getElem?_modify, hh, onCells]
theorem sort_only {α : Type} [Inhabited α] (enc : α → Value) (w : World) (b m : Nat) (dk : Array α) (os : Array Obj) (hb : b < w.heap.size) : Only b (b + 1) w (sortWorld enc w b 0 m dk os) where
  low := by
    have h1 := Go.Lib.below_putRow (enc := enc) (q := m) (d := dk) (Go.RowKit.Below.refl b w) (Nat.le_refl b)
    refine ⟨h1.os, h1.tape, h1.output, ?_, fun k hk => ?_⟩
    · have := h1.size
      simp only [sortWorld, grow, Array.size_append]
      omega
    · rw [← h1.block k hk]
      unfold sortWorld
      exact heap_grow_old _ _ (by simpa [putRow, mapBlock, Sort.ahead] using Nat.lt_trans hk hb)
  same k hk hlt := by
    have hs : k < (putRow enc (Sort.ahead w m) b 0 dk).heap.size := by simpa [putRow, mapBlock, Sort.ahead] using hlt
    unfold sortWorld
    rw [heap_grow_old _ _ hs]
    simp [putRow, mapBlock, Sort.ahead, Array.getElem?_modify, show b ≠ k by omega]

theorem putCells_get {α : Type} [Inhabited α] (enc : α → Value) (d : Array α) (cs : Array Value) {i : Nat} (h : i < d.size) (h2 : i < cs.size) : (putCells enc 0 d cs)[i]? = some (enc d[i]!) := by
  simp [putCells, h, h2]

end Go.Proofs.Ytfafccldngekgaa
