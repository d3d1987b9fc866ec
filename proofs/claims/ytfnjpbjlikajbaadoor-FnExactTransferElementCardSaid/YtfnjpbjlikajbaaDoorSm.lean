/- The list of a set. -/
import Derived.Test.YtfnjpbjlikajbaaDoorBts
import Derived.Test.YtfnjpbjlikajbaaDoorExv
namespace Go.Proofs.YtfnjpbjlikajbaaDoor
open Go.RowKit Go.Shelf

attribute [local go_sem] Oper.semAt_some

/-- What a row of elements holds. -/
def rowA {s : Nat} (pre : List {a : Nat // a ∈ elN s}) : List Value := pre.map fun x => .int .i64 (x.1 : Int)
theorem rowA_snoc {s : Nat} (pre : List {a : Nat // a ∈ elN s}) (x : {a : Nat // a ∈ elN s}) : rowA (pre ++ [x]) = rowA pre ++ [.int .i64 (x.1 : Int)] := by
  unfold rowA
  rw [List.map_append]
  rfl
theorem elI_vals {s : Nat} {xs : List {a : Nat // a ∈ elN s}} (h : xs.map (fun x => x.1) = elN s) : rowA xs = (elI s).map fun x => .int .i64 x := by
  have h2 := congrArg (List.map fun a : Nat => Value.int .i64 (a : Int)) h
  rw [List.map_map] at h2
  rw [elI, List.map_map]
  exact h2
theorem elI_vlen {s : Nat} {xs : List {a : Nat // a ∈ elN s}} (h : xs.map (fun x => x.1) = elN s) : xs.length = (elI s).length := by
  have h2 := congrArg List.length h
  rw [List.length_map] at h2
  rw [elI_len]
  exact h2

set_option maxHeartbeats 400000 in
theorem setAll_any (s : Nat) (w : World) :
    Calls Tryd.prog 95 #[.int .u64 (s : Int)] w fun e w' => e = .returned (.func (.func 102) #[] #[.pointer (some ⟨w.heap.size, 0, none⟩)]) ∧ w' = w.alloc (.cells #[.int .u64 (s : Int)] 89) := by
  go_enter Tryd.func95, Tryd.ntmps95
  go_wp2
  go_ret
  exact ⟨rfl, rfl⟩

/-- The table lasts while memory grows. -/
theorem TabL.ex {w w' : World} (h : TabL w) (k : Ex w w') : TabL w' := h.below k.below h.lt

end Go.Proofs.YtfnjpbjlikajbaaDoor
