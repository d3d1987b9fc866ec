/- Arrays of numbers, compared. -/
import Derived.ChangeKeysEq
import Derived.Laws.StructEq
import Derived.Test.YtcdijeeabgmgmaaGreatDoorA4
namespace Go.Proofs.YtcdijeeabgmgmaaGreatDoor
open Go.RowKit Go.Shelf

theorem eqItems_of {P : Program} {w : World} {d : Nat} {e : TypeId} {n : Nat} {xs ys : Array Value} {R : Nat → Bool} : ∀ is : List Nat,
    (∀ i ∈ is, ∃ a b, (part e xs (i * n)).run P w = .ok a w ∧ (part e ys (i * n)).run P w = .ok b w ∧ (Op.equalIn d e a b).run P w = .ok (R i) w) → (Op.eqItems d e n xs ys is).run P w = .ok (is.all R) w
  | [], _ => rfl
  | i :: is, h => by
    obtain ⟨a, b, h1, h2, h3⟩ := h i (List.mem_cons_self ..)
    have ih := eqItems_of is fun j hj => h j (List.mem_cons_of_mem _ hj)
    simp only [Op.eqItems, Sem.run_bind, h1, h2, h3, Result.andThen_ok, List.all_cons]
    cases R i with
    | false => simp
    | true => simpa using ih

theorem plain64 : Tryz.prog.plainKey 2 = true := by kernel_rfl
theorem cells64 : Tryz.prog.cellsOf 2 = 1 := by kernel_rfl
theorem cells8 : Tryz.prog.cellsOf 107 = 8 := by kernel_rfl
theorem eq_i64 (d : Nat) (x y : Int) (w : World) : (Op.equalIn (d + 1) 2 (.int .i64 x) (.int .i64 y)).run Tryz.prog w = .ok (x == y) w := by
  simp [Op.equalIn, run_underlying Tryz.underlying2]
/-- Two rows. -/
theorem eq_row (d : Nat) (f g : Nat → Int) (xs ys : Array Value) (w : World) (hx : ∀ j, j < 8 → xs[j]? = some (.int .i64 (f j))) (hy : ∀ j, j < 8 → ys[j]? = some (.int .i64 (g j))) :
    (Op.equalIn (d + 1 + 1) 107 (.agg xs) (.agg ys)).run Tryz.prog w = .ok ((List.range 8).all fun j => f j == g j) w := by
  obtain ⟨i, hi⟩ := info_of_underlying Tryz.underlying2
  rw [run_equalIn_array w (d + 1) xs ys Tryz.underlying107 hi, cells64]
  refine eqItems_of _ fun j hj => ?_
  have hj := List.mem_range.1 hj
  rw [Nat.mul_one]
  exact ⟨_, _, run_part_plain w plain64 (hx j hj), run_part_plain w plain64 (hy j hj), eq_i64 d _ _ w⟩
theorem part_row (xs : Array Value) (o : Nat) (w : World) : (part 107 xs o).run Tryz.prog w = .ok (.agg (xs.extract o (o + 8))) w := by
  obtain ⟨i, hi⟩ := info_of_underlying Tryz.underlying107
  have hs : i.size = 8 := by
    have h := cells8
    unfold Program.cellsOf at h
    rw [hi] at h
    simpa using h
  have ha : (isAgg 107).run Tryz.prog w = .ok true w := by
    unfold isAgg
    rw [Sem.run_bind, run_underlying Tryz.underlying107]
    rfl
  simp [part, ha, sizeOf, typeInfo, hi, hs]
/-- Two squares. -/
theorem eq_square (d : Nat) (f g : Nat → Int) (w : World) : (Op.equalIn (d + 1 + 1 + 1) 109 (.agg (tab 64 fun p => .int .i64 (f p))) (.agg (tab 64 fun p => .int .i64 (g p)))).run Tryz.prog w = .ok ((List.range 8).all fun i => (List.range 8).all fun j => f (i * 8 + j) == g (i * 8 + j)) w := by
  obtain ⟨i, hi⟩ := info_of_underlying Tryz.underlying107
  rw [run_equalIn_array w (d + 1 + 1) _ _ Tryz.underlying109 hi, cells8]
  refine eqItems_of _ fun k hk => ?_
  have hk := List.mem_range.1 hk
  refine ⟨_, _, part_row _ _ w, part_row _ _ w, eq_row d (fun j => f (k * 8 + j)) (fun j => g (k * 8 + j)) _ _ w (fun j hj => ?_) (fun j hj => ?_)⟩
  all_goals
    rw [Array.getElem?_extract, tab_size, if_pos (by omega), tab_get (by omega)]

end Go.Proofs.YtcdijeeabgmgmaaGreatDoor
