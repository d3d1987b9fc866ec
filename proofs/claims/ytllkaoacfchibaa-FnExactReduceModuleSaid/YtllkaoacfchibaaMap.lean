/- Maps of modules: the test of one number. -/
import Derived.Test.YtllkaoacfchibaaMnm
import Derived.Test.YtllkaoacfchibaaBa
namespace Go.Proofs.Ytllkaoacfchibaa
open Go.RowKit

/-- Is c a map, of M and the units us to N and the units vs? -/
def mapB (c M N : Nat) (us vs : List Int) : Bool := (c * M % N == 0) && (List.range us.length).all fun i => c * im us i % N == c * im vs i % N
section
variable {c M N : Nat} {us vs : List Int}
theorem mapB_mod (h : ¬ c * M % N = 0) : mapB c M N us vs = false := by
  simp [mapB, h]
theorem mapB_at {i : Nat} (hi : i < us.length) (h : ¬ c * im us i % N = c * im vs i % N) : mapB c M N us vs = false := by
  cases hq : mapB c M N us vs
  · rfl
  · simp only [mapB, Bool.and_eq_true, List.all_eq_true, List.mem_range, beq_iff_eq] at hq
    exact absurd (hq.2 i hi) h
theorem mapB_all (h0 : c * M % N = 0) (h : ∀ i, i < us.length → c * im us i % N = c * im vs i % N) : mapB c M N us vs = true := by
  simp only [mapB, Bool.and_eq_true, List.all_eq_true, List.mem_range, beq_iff_eq]
  exact ⟨h0, h⟩
end

/-- All that a round of the test reads. -/
structure MapW (W : World) (g h b o b' o' l c c' : Nat) (M N : Nat) (us vs : List Int) : Prop where
  ha : Has W g 30 #[.int .i64 (M : Int), .slice (some ⟨b, o, none⟩) l c]
  hb : Has W h 30 #[.int .i64 (N : Int), .slice (some ⟨b', o', none⟩) l c']
  x : ∀ k, k < l → W.cell? ⟨b, o + k, none⟩ = some (.int .i64 (im us k : Int))
  y : ∀ k, k < l → W.cell? ⟨b', o' + k, none⟩ = some (.int .i64 (im vs k : Int))

end Go.Proofs.Ytllkaoacfchibaa
