/- Orders of elements, of the program and of the specification. -/
import Derived.Test.YtahilkhnlobaoaaPrd
import Derived.Test.YtahilkhnlobaoaaAlg
import Derived.Test.YtahilkhnlobaoaaOwn
namespace Go.Proofs.Ytahilkhnlobaoaa
open Go.RowKit

theorem SqT.mul_ {w : World} {B b o : Nat} {bb oo C : Nat → Nat} {t : List (List Int)} (h : SqT w B b o bb oo C t) (hg : IsGrp t) {i j : Nat} (hi : i < t.length) (hj : j < t.length) :
    w.cell? ⟨bb i, oo i + j, none⟩ = some (.int .i64 (mul t i j : Int)) := by
  rw [h.ent_ hi hj, hg.ent hi hj]

set_option maxHeartbeats 400000 in
theorem l01Order_any (t : List (List Int)) (c B b o a : Nat) (bb oo C : Nat → Nat) (w : World) (hQ : SqT w B b o bb oo C t) (hB : B ≤ w.heap.size) (hg : IsGrp t) (ha : a < t.length) :
    Calls Try.prog 87 #[.agg #[.slice (some ⟨b, o, none⟩) t.length c], .int .i64 (a : Int)] w fun e w' => e = .returned (.int .i64 (ord t a : Int)) ∧ Below w.heap.size w w' := by
  have hb0 : Below w.heap.size w (w.alloc (.cells #[.slice (some ⟨b, o, none⟩) t.length c] 26)) := (Below.refl _ _).alloc (Nat.le_refl _) _
  have h0 := (Has.new w 26 #[.slice (some ⟨b, o, none⟩) t.length c]).cell 0
  obtain ⟨g1, g2, g3, g4⟩ := hg.ord_spec ha
  have hn8 := hg.n8
  have HG4 := Lib.hid g4
  have HG3 := Lib.hid g3
  have HG := Lib.hid hg
  have HQ := Lib.hid (hQ.below hb0 hB)
  clear hQ hg g4 g3
  go_enter Try.func87, Try.ntmps87
  go_wp2
  generalize (w.alloc (.cells #[.slice (some ⟨b, o, none⟩) t.length c] 26)) = W at *
  go_loop [5, 6] (fun k p => ∃ j : Nat, 1 ≤ j ∧ j ≤ ord t a ∧ k = .int .i64 j ∧ p = .int .i64 (pw t a j : Int)) (fun k _ => ord t a - (intOf k).toNat)
  case atStart => exact ⟨1, by omega, g1, rfl, by show _ = Value.int .i64 ((mul t 0 a : Nat) : Int); rw [HG.out.zero_mul ha]⟩
  case round =>
    obtain ⟨j, hj1, hj2, rfl, rfl⟩ := hrel
    by_cases hlt : j < ord t a
    · have hne := HG4.out j hj1 hlt
      have hp := HG.out.pw_lt ha j
      have hnxt : mul t (pw t a j) a = pw t a (j + 1) := rfl
      have hrow := HQ.out.row_ hp
      have hent := HQ.out.mul_ HG.out hp ha
      obtain ⟨y, hy⟩ : ∃ y, pw t a (j + 1) = y := ⟨_, rfl⟩
      rw [hnxt, hy] at hent
      have HY := Lib.hid hy
      clear hnxt hy
      generalize pw t a j = x at *
      have hne' : ((x : Int) != 0) = true := by rw [bne_iff_ne]; omega
      clear hne
      go_wp2
      go_round
      case rel => exact ⟨j + 1, by omega, by omega, by go_num, by rw [HY.out]⟩
      case measure => simp [intOf]; omega
    · have hjo : j = ord t a := by omega
      subst hjo
      have hz : (((pw t a (ord t a) : Nat) : Int) != 0) = false := by rw [HG3.out]; rfl
      go_wp2
      go_ret
      exact ⟨rfl, hb0⟩

/-- The orders of all elements, none where there is no group; and the code. -/
noncomputable def ordersR (t : List (List Int)) : List Int := if grpB t then (List.range t.length).map fun a => (ord t a : Int) else []
noncomputable def codeR (t : List (List Int)) : Int := if grpB t then 0 else 1

end Go.Proofs.Ytahilkhnlobaoaa
