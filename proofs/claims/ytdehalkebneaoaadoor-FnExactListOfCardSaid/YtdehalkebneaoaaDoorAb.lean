/- Are all numbers of a list below a number? -/
import Derived.Test.YtdehalkebneaoaaDoorCe
namespace Go.Proofs.YtdehalkebneaoaaDoor
open Go.RowKit

/-- Are all numbers of a list in 0 .. m - 1? -/
def belowB (m : Int) (xs : List Int) : Bool := xs.all fun x => inB x 0 (m - 1)
theorem belowB_iff {m : Int} {xs : List Int} : belowB m xs = true ↔ ∀ i, i < xs.length → inB (nth xs i) 0 (m - 1) = true := by
  simp only [belowB, List.all_eq_true]
  constructor
  · intro h i hi
    have : nth xs i = xs[i] := by simp [nth, hi]
    rw [this]
    exact h _ (List.getElem_mem hi)
  · intro h x hx
    obtain ⟨i, hi, rfl⟩ := List.getElem_of_mem hx
    have : nth xs i = xs[i] := by simp [nth, hi]
    rw [← this]
    exact h i hi
theorem belowB_at {m : Int} {xs : List Int} {i : Nat} (hi : i < xs.length) (h : inB (nth xs i) 0 (m - 1) = false) : belowB m xs = false := by
  cases hb : belowB m xs
  · rfl
  · rw [belowB_iff.1 hb i hi] at h
    cases h
theorem belowB_inR {M : Nat} {xs : List Int} (h : belowB (M : Int) xs = true) : InR M xs := fun i hi => by
  have := inB_true (belowB_iff.1 h i hi)
  omega

set_option maxHeartbeats 1000000 in
theorem areBelow_any (A : Option Addr) (m : Int) (xs : List Int) (c : Nat) (w : World) (hX : IntsW w A xs) (hn : xs.length ≤ 1048576) (hm : 0 ≤ m) (hm2 : m ≤ 1048576) :
    Calls Tryd.prog 160 #[.int .i64 m, .slice A xs.length c] w fun e w' => e = .returned (.bool (belowB m xs)) ∧ Ex w w' := by
  have HX := Lib.hid hX
  clear hX
  go_enter Tryd.func160, Tryd.ntmps160
  go_wp2_with fail
  go_loop [9] (fun i => ∃ k : Nat, k ≤ xs.length ∧ i = .int .i64 (k : Int) ∧ Hid (∀ j, j < k → inB (nth xs j) 0 (m - 1) = true)) (fun i => xs.length - (intOf i).toNat)
  case atStart => exact ⟨0, Nat.zero_le _, rfl, Lib.hid fun j hj => absurd hj (by omega)⟩
  case round =>
    obtain ⟨k, hk, rfl, HS⟩ := hrel
    by_cases hlt : k < xs.length
    · obtain ⟨bx, ox, rfl, hbx, hcx⟩ := HX.out.ints.at_ hlt
      cases hq : inB (nth xs k) 0 (m - 1) with
      | true =>
        obtain ⟨h0, h1⟩ := inB_true hq
        have h2 : nth xs k < m := by omega
        have HQ := Lib.hid hq
        clear hq
        generalize hx : nth xs k = x at *
        have HXX := Lib.hid hx
        clear hx h1
        go_wp2_with fail
        go_round
        case rel => exact ⟨k + 1, by omega, by go_num, Lib.hid fun j hj => by
          rcases Nat.lt_or_ge j k with h | h
          · exact HS.out j h
          · obtain rfl : j = k := by omega
            rw [HXX.out]
            exact HQ.out⟩
        case measure => simp [intOf]; omega
      | false =>
        have HB := Lib.hid (belowB_at hlt hq)
        rcases inB_false hq with h | h
        · have HQ := Lib.hid hq
          clear hq
          generalize nth xs k = x at *
          go_wp2_with fail
          go_ret
          exact ⟨by rw [HB.out]; rfl, Ex.refl _⟩
        · have h2 : m ≤ nth xs k := by omega
          have h3 : 0 ≤ nth xs k := by omega
          have HQ := Lib.hid hq
          clear hq h
          generalize nth xs k = x at *
          go_wp2_with fail
          go_ret
          exact ⟨by rw [HB.out]; rfl, Ex.refl _⟩
    · obtain rfl : k = xs.length := by omega
      go_wp2_with fail
      go_ret
      exact ⟨by rw [belowB_iff.2 HS.out]; rfl, Ex.refl _⟩

end Go.Proofs.YtdehalkebneaoaaDoor
