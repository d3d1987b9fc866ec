/- The program's test for tables. -/
import Derived.Test.YtdehalkebneaoaaDoorBase
import Derived.Test.YtdehalkebneaoaaDoorGrp
namespace Go.Proofs.YtdehalkebneaoaaDoor
open Go.RowKit

set_option maxHeartbeats 400000 in
theorem isTable_any (A : Option Addr) (t : List (List Int)) (c B : Nat) (w : World) (hR : Rws w B A t) (hn : t.length ≤ 1048576) (hl : ∀ i, i < t.length → (row t i).length ≤ 1048576) :
    Calls Tryd.prog 117 #[.slice A t.length c] w fun e w' => e = .returned (.bool (tabB t)) ∧ w = w' := by
  have HL := Lib.hid hl
  clear hl
  by_cases h1 : t.length < 1
  · go_enter Tryd.func117, Tryd.ntmps117
    go_wp2
    go_ret
    exact ⟨by rw [show tabB t = false by simp only [tabB, decide_eq_false_iff_not]; exact fun h => by have := h.n1; omega]; rfl, rfl⟩
  by_cases h8 : 8 < t.length
  · go_enter Tryd.func117, Tryd.ntmps117
    go_wp2
    go_ret
    exact ⟨by rw [show tabB t = false by simp only [tabB, decide_eq_false_iff_not]; exact fun h => by have := h.n8; omega]; simp, rfl⟩
  obtain ⟨b, o, R, C, rfl, hT⟩ := hR.tab (by omega)
  have HT := Lib.hid hT
  clear hT hR
  go_enter Tryd.func117, Tryd.ntmps117
  go_wp2
  go_loop [18] (fun a => ∃ k : Nat, k ≤ t.length ∧ a = .int .i64 k ∧ ∀ a, a < k → (row t a).length = t.length ∧ ∀ b, b < t.length → 0 ≤ nth (row t a) b ∧ nth (row t a) b < t.length) (fun a => t.length - (intOf a).toNat)
  case atStart => exact ⟨0, by omega, rfl, fun i hi => absurd hi (by omega)⟩
  case round =>
    obtain ⟨k, hk, rfl, hs⟩ := hrel
    have HS := Lib.hid hs
    clear hs
    by_cases hlt : k < t.length
    · have hrow := HT.out.row_ hlt
      by_cases hlen : (row t k).length = t.length
      · have hne : (((row t k).length : Int) != (t.length : Int)) = false := by simp [hlen]
        have HLEN := Lib.hid hlen
        have hl8 : (row t k).length ≤ 8 := by omega
        clear hlen
        go_wp2
        clear hne hrow
        go_loop [28] (fun a => ∃ j : Nat, j ≤ (row t k).length ∧ a = .int .i64 j ∧ ∀ b, b < j → 0 ≤ nth (row t k) b ∧ nth (row t k) b < t.length) (fun a => (row t k).length - (intOf a).toNat)
        case atStart => exact ⟨0, by omega, rfl, fun i hi => absurd hi (by omega)⟩
        case round =>
          obtain ⟨j, hj, rfl, hs2⟩ := hrel
          have HS2 := Lib.hid hs2
          clear hs2
          by_cases hlt2 : j < (row t k).length
          · obtain ⟨b', o', hR', hb', hcell⟩ := HT.out.ent_ hlt hlt2
            rw [hR']
            clear hR'
            by_cases hrg : nth (row t k) j < 0
            · go_wp2
              go_ret
              exact ⟨by rw [show tabB t = false by simp only [tabB, decide_eq_false_iff_not]; exact fun h => by have := h.rng k hlt j (by rw [← HLEN.out]; exact hlt2); omega]; rfl, rfl⟩
            · by_cases hrg2 : (t.length : Int) ≤ nth (row t k) j
              · go_wp2
                go_ret
                exact ⟨by rw [show tabB t = false by simp only [tabB, decide_eq_false_iff_not]; exact fun h => by have := h.rng k hlt j (by rw [← HLEN.out]; exact hlt2); omega]; rfl, rfl⟩
              · go_wp2
                go_round
                case rel => exact ⟨j + 1, by omega, by go_num, fun i hi => by
                  rcases Nat.lt_or_ge i j with h | h
                  · exact HS2.out i h
                  · obtain rfl : i = j := by omega
                    omega⟩
                case measure => simp [intOf]; omega
          · have hjj : j = (row t k).length := by omega
            subst hjj
            go_wp2
            go_round
            case rel => exact ⟨k + 1, by omega, by go_num, fun i hi => by
              rcases Nat.lt_or_ge i k with h | h
              · exact HS.out i h
              · obtain rfl : i = k := by omega
                exact ⟨HLEN.out, fun b hb => HS2.out b (by rw [HLEN.out]; exact hb)⟩⟩
            case measure => simp [intOf]; omega
      · have hne : (((row t k).length : Int) != (t.length : Int)) = true := by rw [bne_iff_ne]; omega
        have HLEN := Lib.hid hlen
        clear hlen
        go_wp2
        go_ret
        exact ⟨by rw [show tabB t = false by simp only [tabB, decide_eq_false_iff_not]; exact fun h => HLEN.out (h.sq k hlt)]; rfl, rfl⟩
    · have hkk : k = t.length := by omega
      subst hkk
      go_wp2
      go_ret
      exact ⟨by rw [show tabB t = true by simp only [tabB, decide_eq_true_eq]; exact ⟨by omega, by omega, fun a h => (HS.out a h).1, fun a h => (HS.out a h).2⟩]; rfl, rfl⟩

end Go.Proofs.YtdehalkebneaoaaDoor
