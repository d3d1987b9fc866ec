/- slices.MinFunc of rows of int64 by slices.Compare. -/
import Derived.Test.YtfafccldngekgaaLd
namespace Go.Proofs.Ytfafccldngekgaa
open Go.RowKit

theorem enters_cmp : ∀ args w, (callFunc 91 args).run Try.prog w = .ok (.enter 91 args) w := enters_of Try.func91 (by kernel_rfl) rfl

set_option maxRecDepth 100000 in
set_option maxHeartbeats 4000000 in
theorem minFunc_any (b o n cap : Nat) (A : Nat → Option Addr) (R : Nat → List Int) (C : Nat → Nat) (w : World) (hn : 0 < n) (hn2 : n ≤ 1048576) (hc : ∀ i, i < n → w.cell? ⟨b, o + i, none⟩ = some (.slice (A i) (R i).length (C i))) (hb : b < w.heap.size) (hR : ∀ i, i < n → IntsW w (A i) (R i)) (hl : ∀ i, i < n → (R i).length ≤ 1048576) :
    Calls Try.prog 93 #[.slice (some ⟨b, o, none⟩) n cap, .func (.func 91) #[] #[]] w fun e w' => ∃ k, k < n ∧ e = .returned (.slice (A k) (R k).length (C k)) ∧ Ex w w' ∧ ∀ l, l < n → 0 ≤ lexC (R l) (R k) := by
  have HC := Lib.hid (fun i (hi : i < n) W (he : Ex w W) => (he.below.cell (p := ⟨b, o + i, none⟩) hb).trans (hc i hi))
  have HK := Lib.hid (fun i k (hi : i < n) (hk : k < n) W (he : Ex w W) => slicesCompare_w (A i) (A k) (R i) (R k) (C i) (C k) W ((hR i hi).ex he) ((hR k hk).ex he) (hl i hi) (hl k hk))
  have c0 : w.cell? ⟨b, o, none⟩ = some (.slice (A 0) (R 0).length (C 0)) := hc 0 hn
  have heg := enters_cmp
  have hn1 : ¬ (n : Int) < 1 := by omega
  have hn0 : (0 : Int) < (n : Int) := by omega
  clear hc hR hl
  go_enter Try.func93, Try.ntmps93
  go_wp2_with fail
  go_loopw [5, 6] (fun v i wr => ∃ j k : Nat, 1 ≤ j ∧ j ≤ n ∧ k < j ∧ i = .int .i64 (j : Int) ∧ v = .slice (A k) (R k).length (C k) ∧ Hid (Ex w wr) ∧ Hid (∀ l, l < j → 0 ≤ lexC (R l) (R k))) (fun _ i _ => n - (intOf i).toNat)
  case atStart => exact ⟨1, 0, Nat.le_refl _, hn, Nat.zero_lt_one, rfl, rfl, Lib.hid (Ex.refl _), Lib.hid fun l hl => by
    obtain rfl : l = 0 := by omega
    rw [lexC_same]
    exact Int.le_refl 0⟩
  case round =>
    obtain ⟨j, k, hj1, hj, hkj, rfl, rfl, HE, HS⟩ := hrel
    have hj0 : (0 : Int) ≤ (j : Int) := by omega
    by_cases hlt : j < n
    · have hjn : (j : Int) < (n : Int) := by omega
      have hcj := HC.out j hlt wr HE.out
      have HCJ := Lib.hid (HK.out j k hlt (by omega) wr HE.out)
      have HT := Lib.hid (fun l => lexC_trans (R l) (R j) (R k))
      have HSJ := Lib.hid (lexC_same (R j))
      obtain ⟨z, hz⟩ : ∃ z, lexC (R j) (R k) = z := ⟨_, rfl⟩
      rw [hz] at HCJ
      have HZ := Lib.hid hz
      clear hz c0
      by_cases hneg : z < 0
      · go_wp2_with fail
        refine HCJ.out.mono ?_
        rintro e w' ⟨rfl, rfl⟩
        go_wp2_with fail
        go_roundw
        case rel => exact ⟨j + 1, j, by omega, by omega, by omega, by go_num, rfl, HE, Lib.hid fun l hl => by
          rcases Nat.lt_or_ge l j with h | h
          · have h1 := HS.out l h
            rcases Int.lt_or_le (lexC (R l) (R j)) 0 with h2 | h2
            · have h3 := HT.out l h2 (by rw [HZ.out]; exact hneg)
              omega
            · exact h2
          · obtain rfl : l = j := by omega
            rw [HSJ.out]
            exact Int.le_refl 0⟩
        case measure => simp [intOf]; omega
      · go_wp2_with fail
        refine HCJ.out.mono ?_
        rintro e w' ⟨rfl, rfl⟩
        go_wp2_with fail
        go_roundw
        case rel => exact ⟨j + 1, k, by omega, by omega, by omega, by go_num, rfl, HE, Lib.hid fun l hl => by
          rcases Nat.lt_or_ge l j with h | h
          · exact HS.out l h
          · obtain rfl : l = j := by omega
            rw [HZ.out]
            omega⟩
        case measure => simp [intOf]; omega
    · obtain rfl : j = n := by omega
      go_wp2_with fail
      go_ret
      exact ⟨k, hkj, rfl, HE.out, HS.out⟩

end Go.Proofs.Ytfafccldngekgaa
