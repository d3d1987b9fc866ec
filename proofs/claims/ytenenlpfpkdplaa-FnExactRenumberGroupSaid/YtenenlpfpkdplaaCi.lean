/- Sets of elements, by the program. -/
import Derived.Test.YtenenlpfpkdplaaCs
import Derived.Test.YtenenlpfpkdplaaSm
import Derived.Test.YtenenlpfpkdplaaIsg
import Derived.Test.YtenenlpfpkdplaaBa
namespace Go.Proofs.Ytenenlpfpkdplaa
open Go.RowKit Go.Shelf

attribute [local go_sem] Oper.semAt_some

set_option maxRecDepth 100000 in
set_option maxHeartbeats 1000000 in
theorem setOf_any (L : Option Addr) (xs : List Int) (c N : Nat) (w : World) (hX : IntsW w L xs) (hx : xs.length ≤ 1048576) (hN : N ≤ 8) (hr : ∀ i, i < xs.length → 0 ≤ nth xs i ∧ nth xs i < N) :
    Calls Try.prog 60 #[.slice L xs.length c] w fun e w' => e = .returned (.int .u64 (bitsK xs xs.length : Int)) ∧ w = w' := by
  have HX := Lib.hid hX
  have HR := Lib.hid hr
  have HL := Lib.hid (fun k hk => lt256 hN (bitsK_lt hr k hk))
  clear hX hr
  go_enter Try.func60, Try.ntmps60
  go_wp2_with fail
  go_loop [3, 8] (fun s i => ∃ k : Nat, k ≤ xs.length ∧ i = .int .i64 (k : Int) ∧ s = .int .u64 (bitsK xs k : Int)) (fun _ i => xs.length - (intOf i).toNat)
  case atStart => exact ⟨0, Nat.zero_le _, rfl, rfl⟩
  case round =>
    obtain ⟨k, hk, rfl, rfl⟩ := hrel
    by_cases hlt : k < xs.length
    · obtain ⟨bx, ox, rfl, hbx, hcx⟩ := HX.out.ints.at_ hlt
      have hxr := HR.out k hlt
      obtain ⟨x, hx2⟩ : ∃ x : Nat, nth xs k = (x : Int) := ⟨(nth xs k).toNat, by omega⟩
      have hl2 := HL.out k hk
      have HBK : Hid (bitsK xs (k + 1) = bitsK xs k ||| 2 ^ x) := Lib.hid (by simp [bitsK, hx2])
      rw [hx2] at hcx hxr
      have hx8 : x < 8 := by omega
      obtain ⟨s, hs⟩ : ∃ s, bitsK xs k = s := ⟨_, rfl⟩
      rw [hs] at hl2 HBK ⊢
      clear hs hx2
      go_wp2_with (go_at_call 78; refine (with_any s x _ hl2 hx8).mono ?_; rintro e w' ⟨rfl, rfl⟩)
      go_round
      case rel => exact ⟨k + 1, by omega, by go_num, by rw [HBK.out]⟩
      case measure => simp [intOf]; omega
    · obtain rfl : k = xs.length := by omega
      go_wp2_with fail
      go_ret
      exact ⟨rfl, rfl⟩

end Go.Proofs.Ytenenlpfpkdplaa
