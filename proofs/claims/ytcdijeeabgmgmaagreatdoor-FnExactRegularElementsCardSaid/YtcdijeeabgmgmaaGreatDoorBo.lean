/- The value of a boundary at a list: the program's sum of faces. -/
import Derived.IntWalk
import Derived.Test.YtcdijeeabgmgmaaGreatDoorFo
namespace Go.Proofs.YtcdijeeabgmgmaaGreatDoor
open Go.RowKit

theorem flat_len (F : Nat → Int) (V : Nat → Value) : ∀ i, ((List.range i).flatMap fun j => [Value.int .i64 (F j), V j]).length = i * 2
  | 0 => rfl
  | i + 1 => by
    rw [List.range_succ, List.flatMap_append, List.length_append, flat_len F V i]
    simp
    omega
theorem flat_at (F : Nat → Int) (V : Nat → Value) : ∀ i j, j < i → ((List.range i).flatMap fun j => [Value.int .i64 (F j), V j])[j * 2]? = some (.int .i64 (F j)) ∧ ((List.range i).flatMap fun j => [Value.int .i64 (F j), V j])[j * 2 + 1]? = some (V j)
  | i + 1, j, hj => by
    rw [List.range_succ, List.flatMap_append]
    have hl := flat_len F V i
    by_cases h : j < i
    · have := flat_at F V i j h
      rw [List.getElem?_append_left (by omega), List.getElem?_append_left (by omega)]
      exact this
    · obtain rfl : j = i := by omega
      rw [List.getElem?_append_right (by omega), List.getElem?_append_right (by omega), hl]
      simp
/-- Where the faces lie. -/
theorem FcsW.cells {w : World} {lo i n : Nat} {v : Value} {F : Nat → Int} {X : Nat → List Int} (h : FcsW w lo v i n F X) (hp : 0 < i) : ∃ (g c : Nat) (V : Nat → Value), v = .slice (some ⟨g, 0, none⟩) i c ∧ g < w.heap.size ∧
    ∀ j, j < i → w.cell? ⟨g, j * 2, none⟩ = some (.int .i64 (F j)) ∧ w.cell? ⟨g, j * 2 + 1, none⟩ = some (V j) ∧ ∃ A c, V j = .slice A n c ∧ IntsW w A (X j) := by
  obtain ⟨V, h1, h2⟩ := h
  rcases h1.2 with ⟨_, e⟩ | ⟨g, cap, cur, e1, e2, e3, _⟩
  · omega
  · rw [e1] at h1
    refine ⟨g, cap, V, e1, (Array.getElem?_eq_some_iff.1 e3).1, fun j hj => ?_⟩
    obtain ⟨A, c, e, hx⟩ := h2 j hj
    exact ⟨(h1.cellAt (j * 2) (by omega)).trans (flat_at F V i j hj).1, (h1.cellAt (j * 2 + 1) (by omega)).trans (flat_at F V i j hj).2, A, c, e, hx.ints⟩

/-- The sum of the first numbers. -/
def sumT (T : Nat → Int) : Nat → Int
  | 0 => 0
  | k + 1 => sumT T k + T k
theorem sumT_bound {T : Nat → Int} {n : Nat} (h : ∀ j, j < n → -200 ≤ T j ∧ T j ≤ 200) : ∀ k, k ≤ n → -(200 * (k : Int)) ≤ sumT T k ∧ sumT T k ≤ 200 * (k : Int)
  | 0, _ => by simp [sumT]
  | k + 1, hk => by
    have h1 := sumT_bound h k (by omega)
    have h2 := h k (by omega)
    rw [sumT]
    omega

set_option maxRecDepth 100000 in
set_option maxHeartbeats 2000000 in
theorem sumOfF_any (v : Value) (lo i n M : Nat) (F : Nat → Int) (X : Nat → List Int) (kf : Nat) (cap : Array Value) (T : Nat → Int) (w : World) (hF : FcsW w lo v i n F X) (hip : 0 < i) (hi5 : i ≤ 5) (hM : 0 < M) (hM12 : M ≤ 12)
    (eg : ∀ args w, (callFunc kf args).run Tryz.prog w = .ok (.enter kf args) w) (hT : ∀ j, j < i → -200 ≤ T j ∧ T j ≤ 200)
    (hC : ∀ W', Ex w W' → ∀ j, j < i → ∀ A c, IntsW W' A (X j) → Calls Tryz.prog kf (#[.agg #[.int .i64 (F j), .slice A n c]] ++ cap) W' fun e w' => e = .returned (.int .i64 (T j)) ∧ Ex W' w') :
    Calls Tryz.prog 158 #[.int .i64 (M : Int), v, .func (.func kf) #[] cap] w fun e w' => e = .returned (.int .i64 (sumT T i % (M : Int))) ∧ Ex w w' := by
  obtain ⟨g, c, V, rfl, hg, hl⟩ := hF.cells hip
  have HSB := Lib.hid (sumT_bound hT)
  have HL := Lib.hid hl
  have HCC := Lib.hid hC
  have HT := Lib.hid hT
  have HEG := Lib.hid eg
  clear hF hl hC hT eg
  go_enter Tryz.func158, Tryz.ntmps158
  go_wp2_with fail
  go_loopw [7, 12] (fun s i' wr => ∃ j : Nat, j ≤ i ∧ i' = .int .i64 (j : Int) ∧ s = .int .i64 (sumT T j) ∧ Hid (Ex w wr)) (fun _ i' _ => i - (intOf i').toNat)
  case atStart => exact ⟨0, Nat.zero_le _, rfl, rfl, Lib.hid (Ex.refl _)⟩
  case round =>
    obtain ⟨j, hj, rfl, rfl, HE⟩ := hrel
    by_cases hlt : j < i
    · obtain ⟨h0, h1, A, cA, hA, hX⟩ := HL.out j hlt
      rw [hA] at h1
      have c0 := (HE.out.below.cell (p := ⟨g, j * 2, none⟩) hg).trans h0
      have c1 := (HE.out.below.cell (p := ⟨g, j * 2 + 1, none⟩) hg).trans h1
      have hb := HSB.out (j + 1) (by omega)
      have hb2 := HSB.out j (by omega)
      have hv := HT.out j hlt
      have HSE := Lib.hid (show sumT T (j + 1) = sumT T j + T j from rfl)
      rw [HSE.out] at hb
      have HFJ := Lib.hid (fun W' (he : Ex w W') => HCC.out W' he j hlt A cA (hX.ex he))
      generalize sumT T j = s at *
      generalize T j = tv at *
      generalize F j = f at *
      have hegw := HEG.out
      clear h0 h1 hA hX
      go_wp2_with fail
      refine (HFJ.out _ (HE.out.alloc _)).mono ?_
      rintro e w' ⟨rfl, he⟩
      have HE2 := Lib.hid ((HE.out.alloc _).trans he)
      clear he hegw
      go_wp2_with fail
      go_roundw
      case rel => exact ⟨j + 1, by omega, by go_num, by rw [HSE.out], HE2⟩
      case measure => simp [intOf]; omega
    · obtain rfl : j = i := by omega
      have hb2 := HSB.out j (by omega)
      obtain ⟨s, hs⟩ : ∃ s, sumT T j = s := ⟨_, rfl⟩
      have HSS := Lib.hid hs
      rw [hs] at hb2 ⊢
      clear hs
      go_wp2_with (go_at_call 97; refine (restOf_w s M _ hM hM12 (by omega) (by omega)).mono ?_; rintro e w' ⟨rfl, rfl⟩)
      go_ret
      exact ⟨by rw [HSS.out]; rfl, HE.out⟩

end Go.Proofs.YtcdijeeabgmgmaaGreatDoor
