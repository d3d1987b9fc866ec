/- Tate groups by the program. -/
import Derived.Test.YtfnjpbjlikajbaaJe
namespace Go.Proofs.Ytfnjpbjlikajbaa
open Go.RowKit

/-- The numbers by which the kernel and the image of a degree are made. -/
def tA (M U N : Nat) (d : Int) : Nat := if d % 2 = 0 then U - 1 else hrn M U N
def tB (M U N : Nat) (d : Int) : Nat := if d % 2 = 0 then hrn M U N else U - 1
theorem tA_le {M U N : Nat} (d : Int) (hM : 0 < M) (hU : U < M) : tA M U N d < M := by
  unfold tA
  have := hrn_lt U hM N
  split <;> omega
theorem tB_le {M U N : Nat} (d : Int) (hM : 0 < M) (hU : U < M) : tB M U N d < M := by
  unfold tB
  have := hrn_lt U hM N
  split <;> omega

set_option maxHeartbeats 400000 in
theorem restOf_big (x : Int) (m : Nat) (w : World) (hm : 0 < m) (hm' : m ≤ 200) (_ : -1000000 ≤ x) (_ : x ≤ 1000000) :
    Calls Try.prog 56 #[.int .i64 x, .int .i64 (m : Int)] w fun e w' => e = .returned (.int .i64 (x % (m : Int))) ∧ w' = w := by
  have hb := tmodBig x m hm hm'
  have hw : wrap64 (Int.tmod x m + m) = Int.tmod x m + m := by unfold wrap64; omega
  rcases restIf x m (by omega) with ⟨g1, g2⟩ | ⟨g1, g2⟩
  · have g1' : decide (Int.tmod x m < 0) = true := by simp [g1]
    have G2 := Lib.hid g2
    have HW := Lib.hid hw
    clear g2 hw
    go_enter Try.func56, Try.ntmps56
    go_wp2
    go_ret
    refine ⟨?_, rfl⟩
    simp only [G2.out]
    rfl
  · have g1' : decide (Int.tmod x m < 0) = false := by simp [g1]
    have G2 := Lib.hid g2
    clear g2 hw
    go_enter Try.func56, Try.ntmps56
    go_wp2
    go_ret
    refine ⟨?_, rfl⟩
    simp only [G2.out]
    rfl

theorem commonDivisor_e (a b : Nat) (w : World) (ha : a ≤ 1048576) (hb : b ≤ 1048576) :
    Calls Try.prog 57 #[.int .i64 (a : Int), .int .i64 (b : Int)] w fun e w' => e = .returned (.int .i64 (Nat.gcd a b : Int)) ∧ Ex w w' := (commonDivisor_any a b w ha hb).mono fun _ _ ⟨h1, h2⟩ => ⟨h1, Ex.ofDrawn h2⟩

set_option maxRecDepth 100000 in
set_option maxHeartbeats 4000000 in
theorem tateGroup_any (N M U : Nat) (d : Int) (w : World) (hM : 2 ≤ M) (hM2 : M ≤ 200) (hU1 : 1 ≤ U) (hU : U < M) (hN : N ≤ 60) (hd0 : -1000 ≤ d) (hd1 : d ≤ 1000) :
    Calls Try.prog 46 #[.agg #[.int .i64 (N : Int), .int .i64 (M : Int), .int .i64 (U : Int)], .int .i64 d] w fun e w' => e = .returned (.agg #[.int .i64 (M : Int), .int .i64 ((M / Nat.gcd M (tA M U N d) : Nat) : Int), .int .i64 ((Nat.gcd M (tB M U N d) : Nat) : Int)]) ∧ Ex w w' := by
  have e0 : Ex w (((w.alloc (.cells #[.int .i64 (N : Int), .int .i64 (M : Int), .int .i64 (U : Int)] 44)).alloc (.cells #[.int .i64 0, .int .i64 0, .int .i64 0] 51)).alloc (.cells #[.func (.func 55) #[] #[], .func (.func 36) #[] #[]] 73)) := (((Ex.refl w).alloc _).alloc _).alloc _
  have b0 : Has (((w.alloc (.cells #[.int .i64 (N : Int), .int .i64 (M : Int), .int .i64 (U : Int)] 44)).alloc (.cells #[.int .i64 0, .int .i64 0, .int .i64 0] 51)).alloc (.cells #[.func (.func 55) #[] #[], .func (.func 36) #[] #[]] 73)) (w.heap.size) 44 #[.int .i64 (N : Int), .int .i64 (M : Int), .int .i64 (U : Int)] := (((Has.newAt (w := w) (e := 44) (cs := #[.int .i64 (N : Int), .int .i64 (M : Int), .int .i64 (U : Int)]) (k := w.heap.size) (by simp)).alloc _).alloc _)
  have b1 : Has (((w.alloc (.cells #[.int .i64 (N : Int), .int .i64 (M : Int), .int .i64 (U : Int)] 44)).alloc (.cells #[.int .i64 0, .int .i64 0, .int .i64 0] 51)).alloc (.cells #[.func (.func 55) #[] #[], .func (.func 36) #[] #[]] 73)) (w.heap.size + 1) 51 #[.int .i64 0, .int .i64 0, .int .i64 0] := ((Has.newAt (w := (w.alloc (.cells #[.int .i64 (N : Int), .int .i64 (M : Int), .int .i64 (U : Int)] 44))) (e := 51) (cs := #[.int .i64 0, .int .i64 0, .int .i64 0]) (k := w.heap.size + 1) (by simp)).alloc _)
  have b2 : Has (((w.alloc (.cells #[.int .i64 (N : Int), .int .i64 (M : Int), .int .i64 (U : Int)] 44)).alloc (.cells #[.int .i64 0, .int .i64 0, .int .i64 0] 51)).alloc (.cells #[.func (.func 55) #[] #[], .func (.func 36) #[] #[]] 73)) (w.heap.size + 1 + 1) 73 #[.func (.func 55) #[] #[], .func (.func 36) #[] #[]] := (Has.newAt (w := ((w.alloc (.cells #[.int .i64 (N : Int), .int .i64 (M : Int), .int .i64 (U : Int)] 44)).alloc (.cells #[.int .i64 0, .int .i64 0, .int .i64 0] 51))) (e := 73) (cs := #[.func (.func 55) #[] #[], .func (.func 36) #[] #[]]) (k := w.heap.size + 1 + 1) (by simp))
  have HB0 := Lib.hid b0
  have HB1 := Lib.hid b1
  have HB2 := Lib.hid b2
  have HE := Lib.hid e0
  have HRE := Lib.hid (fun W => restOf_big d 2 W (by omega) (by omega) (by omega) (by omega))
  have HDI := Lib.hid (fun W => difference_any (N : Int) (M : Int) U W hU1 (by omega))
  have HNO := Lib.hid (fun W => norm_any N M U W hM hM2 (by omega) hN)
  have hen1 := enters_of Try.func55 (by kernel_rfl) rfl
  have hen2 := enters_of Try.func36 (by kernel_rfl) rfl
  have hn1 := hrn_lt U (show 0 < M by omega) N
  clear b0 b1 b2 e0
  go_enter Try.func46, Try.ntmps46
  go_wp2_with fail
  generalize (((w.alloc (.cells #[.int .i64 (N : Int), .int .i64 (M : Int), .int .i64 (U : Int)] 44)).alloc (.cells #[.int .i64 0, .int .i64 0, .int .i64 0] 51)).alloc (.cells #[.func (.func 55) #[] #[], .func (.func 36) #[] #[]] 73)) = W0 at *
  refine (HRE.out W0).mono ?_
  rintro e w' ⟨rfl, rfl⟩
  have hz : w.heap.size + 1 + 1 < w'.heap.size := HB2.out.lt
  obtain ⟨W0, hW0⟩ : ∃ W0, w' = W0 := ⟨_, rfl⟩
  subst hW0
  obtain ⟨W0, rfl⟩ : ∃ W0 : World, W0 = w' := ⟨_, rfl⟩
  have HK := Lib.hid (fun (W' : World) (hb : Ex W0 W') => And.intro ((HB0.out.ex hb).cell 0) (And.intro ((HB0.out.ex hb).cell 1) (And.intro ((HB0.out.ex hb).cell 2) (And.intro ((HB2.out.ex hb).cell 0) ((HB2.out.ex hb).cell 1)))))
  by_cases hp : d % 2 = 0
  · have hp2 : d % ((2 : Nat) : Int) = 0 := hp
    rw [hp2]
    clear hp2
    have HQ : Hid (M / Nat.gcd M (tA M U N d) = M / Nat.gcd M (U - 1)) := Lib.hid (by rw [tA, if_pos hp])
    have HH : Hid (Nat.gcd M (tB M U N d) = Nat.gcd M (hrn M U N)) := Lib.hid (by rw [tB, if_pos hp])
    have HG1 := Lib.hid (fun W => commonDivisor_e M (U - 1) W (by omega) (by omega))
    have HG2 := Lib.hid (fun W => commonDivisor_e M (hrn M U N) W (by omega) (by omega))
    obtain ⟨g, hg⟩ : ∃ g, Nat.gcd M (U - 1) = g := ⟨_, rfl⟩
    have hg0 : 0 < g := by rw [← hg]; exact Nat.gcd_pos_of_pos_left _ (by omega)
    rw [hg] at HG1 HQ
    clear hg
    obtain ⟨h, hh⟩ : ∃ h, Nat.gcd M (hrn M U N) = h := ⟨_, rfl⟩
    rw [hh] at HG2 HH
    clear hh
    have hne : ¬ g = 0 := by omega
    have hql : M / g ≤ 200 := Nat.le_trans (Nat.div_le_self _ _) hM2
    have hqe : (M : Int) / (g : Int) = ((M / g : Nat) : Int) := by simp
    obtain ⟨q, hq⟩ : ∃ q, M / g = q := ⟨_, rfl⟩
    rw [hq] at hqe hql HQ
    have hwq : IntKind.i64.wrap ((M : Int) / (g : Int)) = (q : Int) := by rw [hqe]; exact IntWalk.i64_in _ (by omega)
    clear hq hqe
    obtain ⟨r, hr⟩ : ∃ r, hrn M U N = r := ⟨_, rfl⟩
    rw [hr] at HNO HG2
    clear hr
    obtain ⟨s, hs⟩ : ∃ s, U - 1 = s := ⟨_, rfl⟩
    rw [hs] at HDI HG1
    clear hs hM hM2 hU1 hU hN hd0 hd1 hn1
    clear hp
    have hw1 : IntKind.i64.wrap (1 : Int) = 1 := by decide
    have hC0 := HK.out _ (Ex.refl W0).drew
    go_wp2_with fail
    refine Late.region (C := fun w' => w'.cell? ⟨w.heap.size, 0, none⟩ = some (.int .i64 (N : Int)) ∧ w'.cell? ⟨w.heap.size, 1, none⟩ = some (.int .i64 (M : Int)) ∧ w'.cell? ⟨w.heap.size, 2, none⟩ = some (.int .i64 (U : Int)) ∧ w'.cell? ⟨w.heap.size + 1 + 1, 0, none⟩ = some (.func (.func 55) #[] #[]) ∧ w'.cell? ⟨w.heap.size + 1 + 1, 1, none⟩ = some (.func (.func 36) #[] #[])) (fun j => decide (j < 25)) (by kernel_rfl) hC0 (fun hC => ?_)
    refine Late.take (i := 0) (oi := ⟨_, _, _, _, _, _⟩) (v := ?_) rfl (by kernel_rfl) (by kernel_rfl) (by kernel_rfl) (by kernel_rfl) (fun _ _ _ h => h) (Or.inl ⟨by rfl, ?_⟩) hC ?_
    rotate_left
    · (intro w hSw; (try dsimp only at hSw); go_simp; first | done | with_reducible rfl)
    simp only [Act.put, List.setIfInBounds_toArray, List.set_cons_zero, List.set_cons_succ]
    refine Late.take (i := 1) (oi := ⟨_, _, _, _, _, _⟩) (v := ?_) rfl (by kernel_rfl) (by kernel_rfl) (by kernel_rfl) (by kernel_rfl) (fun _ _ _ h => h) (Or.inl ⟨by rfl, ?_⟩) hC ?_
    rotate_left
    · (intro w hSw; (try dsimp only at hSw); go_simp; first | done | with_reducible rfl)
    simp only [Act.put, List.setIfInBounds_toArray, List.set_cons_zero, List.set_cons_succ]
    refine Late.take (i := 2) (oi := ⟨_, _, _, _, _, _⟩) (v := ?_) rfl (by kernel_rfl) (by kernel_rfl) (by kernel_rfl) (by kernel_rfl) (fun _ _ _ h => h) (Or.inl ⟨by rfl, ?_⟩) hC ?_
    rotate_left
    · (intro w hSw; (try dsimp only at hSw); go_simp; first | done | with_reducible rfl)
    simp only [Act.put, List.setIfInBounds_toArray, List.set_cons_zero, List.set_cons_succ]
    refine Late.take (i := 3) (oi := ⟨_, _, _, _, _, _⟩) (v := ?_) rfl (by kernel_rfl) (by kernel_rfl) (by kernel_rfl) (by kernel_rfl) (fun _ _ _ h => h) (Or.inl ⟨by rfl, ?_⟩) hC ?_
    rotate_left
    · (intro w hSw; (try dsimp only at hSw); go_simp; first | done | with_reducible rfl)
    simp only [Act.put, List.setIfInBounds_toArray, List.set_cons_zero, List.set_cons_succ]
    refine Late.take (i := 4) (oi := ⟨_, _, _, _, _, _⟩) (v := ?_) rfl (by kernel_rfl) (by kernel_rfl) (by kernel_rfl) (by kernel_rfl) (fun _ _ _ h => h) (Or.inl ⟨by rfl, ?_⟩) hC ?_
    rotate_left
    · (intro w hSw; (try dsimp only at hSw); go_simp; first | done | with_reducible rfl)
    simp only [Act.put, List.setIfInBounds_toArray, List.set_cons_zero, List.set_cons_succ]
    refine Late.take (i := 5) (oi := ⟨_, _, _, _, _, _⟩) (v := ?_) rfl (by kernel_rfl) (by kernel_rfl) (by kernel_rfl) (by kernel_rfl) (fun _ _ _ h => h) (Or.inl ⟨by rfl, ?_⟩) hC ?_
    rotate_left
    · (intro w hSw; (try dsimp only at hSw); go_simp; first | done | with_reducible rfl)
    simp only [Act.put, List.setIfInBounds_toArray, List.set_cons_zero, List.set_cons_succ]
    refine Late.take (i := 6) (oi := ⟨_, _, _, _, _, _⟩) (v := ?_) rfl (by kernel_rfl) (by kernel_rfl) (by kernel_rfl) (by kernel_rfl) (fun _ _ _ h => h) (Or.inl ⟨by rfl, ?_⟩) hC ?_
    rotate_left
    · (intro w hSw; (try dsimp only at hSw); go_simp; first | done | with_reducible rfl)
    simp only [Act.put, List.setIfInBounds_toArray, List.set_cons_zero, List.set_cons_succ]
    refine Late.take (i := 7) (oi := ⟨_, _, _, _, _, _⟩) (v := ?_) rfl (by kernel_rfl) (by kernel_rfl) (by kernel_rfl) (by kernel_rfl) (fun _ _ _ h => h) (Or.inl ⟨by rfl, ?_⟩) hC ?_
    rotate_left
    · (intro w hSw; (try dsimp only at hSw); go_simp; first | done | with_reducible rfl)
    simp only [Act.put, List.setIfInBounds_toArray, List.set_cons_zero, List.set_cons_succ]
    refine Late.take (i := 8) (oi := ⟨_, _, _, _, _, _⟩) (v := ?_) rfl (by kernel_rfl) (by kernel_rfl) (by kernel_rfl) (by kernel_rfl) (fun _ _ _ h => h) (Or.inl ⟨by rfl, ?_⟩) hC ?_
    rotate_left
    · (intro w hSw; (try dsimp only at hSw); go_simp; first | done | with_reducible rfl)
    simp only [Act.put, List.setIfInBounds_toArray, List.set_cons_zero, List.set_cons_succ]
    refine Late.take (i := 9) (oi := ⟨_, _, _, _, _, _⟩) (v := ?_) rfl (by kernel_rfl) (by kernel_rfl) (by kernel_rfl) (by kernel_rfl) (fun _ _ _ h => h) (Or.inl ⟨by rfl, ?_⟩) hC ?_
    rotate_left
    · (intro w hSw; (try dsimp only at hSw); go_simp; first | done | with_reducible rfl)
    simp only [Act.put, List.setIfInBounds_toArray, List.set_cons_zero, List.set_cons_succ]
    refine Late.take (i := 10) (oi := ⟨_, _, _, _, _, _⟩) (v := ?_) rfl (by kernel_rfl) (by kernel_rfl) (by kernel_rfl) (by kernel_rfl) (fun _ _ _ h => h) (Or.inl ⟨by rfl, ?_⟩) hC ?_
    rotate_left
    · (intro w hSw; (try dsimp only at hSw); go_simp; first | done | with_reducible rfl)
    simp only [Act.put, List.setIfInBounds_toArray, List.set_cons_zero, List.set_cons_succ]
    refine Late.take (i := 14) (oi := ⟨_, _, _, _, _, _⟩) (v := ?_) rfl (by kernel_rfl) (by kernel_rfl) (by kernel_rfl) (by kernel_rfl) (fun _ _ _ h => h) (Or.inl ⟨by rfl, ?_⟩) hC ?_
    rotate_left
    · (intro w hSw; (try dsimp only at hSw); go_simp; first | done | with_reducible rfl)
    simp only [Act.put, List.setIfInBounds_toArray, List.set_cons_zero, List.set_cons_succ]
    refine Late.take (i := 15) (oi := ⟨_, _, _, _, _, _⟩) (v := ?_) rfl (by kernel_rfl) (by kernel_rfl) (by kernel_rfl) (by kernel_rfl) (fun _ _ _ h => h) (Or.inl ⟨by rfl, ?_⟩) hC ?_
    rotate_left
    · (intro w hSw; (try dsimp only at hSw); go_simp; first | done | with_reducible rfl)
    simp only [Act.put, List.setIfInBounds_toArray, List.set_cons_zero, List.set_cons_succ]
    refine Late.take (i := 16) (oi := ⟨_, _, _, _, _, _⟩) (v := ?_) rfl (by kernel_rfl) (by kernel_rfl) (by kernel_rfl) (by kernel_rfl) (fun _ _ _ h => h) (Or.inl ⟨by rfl, ?_⟩) hC ?_
    rotate_left
    · (intro w hSw; (try dsimp only at hSw); go_simp; first | done | with_reducible rfl)
    simp only [Act.put, List.setIfInBounds_toArray, List.set_cons_zero, List.set_cons_succ]
    refine Late.take (i := 17) (oi := ⟨_, _, _, _, _, _⟩) (v := ?_) rfl (by kernel_rfl) (by kernel_rfl) (by kernel_rfl) (by kernel_rfl) (fun _ _ _ h => h) (Or.inl ⟨by rfl, ?_⟩) hC ?_
    rotate_left
    · (intro w hSw; (try dsimp only at hSw); go_simp; first | done | with_reducible rfl)
    simp only [Act.put, List.setIfInBounds_toArray, List.set_cons_zero, List.set_cons_succ]
    refine Late.take (i := 18) (oi := ⟨_, _, _, _, _, _⟩) (v := ?_) rfl (by kernel_rfl) (by kernel_rfl) (by kernel_rfl) (by kernel_rfl) (fun _ _ _ h => h) (Or.inl ⟨by rfl, ?_⟩) hC ?_
    rotate_left
    · (intro w hSw; (try dsimp only at hSw); go_simp; first | done | with_reducible rfl)
    simp only [Act.put, List.setIfInBounds_toArray, List.set_cons_zero, List.set_cons_succ]
    refine Late.take (i := 19) (oi := ⟨_, _, _, _, _, _⟩) (v := ?_) rfl (by kernel_rfl) (by kernel_rfl) (by kernel_rfl) (by kernel_rfl) (fun _ _ _ h => h) (Or.inl ⟨by rfl, ?_⟩) hC ?_
    rotate_left
    · (intro w hSw; (try dsimp only at hSw); go_simp; first | done | with_reducible rfl)
    simp only [Act.put, List.setIfInBounds_toArray, List.set_cons_zero, List.set_cons_succ]
    refine Late.take (i := 20) (oi := ⟨_, _, _, _, _, _⟩) (v := ?_) rfl (by kernel_rfl) (by kernel_rfl) (by kernel_rfl) (by kernel_rfl) (fun _ _ _ h => h) (Or.inl ⟨by rfl, ?_⟩) hC ?_
    rotate_left
    · (intro w hSw; (try dsimp only at hSw); go_simp; first | done | with_reducible rfl)
    simp only [Act.put, List.setIfInBounds_toArray, List.set_cons_zero, List.set_cons_succ]
    refine Late.take (i := 21) (oi := ⟨_, _, _, _, _, _⟩) (v := ?_) rfl (by kernel_rfl) (by kernel_rfl) (by kernel_rfl) (by kernel_rfl) (fun _ _ _ h => h) (Or.inl ⟨by rfl, ?_⟩) hC ?_
    rotate_left
    · (intro w hSw; (try dsimp only at hSw); go_simp; first | done | with_reducible rfl)
    simp only [Act.put, List.setIfInBounds_toArray, List.set_cons_zero, List.set_cons_succ]
    refine Late.one (i := 11) (o := _) (by kernel_rfl) rfl (fun K' hK' => ?_)
    go_simp
    refine (HDI.out _).mono ?_
    rintro e w1 ⟨rfl, he1⟩
    have hx1 := (Ex.refl W0).drew.trans he1
    have hC1 := HK.out _ hx1
    refine hK'.out _ _ (fun _ => hC1) (fun _ => ?_)
    clear hK' K' hC hC0 he1
    try simp only [Act.put, List.setIfInBounds_toArray, List.set_cons_zero, List.set_cons_succ]
    refine Late.one (i := 12) (o := _) (by kernel_rfl) rfl (fun K' hK' => ?_)
    go_simp
    refine (HG1.out _).mono ?_
    rintro e w2 ⟨rfl, he2⟩
    have hx2 := hx1.trans he2
    have hC2 := HK.out _ hx2
    refine hK'.out _ _ (fun _ => hC2) (fun _ => ?_)
    clear hK' K' hC1 he2 hx1
    try simp only [Act.put, List.setIfInBounds_toArray, List.set_cons_zero, List.set_cons_succ]
    refine Late.take (i := 13) (oi := ⟨_, _, _, _, _, _⟩) (v := ?_) rfl (by kernel_rfl) (by kernel_rfl) (by kernel_rfl) (by kernel_rfl) (fun _ _ _ h => h) (Or.inl ⟨by rfl, ?_⟩) hC2 ?_
    rotate_left
    · (intro w hSw; (try dsimp only at hSw); go_simp; first | done | with_reducible rfl)
    simp only [Act.put, List.setIfInBounds_toArray, List.set_cons_zero, List.set_cons_succ]
    refine Late.one (i := 22) (o := _) (by kernel_rfl) rfl (fun K' hK' => ?_)
    go_simp
    refine (HNO.out _).mono ?_
    rintro e w3 ⟨rfl, he3⟩
    have hx3 := hx2.trans he3
    have hC3 := HK.out _ hx3
    refine hK'.out _ _ (fun _ => hC3) (fun _ => ?_)
    clear hK' K' hC2 he3 hx2
    try simp only [Act.put, List.setIfInBounds_toArray, List.set_cons_zero, List.set_cons_succ]
    refine Late.one (i := 23) (o := _) (by kernel_rfl) rfl (fun K' hK' => ?_)
    go_simp
    refine (HG2.out _).mono ?_
    rintro e w4 ⟨rfl, he4⟩
    have hx4 := hx3.trans he4
    have hC4 := HK.out _ hx4
    refine hK'.out _ _ (fun _ => hC4) (fun _ => ?_)
    clear hK' K' hC3 he4 hx3
    try simp only [Act.put, List.setIfInBounds_toArray, List.set_cons_zero, List.set_cons_succ]
    refine Late.one (i := 24) (o := _) (by kernel_rfl) rfl (fun K' hK' => ?_)
    go_simp
    refine hK'.out _ _ (fun _ => hC4) (fun _ => ?_)
    clear hK' K'
    try simp only [Act.put, List.setIfInBounds_toArray, List.set_cons_zero, List.set_cons_succ]
    have hbx := HB1.out.ex hx4
    have cb0 := hbx.cell 0
    have cb1 := hbx.cell 1
    have cb2 := hbx.cell 2
    have fb0 := hbx.free 0
    have fb1 := hbx.free 1
    have fb2 := hbx.free 2
    have hbl := hbx.lt
    refine Late.one (i := 25) (o := _) (by kernel_rfl) rfl (fun K' hK' => ?_)
    go_simp
    refine hK'.out _ _ (fun h => by cases h) (fun _ => ?_)
    clear hK' K' hC4
    try simp only [Act.put, List.setIfInBounds_toArray, List.set_cons_zero, List.set_cons_succ]
    refine Late.done (by kernel_rfl) ?_ _
    go_wp2_with fail
    have H4 := hbx.put3 (u := .int .i64 (M : Int)) (v := .int .i64 (q : Int)) (t := .int .i64 (h : Int))
    have c0 := H4.cell 0
    have c1 := H4.cell 1
    have c2 := H4.cell 2
    refine bodyPost_ret (v := .agg #[.int .i64 (M : Int), .int .i64 (q : Int), .int .i64 (h : Int)]) (by simp [results, Try.results46, go_sem, c0, c1, c2]) rfl ⟨by rw [HQ.out, HH.out], ?_⟩
    exact (((HE.out.trans hx4).setCell (by show w.heap.size ≤ w.heap.size + 1; omega) _).setCell (by show w.heap.size ≤ w.heap.size + 1; omega) _).setCell (by show w.heap.size ≤ w.heap.size + 1; omega) _
  · have hp2 : d % ((2 : Nat) : Int) = 1 := by omega
    rw [hp2]
    clear hp2
    have HQ : Hid (M / Nat.gcd M (tA M U N d) = M / Nat.gcd M (hrn M U N)) := Lib.hid (by rw [tA, if_neg (by omega)])
    have HH : Hid (Nat.gcd M (tB M U N d) = Nat.gcd M (U - 1)) := Lib.hid (by rw [tB, if_neg (by omega)])
    have HG1 := Lib.hid (fun W => commonDivisor_e M (hrn M U N) W (by omega) (by omega))
    have HG2 := Lib.hid (fun W => commonDivisor_e M (U - 1) W (by omega) (by omega))
    obtain ⟨g, hg⟩ : ∃ g, Nat.gcd M (hrn M U N) = g := ⟨_, rfl⟩
    have hg0 : 0 < g := by rw [← hg]; exact Nat.gcd_pos_of_pos_left _ (by omega)
    rw [hg] at HG1 HQ
    clear hg
    obtain ⟨h, hh⟩ : ∃ h, Nat.gcd M (U - 1) = h := ⟨_, rfl⟩
    rw [hh] at HG2 HH
    clear hh
    have hne : ¬ g = 0 := by omega
    have hql : M / g ≤ 200 := Nat.le_trans (Nat.div_le_self _ _) hM2
    have hqe : (M : Int) / (g : Int) = ((M / g : Nat) : Int) := by simp
    obtain ⟨q, hq⟩ : ∃ q, M / g = q := ⟨_, rfl⟩
    rw [hq] at hqe hql HQ
    have hwq : IntKind.i64.wrap ((M : Int) / (g : Int)) = (q : Int) := by rw [hqe]; exact IntWalk.i64_in _ (by omega)
    clear hq hqe
    obtain ⟨r, hr⟩ : ∃ r, hrn M U N = r := ⟨_, rfl⟩
    rw [hr] at HNO HG1
    clear hr
    obtain ⟨s, hs⟩ : ∃ s, U - 1 = s := ⟨_, rfl⟩
    rw [hs] at HDI HG2
    clear hs hM hM2 hU1 hU hN hd0 hd1 hn1
    clear hp
    have hw0 : IntKind.i64.wrap (0 : Int) = 0 := by decide
    have hC0 := HK.out _ (Ex.refl W0).drew
    go_wp2_with fail
    refine Late.region (C := fun w' => w'.cell? ⟨w.heap.size, 0, none⟩ = some (.int .i64 (N : Int)) ∧ w'.cell? ⟨w.heap.size, 1, none⟩ = some (.int .i64 (M : Int)) ∧ w'.cell? ⟨w.heap.size, 2, none⟩ = some (.int .i64 (U : Int)) ∧ w'.cell? ⟨w.heap.size + 1 + 1, 0, none⟩ = some (.func (.func 55) #[] #[]) ∧ w'.cell? ⟨w.heap.size + 1 + 1, 1, none⟩ = some (.func (.func 36) #[] #[])) (fun j => decide (j < 25)) (by kernel_rfl) hC0 (fun hC => ?_)
    refine Late.take (i := 0) (oi := ⟨_, _, _, _, _, _⟩) (v := ?_) rfl (by kernel_rfl) (by kernel_rfl) (by kernel_rfl) (by kernel_rfl) (fun _ _ _ h => h) (Or.inl ⟨by rfl, ?_⟩) hC ?_
    rotate_left
    · (intro w hSw; (try dsimp only at hSw); go_simp; first | done | with_reducible rfl)
    simp only [Act.put, List.setIfInBounds_toArray, List.set_cons_zero, List.set_cons_succ]
    refine Late.take (i := 1) (oi := ⟨_, _, _, _, _, _⟩) (v := ?_) rfl (by kernel_rfl) (by kernel_rfl) (by kernel_rfl) (by kernel_rfl) (fun _ _ _ h => h) (Or.inl ⟨by rfl, ?_⟩) hC ?_
    rotate_left
    · (intro w hSw; (try dsimp only at hSw); go_simp; first | done | with_reducible rfl)
    simp only [Act.put, List.setIfInBounds_toArray, List.set_cons_zero, List.set_cons_succ]
    refine Late.take (i := 2) (oi := ⟨_, _, _, _, _, _⟩) (v := ?_) rfl (by kernel_rfl) (by kernel_rfl) (by kernel_rfl) (by kernel_rfl) (fun _ _ _ h => h) (Or.inl ⟨by rfl, ?_⟩) hC ?_
    rotate_left
    · (intro w hSw; (try dsimp only at hSw); go_simp; first | done | with_reducible rfl)
    simp only [Act.put, List.setIfInBounds_toArray, List.set_cons_zero, List.set_cons_succ]
    refine Late.take (i := 3) (oi := ⟨_, _, _, _, _, _⟩) (v := ?_) rfl (by kernel_rfl) (by kernel_rfl) (by kernel_rfl) (by kernel_rfl) (fun _ _ _ h => h) (Or.inl ⟨by rfl, ?_⟩) hC ?_
    rotate_left
    · (intro w hSw; (try dsimp only at hSw); go_simp; first | done | with_reducible rfl)
    simp only [Act.put, List.setIfInBounds_toArray, List.set_cons_zero, List.set_cons_succ]
    refine Late.take (i := 4) (oi := ⟨_, _, _, _, _, _⟩) (v := ?_) rfl (by kernel_rfl) (by kernel_rfl) (by kernel_rfl) (by kernel_rfl) (fun _ _ _ h => h) (Or.inl ⟨by rfl, ?_⟩) hC ?_
    rotate_left
    · (intro w hSw; (try dsimp only at hSw); go_simp; first | done | with_reducible rfl)
    simp only [Act.put, List.setIfInBounds_toArray, List.set_cons_zero, List.set_cons_succ]
    refine Late.take (i := 5) (oi := ⟨_, _, _, _, _, _⟩) (v := ?_) rfl (by kernel_rfl) (by kernel_rfl) (by kernel_rfl) (by kernel_rfl) (fun _ _ _ h => h) (Or.inl ⟨by rfl, ?_⟩) hC ?_
    rotate_left
    · (intro w hSw; (try dsimp only at hSw); go_simp; first | done | with_reducible rfl)
    simp only [Act.put, List.setIfInBounds_toArray, List.set_cons_zero, List.set_cons_succ]
    refine Late.take (i := 6) (oi := ⟨_, _, _, _, _, _⟩) (v := ?_) rfl (by kernel_rfl) (by kernel_rfl) (by kernel_rfl) (by kernel_rfl) (fun _ _ _ h => h) (Or.inl ⟨by rfl, ?_⟩) hC ?_
    rotate_left
    · (intro w hSw; (try dsimp only at hSw); go_simp; first | done | with_reducible rfl)
    simp only [Act.put, List.setIfInBounds_toArray, List.set_cons_zero, List.set_cons_succ]
    refine Late.take (i := 7) (oi := ⟨_, _, _, _, _, _⟩) (v := ?_) rfl (by kernel_rfl) (by kernel_rfl) (by kernel_rfl) (by kernel_rfl) (fun _ _ _ h => h) (Or.inl ⟨by rfl, ?_⟩) hC ?_
    rotate_left
    · (intro w hSw; (try dsimp only at hSw); go_simp; first | done | with_reducible rfl)
    simp only [Act.put, List.setIfInBounds_toArray, List.set_cons_zero, List.set_cons_succ]
    refine Late.take (i := 8) (oi := ⟨_, _, _, _, _, _⟩) (v := ?_) rfl (by kernel_rfl) (by kernel_rfl) (by kernel_rfl) (by kernel_rfl) (fun _ _ _ h => h) (Or.inl ⟨by rfl, ?_⟩) hC ?_
    rotate_left
    · (intro w hSw; (try dsimp only at hSw); go_simp; first | done | with_reducible rfl)
    simp only [Act.put, List.setIfInBounds_toArray, List.set_cons_zero, List.set_cons_succ]
    refine Late.take (i := 9) (oi := ⟨_, _, _, _, _, _⟩) (v := ?_) rfl (by kernel_rfl) (by kernel_rfl) (by kernel_rfl) (by kernel_rfl) (fun _ _ _ h => h) (Or.inl ⟨by rfl, ?_⟩) hC ?_
    rotate_left
    · (intro w hSw; (try dsimp only at hSw); go_simp; first | done | with_reducible rfl)
    simp only [Act.put, List.setIfInBounds_toArray, List.set_cons_zero, List.set_cons_succ]
    refine Late.take (i := 10) (oi := ⟨_, _, _, _, _, _⟩) (v := ?_) rfl (by kernel_rfl) (by kernel_rfl) (by kernel_rfl) (by kernel_rfl) (fun _ _ _ h => h) (Or.inl ⟨by rfl, ?_⟩) hC ?_
    rotate_left
    · (intro w hSw; (try dsimp only at hSw); go_simp; first | done | with_reducible rfl)
    simp only [Act.put, List.setIfInBounds_toArray, List.set_cons_zero, List.set_cons_succ]
    refine Late.take (i := 14) (oi := ⟨_, _, _, _, _, _⟩) (v := ?_) rfl (by kernel_rfl) (by kernel_rfl) (by kernel_rfl) (by kernel_rfl) (fun _ _ _ h => h) (Or.inl ⟨by rfl, ?_⟩) hC ?_
    rotate_left
    · (intro w hSw; (try dsimp only at hSw); go_simp; first | done | with_reducible rfl)
    simp only [Act.put, List.setIfInBounds_toArray, List.set_cons_zero, List.set_cons_succ]
    refine Late.take (i := 15) (oi := ⟨_, _, _, _, _, _⟩) (v := ?_) rfl (by kernel_rfl) (by kernel_rfl) (by kernel_rfl) (by kernel_rfl) (fun _ _ _ h => h) (Or.inl ⟨by rfl, ?_⟩) hC ?_
    rotate_left
    · (intro w hSw; (try dsimp only at hSw); go_simp; first | done | with_reducible rfl)
    simp only [Act.put, List.setIfInBounds_toArray, List.set_cons_zero, List.set_cons_succ]
    refine Late.take (i := 16) (oi := ⟨_, _, _, _, _, _⟩) (v := ?_) rfl (by kernel_rfl) (by kernel_rfl) (by kernel_rfl) (by kernel_rfl) (fun _ _ _ h => h) (Or.inl ⟨by rfl, ?_⟩) hC ?_
    rotate_left
    · (intro w hSw; (try dsimp only at hSw); go_simp; first | done | with_reducible rfl)
    simp only [Act.put, List.setIfInBounds_toArray, List.set_cons_zero, List.set_cons_succ]
    refine Late.take (i := 17) (oi := ⟨_, _, _, _, _, _⟩) (v := ?_) rfl (by kernel_rfl) (by kernel_rfl) (by kernel_rfl) (by kernel_rfl) (fun _ _ _ h => h) (Or.inl ⟨by rfl, ?_⟩) hC ?_
    rotate_left
    · (intro w hSw; (try dsimp only at hSw); go_simp; first | done | with_reducible rfl)
    simp only [Act.put, List.setIfInBounds_toArray, List.set_cons_zero, List.set_cons_succ]
    refine Late.take (i := 18) (oi := ⟨_, _, _, _, _, _⟩) (v := ?_) rfl (by kernel_rfl) (by kernel_rfl) (by kernel_rfl) (by kernel_rfl) (fun _ _ _ h => h) (Or.inl ⟨by rfl, ?_⟩) hC ?_
    rotate_left
    · (intro w hSw; (try dsimp only at hSw); go_simp; first | done | with_reducible rfl)
    simp only [Act.put, List.setIfInBounds_toArray, List.set_cons_zero, List.set_cons_succ]
    refine Late.take (i := 19) (oi := ⟨_, _, _, _, _, _⟩) (v := ?_) rfl (by kernel_rfl) (by kernel_rfl) (by kernel_rfl) (by kernel_rfl) (fun _ _ _ h => h) (Or.inl ⟨by rfl, ?_⟩) hC ?_
    rotate_left
    · (intro w hSw; (try dsimp only at hSw); go_simp; first | done | with_reducible rfl)
    simp only [Act.put, List.setIfInBounds_toArray, List.set_cons_zero, List.set_cons_succ]
    refine Late.take (i := 20) (oi := ⟨_, _, _, _, _, _⟩) (v := ?_) rfl (by kernel_rfl) (by kernel_rfl) (by kernel_rfl) (by kernel_rfl) (fun _ _ _ h => h) (Or.inl ⟨by rfl, ?_⟩) hC ?_
    rotate_left
    · (intro w hSw; (try dsimp only at hSw); go_simp; first | done | with_reducible rfl)
    simp only [Act.put, List.setIfInBounds_toArray, List.set_cons_zero, List.set_cons_succ]
    refine Late.take (i := 21) (oi := ⟨_, _, _, _, _, _⟩) (v := ?_) rfl (by kernel_rfl) (by kernel_rfl) (by kernel_rfl) (by kernel_rfl) (fun _ _ _ h => h) (Or.inl ⟨by rfl, ?_⟩) hC ?_
    rotate_left
    · (intro w hSw; (try dsimp only at hSw); go_simp; first | done | with_reducible rfl)
    simp only [Act.put, List.setIfInBounds_toArray, List.set_cons_zero, List.set_cons_succ]
    refine Late.one (i := 11) (o := _) (by kernel_rfl) rfl (fun K' hK' => ?_)
    go_simp
    refine (HNO.out _).mono ?_
    rintro e w1 ⟨rfl, he1⟩
    have hx1 := (Ex.refl W0).drew.trans he1
    have hC1 := HK.out _ hx1
    refine hK'.out _ _ (fun _ => hC1) (fun _ => ?_)
    clear hK' K' hC hC0 he1
    try simp only [Act.put, List.setIfInBounds_toArray, List.set_cons_zero, List.set_cons_succ]
    refine Late.one (i := 12) (o := _) (by kernel_rfl) rfl (fun K' hK' => ?_)
    go_simp
    refine (HG1.out _).mono ?_
    rintro e w2 ⟨rfl, he2⟩
    have hx2 := hx1.trans he2
    have hC2 := HK.out _ hx2
    refine hK'.out _ _ (fun _ => hC2) (fun _ => ?_)
    clear hK' K' hC1 he2 hx1
    try simp only [Act.put, List.setIfInBounds_toArray, List.set_cons_zero, List.set_cons_succ]
    refine Late.take (i := 13) (oi := ⟨_, _, _, _, _, _⟩) (v := ?_) rfl (by kernel_rfl) (by kernel_rfl) (by kernel_rfl) (by kernel_rfl) (fun _ _ _ h => h) (Or.inl ⟨by rfl, ?_⟩) hC2 ?_
    rotate_left
    · (intro w hSw; (try dsimp only at hSw); go_simp; first | done | with_reducible rfl)
    simp only [Act.put, List.setIfInBounds_toArray, List.set_cons_zero, List.set_cons_succ]
    refine Late.one (i := 22) (o := _) (by kernel_rfl) rfl (fun K' hK' => ?_)
    go_simp
    refine (HDI.out _).mono ?_
    rintro e w3 ⟨rfl, he3⟩
    have hx3 := hx2.trans he3
    have hC3 := HK.out _ hx3
    refine hK'.out _ _ (fun _ => hC3) (fun _ => ?_)
    clear hK' K' hC2 he3 hx2
    try simp only [Act.put, List.setIfInBounds_toArray, List.set_cons_zero, List.set_cons_succ]
    refine Late.one (i := 23) (o := _) (by kernel_rfl) rfl (fun K' hK' => ?_)
    go_simp
    refine (HG2.out _).mono ?_
    rintro e w4 ⟨rfl, he4⟩
    have hx4 := hx3.trans he4
    have hC4 := HK.out _ hx4
    refine hK'.out _ _ (fun _ => hC4) (fun _ => ?_)
    clear hK' K' hC3 he4 hx3
    try simp only [Act.put, List.setIfInBounds_toArray, List.set_cons_zero, List.set_cons_succ]
    refine Late.one (i := 24) (o := _) (by kernel_rfl) rfl (fun K' hK' => ?_)
    go_simp
    refine hK'.out _ _ (fun _ => hC4) (fun _ => ?_)
    clear hK' K'
    try simp only [Act.put, List.setIfInBounds_toArray, List.set_cons_zero, List.set_cons_succ]
    have hbx := HB1.out.ex hx4
    have cb0 := hbx.cell 0
    have cb1 := hbx.cell 1
    have cb2 := hbx.cell 2
    have fb0 := hbx.free 0
    have fb1 := hbx.free 1
    have fb2 := hbx.free 2
    have hbl := hbx.lt
    refine Late.one (i := 25) (o := _) (by kernel_rfl) rfl (fun K' hK' => ?_)
    go_simp
    refine hK'.out _ _ (fun h => by cases h) (fun _ => ?_)
    clear hK' K' hC4
    try simp only [Act.put, List.setIfInBounds_toArray, List.set_cons_zero, List.set_cons_succ]
    refine Late.done (by kernel_rfl) ?_ _
    go_wp2_with fail
    have H4 := hbx.put3 (u := .int .i64 (M : Int)) (v := .int .i64 (q : Int)) (t := .int .i64 (h : Int))
    have c0 := H4.cell 0
    have c1 := H4.cell 1
    have c2 := H4.cell 2
    refine bodyPost_ret (v := .agg #[.int .i64 (M : Int), .int .i64 (q : Int), .int .i64 (h : Int)]) (by simp [results, Try.results46, go_sem, c0, c1, c2]) rfl ⟨by rw [HQ.out, HH.out], ?_⟩
    exact (((HE.out.trans hx4).setCell (by show w.heap.size ≤ w.heap.size + 1; omega) _).setCell (by show w.heap.size ≤ w.heap.size + 1; omega) _).setCell (by show w.heap.size ≤ w.heap.size + 1; omega) _

end Go.Proofs.Ytfnjpbjlikajbaa
