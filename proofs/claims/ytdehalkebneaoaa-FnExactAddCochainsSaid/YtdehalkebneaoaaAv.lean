/- AddCochains: the program's sum over parts. -/
import Derived.IntWalk
import Derived.Deep.RegionHeld3
import Derived.Deep.QuietTactic
import Derived.BigQuiet
import Derived.Test.YtdehalkebneaoaaRo
namespace Go.Proofs.Ytdehalkebneaoaa
open Go.RowKit

set_option maxRecDepth 100000 in
set_option maxHeartbeats 1000000 in
/-- What one part adds. -/
theorem addPart_any (k n : Int) (u i bx ox ln c Bi : Nat) (w : World) (hk0 : -1000 ≤ k) (hk1 : k ≤ 1000) (hu : u ≤ 12) (hi : w.cell? ⟨Bi, 0, none⟩ = some (.int .i64 (i : Int))) (hil : i < ln) (hc : w.cell? ⟨bx, ox + i, none⟩ = some (.int .i64 (u : Int))) :
    Calls Try.prog 96 #[.agg #[.int .i64 k, .int .i64 n, .slice (some ⟨bx, ox, none⟩) ln c], .pointer (some ⟨Bi, 0, none⟩)] w fun e w' => e = .returned (.int .i64 (k * (u : Int))) ∧ Ex w w' := by
  have hb0 : Bi < w.heap.size := World.block_lt_of_cell? _ _ hi
  have hb1 : bx < w.heap.size := World.block_lt_of_cell? _ _ hc
  have e0 := Ex.new w (.cells #[.int .i64 k, .int .i64 n, .slice (some ⟨bx, ox, none⟩) ln c] 106)
  have hi1 := (e0.below.cell (p := ⟨Bi, 0, none⟩) hb0).trans hi
  have hc1 := (e0.below.cell (p := ⟨bx, ox + i, none⟩) hb1).trans hc
  have hmb := mulBound (u := u) hk0 hk1 hu
  obtain ⟨z, hz⟩ : ∃ z, k * (u : Int) = z := ⟨_, rfl⟩
  rw [hz] at hmb ⊢
  have hw1 : IntKind.i64.wrap z = z := IntWalk.i64_in _ (by omega)
  have b0 := Has.new w 106 #[.int .i64 k, .int .i64 n, .slice (some ⟨bx, ox, none⟩) ln c]
  have p0 := b0.cell 0
  have p2 := b0.cell 2
  have HE := Lib.hid e0
  have hi0 : (0 : Int) ≤ (i : Int) := by omega
  have hil' : (i : Int) < (ln : Int) := by omega
  clear hi hc e0 b0
  go_enter Try.func96, Try.ntmps96
  go_wp2_with fail
  go_quiet (fail)
  go_wp2_with fail
  go_ret
  exact ⟨rfl, Ex.drewN HE.out _⟩

/-- The sum of the first numbers. -/
def sumV (V : Nat → Int) : Nat → Int
  | 0 => 0
  | j + 1 => sumV V j + V j
theorem sumV_bound {V : Nat → Int} {L : Nat} (hV : ∀ j, j < L → -20000 ≤ V j ∧ V j ≤ 20000) : ∀ j, j ≤ L → -20000 * (j : Int) ≤ sumV V j ∧ sumV V j ≤ 20000 * (j : Int) := by
  intro j
  induction j with
  | zero => exact fun _ => ⟨by simp [sumV], by simp [sumV]⟩
  | succ j ih =>
    intro hj
    have h1 := ih (by omega)
    have h2 := hV j (by omega)
    simp only [sumV]
    omega

set_option maxRecDepth 100000 in
set_option maxHeartbeats 2000000 in
theorem sumOfM_any (P L cP Bi M : Nat) (T N : Nat → Int) (A : Nat → Option Addr) (ln C : Nat → Nat) (V : Nat → Int) (w : World) (hM : 0 < M) (hM12 : M ≤ 12) (hL : L ≤ 8) (hP : P < w.heap.size)
    (h0 : ∀ j, j < L → w.cell? ⟨P, j * 3, none⟩ = some (.int .i64 (T j))) (h1 : ∀ j, j < L → w.cell? ⟨P, j * 3 + 1, none⟩ = some (.int .i64 (N j))) (h2 : ∀ j, j < L → w.cell? ⟨P, j * 3 + 2, none⟩ = some (.slice (A j) (ln j) (C j)))
    (hF : ∀ W', Ex w W' → ∀ j, j < L → Calls Try.prog 96 #[.agg #[.int .i64 (T j), .int .i64 (N j), .slice (A j) (ln j) (C j)], .pointer (some ⟨Bi, 0, none⟩)] W' fun e w' => e = .returned (.int .i64 (V j)) ∧ Ex W' w')
    (hV : ∀ j, j < L → -20000 ≤ V j ∧ V j ≤ 20000) :
    Calls Try.prog 95 #[.int .i64 (M : Int), .slice (some ⟨P, 0, none⟩) L cP, .func (.func 96) #[] #[.pointer (some ⟨Bi, 0, none⟩)]] w fun e w' => e = .returned (.int .i64 (sumV V L % (M : Int))) ∧ Ex w w' := by
  have HSB := Lib.hid (sumV_bound hV)
  have H0 := Lib.hid h0
  have H1 := Lib.hid h1
  have H2 := Lib.hid h2
  have HF := Lib.hid hF
  have HV := Lib.hid hV
  clear h0 h1 h2 hF hV
  go_enter Try.func95, Try.ntmps95
  go_wp2_with fail
  go_loopw [7, 12] (fun s i wr => ∃ j : Nat, j ≤ L ∧ i = .int .i64 (j : Int) ∧ s = .int .i64 (sumV V j) ∧ Hid (Ex w wr)) (fun _ i _ => L - (intOf i).toNat)
  case atStart => exact ⟨0, Nat.zero_le _, rfl, rfl, Lib.hid (Ex.refl _)⟩
  case round =>
    obtain ⟨j, hj, rfl, rfl, HE⟩ := hrel
    by_cases hlt : j < L
    · have c0 := (HE.out.below.cell (p := ⟨P, j * 3, none⟩) hP).trans (H0.out j hlt)
      have c1 := (HE.out.below.cell (p := ⟨P, j * 3 + 1, none⟩) hP).trans (H1.out j hlt)
      have c2 := (HE.out.below.cell (p := ⟨P, j * 3 + 2, none⟩) hP).trans (H2.out j hlt)
      have hb := HSB.out (j + 1) (by omega)
      have hb2 := HSB.out j (by omega)
      have hv := HV.out j hlt
      have HSE := Lib.hid (show sumV V (j + 1) = sumV V j + V j from rfl)
      rw [HSE.out] at hb
      have HFJ := Lib.hid (fun W' he => HF.out W' he j hlt)
      generalize sumV V j = s at *
      generalize V j = v at *
      generalize T j = tj at *
      generalize N j = nj at *
      generalize A j = aj at *
      generalize ln j = lj at *
      generalize C j = cj at *
      go_wp2_with (go_at_call 96; refine (HFJ.out _ (HE.out.alloc _)).mono ?_; rintro e w' ⟨rfl, he⟩; have HE2 := Lib.hid ((HE.out.alloc _).trans he); clear he)
      go_roundw
      case rel => exact ⟨j + 1, by omega, by go_num, by rw [HSE.out], HE2⟩
      case measure => simp [intOf]; omega
    · obtain rfl : j = L := by omega
      have hb2 := HSB.out j (by omega)
      obtain ⟨s, hs⟩ : ∃ s, sumV V j = s := ⟨_, rfl⟩
      have HSS := Lib.hid hs
      rw [hs] at hb2 ⊢
      clear hs
      go_wp2_with (go_at_call 119; refine (restOf_w s M _ hM hM12 (by omega) (by omega)).mono ?_; rintro e w' ⟨rfl, rfl⟩)
      go_ret
      exact ⟨by rw [HSS.out]; rfl, HE.out⟩

set_option maxRecDepth 100000 in
set_option maxHeartbeats 1000000 in
/-- One value of a sum of two cochains. -/
theorem addSum_any (P I M j : Nat) (k n n' : Int) (fs gs : List Int) (B2 B3 : Option Addr) (d2 d3 cP : Nat) (w : World) (hM : 0 < M) (hM12 : M ≤ 12) (hk0 : -1000 ≤ k) (hk1 : k ≤ 1000)
    (hP : Has w P 106 #[.int .i64 1, .int .i64 n, .slice B2 fs.length d2, .int .i64 k, .int .i64 n', .slice B3 gs.length d3]) (hI : w.cell? ⟨I, 0, none⟩ = some (.int .i64 (j : Int)))
    (hF : IntsW w B2 fs) (hG : IntsW w B3 gs) (hjf : j < fs.length) (hjg : j < gs.length) (hfr : InR M fs) (hgr : InR M gs) :
    Calls Try.prog 95 #[.int .i64 (M : Int), .slice (some ⟨P, 0, none⟩) 2 cP, .func (.func 96) #[] #[.pointer (some ⟨I, 0, none⟩)]] w fun e w' => e = .returned (.int .i64 ((nth fs j + k * nth gs j) % (M : Int))) ∧ Ex w w' := by
  have hIl : I < w.heap.size := World.block_lt_of_cell? _ _ hI
  obtain ⟨bx, ox, rfl, hbx, hcx⟩ := hF.ints.at_ hjf
  obtain ⟨by_, oy, rfl, hby, hcy⟩ := hG.ints.at_ hjg
  have hr1 := hfr j hjf
  have hr2 := hgr j hjg
  obtain ⟨u, hu⟩ : ∃ u : Nat, nth gs j = (u : Int) := ⟨(nth gs j).toNat, by omega⟩
  obtain ⟨f, hf⟩ : ∃ f : Nat, nth fs j = (f : Int) := ⟨(nth fs j).toNat, by omega⟩
  rw [hu] at hcy hr2 ⊢
  rw [hf] at hcx hr1 ⊢
  have h2 : ∀ l, l < 2 → l = 0 ∨ l = 1 := fun l hl => by omega
  have hm1 := mulBound (u := f) (k := 1) (by omega) (by omega) (by omega)
  have hm2 := mulBound (u := u) hk0 hk1 (by omega)
  have hcon := sumOfM_any P 2 cP I M (fun l => if l = 0 then 1 else k) (fun l => if l = 0 then n else n') (fun l => if l = 0 then some ⟨bx, ox, none⟩ else some ⟨by_, oy, none⟩) (fun l => if l = 0 then fs.length else gs.length) (fun l => if l = 0 then d2 else d3)
    (fun l => if l = 0 then 1 * (f : Int) else k * (u : Int)) w hM hM12 (by omega) hP.lt
    (fun l hl => by rcases h2 l hl with rfl | rfl; exact hP.cell 0; exact hP.cell 3) (fun l hl => by rcases h2 l hl with rfl | rfl; exact hP.cell 1; exact hP.cell 4) (fun l hl => by rcases h2 l hl with rfl | rfl; exact hP.cell 2; exact hP.cell 5)
    (fun W' he l hl => by
      have hI' := (he.below.cell (p := ⟨I, 0, none⟩) hIl).trans hI
      rcases h2 l hl with rfl | rfl
      · exact addPart_any 1 n f j bx ox fs.length d2 I W' (by omega) (by omega) (by omega) hI' hjf ((he.below.cell (p := ⟨bx, ox + j, none⟩) hbx).trans hcx)
      · exact addPart_any k n' u j by_ oy gs.length d3 I W' hk0 hk1 (by omega) hI' hjg ((he.below.cell (p := ⟨by_, oy + j, none⟩) hby).trans hcy))
    (fun l hl => by rcases h2 l hl with rfl | rfl <;> simp <;> omega)
  refine hcon.mono fun e w' ⟨h3, h4⟩ => ⟨?_, h4⟩
  rw [h3]
  simp [sumV]

end Go.Proofs.Ytdehalkebneaoaa
