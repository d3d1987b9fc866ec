/- l03Cocycle: the specification's test. -/
import Derived.IntWalk
import Derived.Deep.RegionHeld3
import Derived.Test.YtcdijeeabgmgmaaGreatDoorSf
import Derived.Test.YtcdijeeabgmgmaaGreatDoorBv
namespace Go.Proofs.YtcdijeeabgmgmaaGreatDoor
open Go.RowKit

set_option maxRecDepth 100000 in
set_option maxHeartbeats 4000000 in
theorem l03Cocycle_any (A U F : Option Addr) (t : List (List Int)) (M n : Nat) (us fs : List Int) (c0 c1 c2 : Nat) (w : World) (hR : RwsW w A t) (hU : IntsW w U us) (hF : IntsW w F fs) (hm : ModF t M us) (hn3 : n ≤ 3) (hfl : fs.length = cellsN t.length n) (hfr : InR M fs) :
    Calls Tryz.prog 69 #[.agg #[.slice A t.length c0], .agg #[.int .i64 (M : Int), .slice U us.length c1], .agg #[.int .i64 (n : Int), .slice F fs.length c2]] w fun e w' => e = .returned (.bool (cyB t M n us fs)) ∧ Ex w w' := by
  have e0 : Ex w (((w.alloc (.cells #[.slice A t.length c0] 32)).alloc (.cells #[.int .i64 (M : Int), .slice U us.length c1] 52)).alloc (.cells #[.int .i64 (n : Int), .slice F fs.length c2] 34)) := (((Ex.refl w).alloc _).alloc _).alloc _
  have b0 : Has (((w.alloc (.cells #[.slice A t.length c0] 32)).alloc (.cells #[.int .i64 (M : Int), .slice U us.length c1] 52)).alloc (.cells #[.int .i64 (n : Int), .slice F fs.length c2] 34)) (w.heap.size) 32 #[.slice A t.length c0] := (((Has.newAt (w := w) (e := 32) (cs := #[.slice A t.length c0]) (k := w.heap.size) (by simp)).alloc _).alloc _)
  have b1 : Has (((w.alloc (.cells #[.slice A t.length c0] 32)).alloc (.cells #[.int .i64 (M : Int), .slice U us.length c1] 52)).alloc (.cells #[.int .i64 (n : Int), .slice F fs.length c2] 34)) (w.heap.size + 1) 52 #[.int .i64 (M : Int), .slice U us.length c1] := ((Has.newAt (w := (w.alloc (.cells #[.slice A t.length c0] 32))) (e := 52) (cs := #[.int .i64 (M : Int), .slice U us.length c1]) (k := w.heap.size + 1) (by simp)).alloc _)
  have b2 : Has (((w.alloc (.cells #[.slice A t.length c0] 32)).alloc (.cells #[.int .i64 (M : Int), .slice U us.length c1] 52)).alloc (.cells #[.int .i64 (n : Int), .slice F fs.length c2] 34)) (w.heap.size + 1 + 1) 34 #[.int .i64 (n : Int), .slice F fs.length c2] := (Has.newAt (w := ((w.alloc (.cells #[.slice A t.length c0] 32)).alloc (.cells #[.int .i64 (M : Int), .slice U us.length c1] 52))) (e := 34) (cs := #[.int .i64 (n : Int), .slice F fs.length c2]) (k := w.heap.size + 1 + 1) (by simp))
  have HE0 := Lib.hid e0
  have HB0 := Lib.hid b0
  have HB1 := Lib.hid b1
  have HB2 := Lib.hid b2
  have hN8 := hm.g.n8
  have hN1 := hm.g.n1
  have hwn : IntKind.i64.wrap ((n : Int) + 1) = (n : Int) + 1 := IntWalk.i64_in _ (by omega)
  have hpn : ((n + 1 : Nat) : Int) = (n : Int) + 1 := by omega
  have hCC := fun W => l03Cells_any A t.length c0 (n + 1) W hN8 hN1 (by omega)
  have hc24 := cellsN_le hN8 (show n + 1 ≤ 4 by omega)
  have hLI := fun k (h : k < cellsN t.length (n + 1)) W => l03List_c A t.length c0 (n + 1) k W hN8 (.inr (cells_p1 h)) hN1 (by omega) (by omega)
  have HSI := Lib.hid (fun k (h : k < cellsN t.length (n + 1)) g e W (he : Ex w W) (hX : IntsW W (some ⟨g, 0, none⟩) (lsL t.length (n + 1) k)) (hle : n + 1 ≤ e) => l03Side_any A U F g 0 t M n us fs (lsL t.length (n + 1) k) c0 c1 c2 e W (hR.ex he) (hU.ex he) (hF.ex he) hm hX (lsL_in (.inr (cells_p1 h))) (lsL_len ..) hn3 hle hfl hfr)
  rw [hpn] at hCC hLI
  have HT := Lib.hid (fun h => cyB_true (t := t) (M := M) (n := n) (us := us) (fs := fs) h)
  have HFA := Lib.hid (fun h => cyB_false (t := t) (M := M) (n := n) (us := us) (fs := fs) h)
  have HLI := Lib.hid hLI
  have HCC := Lib.hid hCC
  obtain ⟨R, hRe⟩ : ∃ R, cyB t M n us fs = R := ⟨_, rfl⟩
  obtain ⟨f, hf⟩ : ∃ f : Nat → Int, f = fun k => bdV t M us fs (lsL t.length (n + 1) k) := ⟨_, rfl⟩
  have hfk : ∀ k, bdV t M us fs (lsL t.length (n + 1) k) = f k := fun k => by rw [hf]
  simp only [hfk] at HSI HT HFA
  obtain ⟨cn, hcn⟩ : ∃ cn, cellsN t.length (n + 1) = cn := ⟨_, rfl⟩
  rw [hcn] at HCC HLI HSI hc24 HT HFA
  rw [hRe] at HT HFA ⊢
  clear hR hU hF hm hfl hfr hpn hCC hLI hRe hf hfk hcn e0 b0 b1 b2
  go_enter Tryz.func69, Tryz.ntmps69
  go_wp2_with fail
  generalize (((w.alloc (.cells #[.slice A t.length c0] 32)).alloc (.cells #[.int .i64 (M : Int), .slice U us.length c1] 52)).alloc (.cells #[.int .i64 (n : Int), .slice F fs.length c2] 34)) = W0 at *
  go_loopw [7] (fun i wr => ∃ k : Nat, k ≤ cn ∧ i = .int .i64 (k : Int) ∧ Hid (∀ j, j < k → f j = 0) ∧ Hid (Ex W0 wr)) (fun i _ => cn - (intOf i).toNat)
  case atStart => exact ⟨0, Nat.zero_le _, rfl, Lib.hid fun j hj => absurd hj (by omega), Lib.hid (Ex.refl _)⟩
  case round =>
    obtain ⟨k, hk, rfl, HZ, HE⟩ := hrel
    have cg := (HB0.out.ex HE.out).cell 0
    have cf := (HB2.out.ex HE.out).cell 0
    go_wp2_with fail
    refine (HCC.out _).mono ?_
    rintro e W2 ⟨rfl, he2⟩
    have HE2 := Lib.hid (HE.out.trans he2)
    clear he2 cg cf HE
    by_cases hlt : k < cn
    · have HA0 := Lib.hid (HB0.out.ex HE2.out)
      have HA1 := Lib.hid (HB1.out.ex HE2.out)
      have HA2 := Lib.hid (HB2.out.ex HE2.out)
      have HLK := Lib.hid (HLI.out k hlt)
      have HSK := Lib.hid (HSI.out k hlt)
      have hC0 := And.intro (HA0.out.cell 0) (And.intro (HA1.out.cell 0) (And.intro (HA1.out.cell 1) (And.intro (HA2.out.cell 0) (HA2.out.cell 1))))
      obtain ⟨z, hze⟩ : ∃ z, f k = z := ⟨_, rfl⟩
      have HFZ := Lib.hid hze
      rw [hze] at HSK
      clear hze
      go_wp2_with fail
      refine Late.region (C := fun w' => w'.cell? ⟨w.heap.size, 0, none⟩ = some (.slice A t.length c0) ∧ w'.cell? ⟨w.heap.size + 1, 0, none⟩ = some (.int .i64 (M : Int)) ∧ w'.cell? ⟨w.heap.size + 1, 1, none⟩ = some (.slice U us.length c1) ∧ w'.cell? ⟨w.heap.size + 1 + 1, 0, none⟩ = some (.int .i64 (n : Int)) ∧ w'.cell? ⟨w.heap.size + 1 + 1, 1, none⟩ = some (.slice F fs.length c2)) (fun _ => true) (by kernel_rfl) hC0 (fun hC => ?_)
      refine Late.take (i := 0) (oi := _) (v := ?_) rfl (by kernel_rfl) (by kernel_rfl) (by kernel_rfl) (by kernel_rfl) (fun _ _ _ h => h) (Or.inl ⟨by rfl, ?_⟩) hC ?_
      rotate_left
      · (intro w hSw; (try dsimp only at hSw); go_simp; first | done | with_reducible rfl)
      simp only [Act.put]
      refine Late.take (i := 1) (oi := _) (v := ?_) rfl (by kernel_rfl) (by kernel_rfl) (by kernel_rfl) (by kernel_rfl) (fun _ _ _ h => h) (Or.inl ⟨by rfl, ?_⟩) hC ?_
      rotate_left
      · (intro w hSw; (try dsimp only at hSw); go_simp; first | done | with_reducible rfl)
      simp only [Act.put]
      refine Late.take (i := 2) (oi := _) (v := ?_) rfl (by kernel_rfl) (by kernel_rfl) (by kernel_rfl) (by kernel_rfl) (fun _ _ _ h => h) (Or.inl ⟨by rfl, ?_⟩) hC ?_
      rotate_left
      · (intro w hSw; (try dsimp only at hSw); go_simp; first | done | with_reducible rfl)
      simp only [Act.put]
      refine Late.take (i := 3) (oi := _) (v := ?_) rfl (by kernel_rfl) (by kernel_rfl) (by kernel_rfl) (by kernel_rfl) (fun _ _ _ h => h) (Or.inl ⟨by rfl, ?_⟩) hC ?_
      rotate_left
      · (intro w hSw; (try dsimp only at hSw); go_simp; first | done | with_reducible rfl)
      simp only [Act.put]
      refine Late.take (i := 4) (oi := _) (v := ?_) rfl (by kernel_rfl) (by kernel_rfl) (by kernel_rfl) (by kernel_rfl) (fun _ _ _ h => h) (Or.inl ⟨by rfl, ?_⟩) hC ?_
      rotate_left
      · (intro w hSw; (try dsimp only at hSw); go_simp; first | done | with_reducible rfl)
      simp only [Act.put]
      refine Late.take (i := 5) (oi := _) (v := ?_) rfl (by kernel_rfl) (by kernel_rfl) (by kernel_rfl) (by kernel_rfl) (fun _ _ _ h => h) (Or.inl ⟨by rfl, ?_⟩) hC ?_
      rotate_left
      · (intro w hSw; (try dsimp only at hSw); go_simp; first | done | with_reducible rfl)
      simp only [Act.put]
      refine Late.take (i := 6) (oi := _) (v := ?_) rfl (by kernel_rfl) (by kernel_rfl) (by kernel_rfl) (by kernel_rfl) (fun _ _ _ h => h) (Or.inl ⟨by rfl, ?_⟩) hC ?_
      rotate_left
      · (intro w hSw; (try dsimp only at hSw); go_simp; first | done | with_reducible rfl)
      simp only [Act.put]
      refine Late.take (i := 7) (oi := _) (v := ?_) rfl (by kernel_rfl) (by kernel_rfl) (by kernel_rfl) (by kernel_rfl) (fun _ _ _ h => h) (Or.inl ⟨by rfl, ?_⟩) hC ?_
      rotate_left
      · (intro w hSw; (try dsimp only at hSw); go_simp; first | done | with_reducible rfl)
      simp only [Act.put]
      refine Late.one (i := 8) (o := _) (by kernel_rfl) rfl (fun K' hK' => ?_)
      go_simp
      try rw [hwn]
      refine (HLK.out W2.drew).mono ?_
      rintro e W5 ⟨L, n5, rfl, he5, ho5, hn5, g5, rfl⟩
      have hx5 : Ex W2 W5 := (Ex.refl W2).drew.trans he5
      have HX5 := Lib.hid ho5.ints
      have hC5 := And.intro ((HA0.out.ex hx5).cell 0) (And.intro ((HA1.out.ex hx5).cell 0) (And.intro ((HA1.out.ex hx5).cell 1) (And.intro ((HA2.out.ex hx5).cell 0) ((HA2.out.ex hx5).cell 1))))
      have HE5 := Lib.hid (HE2.out.trans hx5)
      have HXX := Lib.hid hx5
      refine hK'.out _ _ (fun _ => hC5) (fun _ => ?_)
      clear hK' K' hC hC0 he5 ho5 hx5
      try simp only [Act.put, List.setIfInBounds_toArray, List.set_cons_zero, List.set_cons_succ]
      refine Late.one (i := 9) (o := _) (by kernel_rfl) rfl (fun K' hK' => ?_)
      go_simp
      refine (HSK.out g5 n5 W5 (HE0.out.trans HE5.out) HX5.out hn5).mono ?_
      rintro e W6 ⟨rfl, he6⟩
      have hx6 := HXX.out.trans he6
      have HE6 := Lib.hid (HE2.out.trans hx6)
      have hC6 := And.intro ((HA0.out.ex hx6).cell 0) (And.intro ((HA1.out.ex hx6).cell 0) (And.intro ((HA1.out.ex hx6).cell 1) (And.intro ((HA2.out.ex hx6).cell 0) ((HA2.out.ex hx6).cell 1))))
      refine hK'.out _ _ (fun _ => hC6) (fun _ => ?_)
      clear hK' K' hC5 he6 hx6
      try simp only [Act.put, List.setIfInBounds_toArray, List.set_cons_zero, List.set_cons_succ]
      refine Late.take (i := 10) (oi := _) (v := ?_) rfl (by kernel_rfl) (by kernel_rfl) (by kernel_rfl) (by kernel_rfl) (fun _ _ _ h => h) (Or.inl ⟨by rfl, ?_⟩) hC6 ?_
      rotate_left
      · (intro w hSw; (try dsimp only at hSw); go_simp; first | done | with_reducible rfl)
      simp only [Act.put]
      refine Late.done (by kernel_rfl) ?_ _
      by_cases hz : z = 0
      · subst hz
        have HZ1 : Hid (∀ j, j < k + 1 → f j = 0) := Lib.hid (fun j hj => by
          rcases Nat.lt_or_ge j k with h | h
          · exact HZ.out j h
          · obtain rfl : j = k := by omega
            exact HFZ.out)
        go_wp2_with fail
        go_roundw
        case rel => exact ⟨k + 1, by omega, by go_num, HZ1, HE6⟩
        case measure => simp [intOf]; omega
      · have HFF := Lib.hid (HFA.out ⟨k, hlt, by rw [HFZ.out]; exact hz⟩)
        have hzb : (z != 0) = true := by simpa using hz
        go_wp2_with fail
        go_ret
        exact ⟨by rw [HFF.out]; rfl, HE0.out.trans HE6.out⟩
    · obtain rfl : cn = k := by omega
      have HTT := Lib.hid (HT.out HZ.out)
      go_wp2_with fail
      go_ret
      exact ⟨by rw [HTT.out]; rfl, HE0.out.trans HE2.out⟩

end Go.Proofs.YtcdijeeabgmgmaaGreatDoor
