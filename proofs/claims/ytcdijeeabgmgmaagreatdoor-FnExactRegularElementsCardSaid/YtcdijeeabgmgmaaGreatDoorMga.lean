/- mergedAt: a list in which two neighbours are merged. -/
import Derived.IntWalk
import Derived.Test.YtcdijeeabgmgmaaGreatDoorDf
namespace Go.Proofs.YtcdijeeabgmgmaaGreatDoor
open Go.RowKit

theorem clone_own (L : Option Addr) (xs : List Int) (c : Nat) (w : World) (hX : IntsW w L xs) (hp : 0 < xs.length) (hx : xs.length ≤ 1048576) :
    Calls Tryz.prog 167 #[.slice L xs.length c] w fun e w' => ∃ g c', e = .returned (.slice (some ⟨g, 0, none⟩) xs.length c') ∧ xs.length ≤ c' ∧ Ex w w' ∧ OwnL w' w.heap.size w'.heap.size (some ⟨g, 0, none⟩) xs ∧ TyB w' g := by
  refine (clone_any L xs c w hX hp hx).mono ?_
  rintro e w' ⟨A', c', rfl, he, hg⟩
  obtain ⟨A2, c2, e2, hO⟩ := hg.own
  simp only [Value.slice.injEq, true_and] at e2
  obtain ⟨rfl, rfl⟩ := e2
  rcases hg.1.2 with ⟨h1, h2⟩ | ⟨g, cap, cur, h1, h2, h3, h4, _⟩
  · simp only [Value.slice.injEq] at h1
    omega
  · simp only [Value.slice.injEq, true_and] at h1
    obtain ⟨rfl, rfl⟩ := h1
    exact ⟨g, _, rfl, h4, he, hO, cur, h3⟩

theorem mgd_set (t : List (List Int)) (L : List Int) {i : Nat} (h : i + 1 < L.length) : (L.take (i + 1) ++ L.drop (i + 2)).set i (mul t (nth L i).toNat (nth L (i + 1)).toNat : Int) = mgd t L i := by
  have hl : (L.take (i + 1) ++ L.drop (i + 2)).length = L.length - 1 := by
    rw [List.length_append, List.length_take, List.length_drop]
    omega
  refine eq_of_nth (by rw [List.length_set, hl, mgd_len h]) fun j hj => ?_
  rw [List.length_set, hl] at hj
  have h1 : (L.take (i + 1)).length = i + 1 := by rw [List.length_take]; omega
  have h2 : (L.take i).length = i := by rw [List.length_take]; omega
  rw [mgd, nth_append, h2]
  by_cases hji : j = i
  · subst hji
    rw [nth_set_same (by rw [hl]; exact hj), if_neg (by omega), nth_cons, if_pos (by omega)]
  · rw [nth_set_other hji, nth_append, h1]
    by_cases hlt : j < i
    · rw [if_pos (by omega), if_pos hlt, nth_take (by omega), nth_take (by omega)]
    · rw [if_neg (by omega), if_neg hlt, nth_cons, if_neg (by omega), nth_drop, nth_drop]
      congr 1

set_option maxRecDepth 100000 in
set_option maxHeartbeats 4000000 in
theorem mergedAt_any (A : Option Addr) (bl ol : Nat) (t : List (List Int)) (Ls : List Int) (c e i : Nat) (w : World) (hR : RwsW w A t) (hg : IsGrp t) (hX : IntsW w (some ⟨bl, ol, none⟩) Ls) (hr : InR t.length Ls) (hi : i + 1 < Ls.length) (hn8 : Ls.length ≤ 8) :
    Calls Tryz.prog 163 #[.agg #[.slice A t.length c], .slice (some ⟨bl, ol, none⟩) Ls.length e, .int .i64 ((i : Int) + 1)] w fun e w' => ∃ g e', e = .returned (.slice (some ⟨g, 0, none⟩) (Ls.length - 1) e') ∧ Ex w w' ∧ OwnL w' w.heap.size w'.heap.size (some ⟨g, 0, none⟩) (mgd t Ls i) ∧ TyB w' g := by
  obtain ⟨b, o, bb, oo, C, rfl, hQ⟩ := hR.sq hg
  have e0 : Ex w (w.alloc (.cells #[.slice (some ⟨b, o, none⟩) t.length c] 32)) := (Ex.refl w).alloc _
  have b0 : Has (w.alloc (.cells #[.slice (some ⟨b, o, none⟩) t.length c] 32)) (w.heap.size) 32 #[.slice (some ⟨b, o, none⟩) t.length c] := (Has.newAt (w := w) (e := 32) (cs := #[.slice (some ⟨b, o, none⟩) t.length c]) (k := w.heap.size) (by simp))
  have hr1 := hr i (by omega)
  have hr2 := hr (i + 1) hi
  obtain ⟨x, hx⟩ : ∃ x : Nat, nth Ls i = (x : Int) := ⟨(nth Ls i).toNat, by omega⟩
  obtain ⟨y, hy⟩ : ∃ y : Nat, nth Ls (i + 1) = (y : Int) := ⟨(nth Ls (i + 1)).toNat, by omega⟩
  have hxN : x < t.length := by omega
  have hyN : y < t.length := by omega
  have hq := hQ.ex e0
  have c1 := hq.row_ hxN
  have c2 := hq.ent_ hxN hyN
  rw [hg.ent hxN hyN] at c2
  have HMS := Lib.hid (mgd_set t Ls hi)
  have hmz : mul t (nth Ls i).toNat (nth Ls (i + 1)).toNat = mul t x y := by rw [hx, hy]; rfl
  rw [hmz] at HMS
  obtain ⟨z, hz⟩ : ∃ z, mul t x y = z := ⟨_, rfl⟩
  rw [hz] at c2 HMS
  obtain ⟨b', o', e', hbl, hcl⟩ : ∃ b' o', (some ⟨bl, ol, none⟩ : Option Addr) = some ⟨b', o', none⟩ ∧ b' < w.heap.size ∧ ∀ j, j < Ls.length → w.cell? ⟨b', o' + j, none⟩ = some (.int .i64 (nth Ls j)) := by
    rcases hX.ints with h | h
    · rw [h] at hi
      simp at hi
    · exact h
  simp only [Option.some.injEq, Addr.mk.injEq, and_true] at e'
  obtain ⟨rfl, rfl⟩ := e'
  have cx := (e0.below.cell (p := ⟨bl, ol + i, none⟩) hbl).trans (hcl i (by omega))
  have cy := (e0.below.cell (p := ⟨bl, ol + (i + 1), none⟩) hbl).trans (hcl (i + 1) hi)
  rw [hx] at cx
  rw [hy] at cy
  obtain ⟨n, hn⟩ : ∃ n, Ls.length = n := ⟨_, rfl⟩
  have hCL := fun W (he : Ex w W) => clone_own (some ⟨bl, ol, none⟩) Ls e W (hX.ex he) (by omega) (by omega)
  rw [hn] at hCL hn8 hi ⊢
  have HCL := Lib.hid hCL
  have HC0 := Lib.hid (And.intro (b0.cell 0) (And.intro c1 (And.intro c2 (And.intro cx cy))))
  have HE0 := Lib.hid e0
  have HNN := Lib.hid hn
  have hin : i < n := by omega
  clear hR hg hX hr hr1 hr2 hx hy hq c1 c2 hmz hz hQ hcl cx cy hn hCL e0 b0
  go_enter Tryz.func163, Tryz.ntmps163
  go_wp2_with fail
  generalize (w.alloc (.cells #[.slice (some ⟨b, o, none⟩) t.length c] 32)) = W0 at *
  refine (HCL.out _ HE0.out).mono ?_
  rintro e1 W1 ⟨g, c1, rfl, hc1, he1, ho1, hty1⟩
  have HTY := Lib.hid hty1
  have HDL := Lib.hid (delete_any g 0 n c1 (i + 1) W0.heap.size W1.heap.size Ls W1 ho1 HNN.out hc1 hi hn8)
  have HE1 := Lib.hid he1
  clear he1 ho1 hty1
  go_wp2_with fail
  refine HDL.out.mono ?_
  rintro e2 W2 ⟨rfl, hu2, ho2, ht2⟩
  have HT2 := Lib.hid (ht2 HTY.out)
  have hE2 : Ex W0 W2 := HE1.out.only hu2 (Nat.le_refl _)
  have hz0 : w.heap.size ≤ W0.heap.size := HE0.out.size
  have HE2 := Lib.hid hE2
  have HO2 := Lib.hid ho2
  have hlen : (Ls.take (i + 1) ++ Ls.drop (i + 1 + 1)).length = n - 1 := by
    have := HNN.out
    rw [List.length_append, List.length_take, List.length_drop]
    omega
  obtain ⟨_, _, eg, hlo, hhi, hcm, hfm⟩ := ho2.at_ (j := i) (by rw [hlen]; omega)
  simp only [Option.some.injEq, Addr.mk.injEq, and_true] at eg
  obtain ⟨rfl, rfl⟩ := eg
  have hP := ho2.put (j := i) (by rw [hlen]; omega) (z : Int)
  rw [HMS.out, Nat.zero_add] at hP
  have HP := Lib.hid hP
  have HZ12 := Lib.hid hu2.size
  have hh : ∀ (P : Addr) (V : Value), W0.cell? P = some V → W2.cell? P = some V := fun P V h => (hE2.below.cell (p := P) (World.block_lt_of_cell? _ _ h)).trans h
  have hC0 := And.intro (hh _ _ HC0.out.1) (And.intro (hh _ _ HC0.out.2.1) (And.intro (hh _ _ HC0.out.2.2.1) (And.intro (hh _ _ HC0.out.2.2.2.1) (hh _ _ HC0.out.2.2.2.2))))
  have hi1 : (0 : Int) ≤ (i : Int) + 1 := by omega
  have hi0' : (0 : Int) ≤ (i : Int) := by omega
  have hinn : (i : Int) + 1 < (n : Int) := by omega
  have hinn' : (i : Int) < (n : Int) := by omega
  have hinm : (i : Int) < ((n - 1 : Nat) : Int) := by omega
  have hwi : IntKind.i64.wrap (i : Int) = (i : Int) := IntWalk.i64_in _ (by omega)
  rw [Nat.zero_add] at hcm hfm
  clear hu2 ho2 ht2 hE2 hlen hh hP HDL HCL
  go_wp2_with fail
  refine Late.region (C := fun w' => w'.cell? ⟨w.heap.size, 0, none⟩ = some (.slice (some ⟨b, o, none⟩) t.length c) ∧ w'.cell? ⟨b, o + x, none⟩ = some (.slice (some ⟨bb x, oo x, none⟩) t.length (C x)) ∧ w'.cell? ⟨bb x, oo x + y, none⟩ = some (.int .i64 (z : Int)) ∧ w'.cell? ⟨bl, ol + i, none⟩ = some (.int .i64 (x : Int)) ∧ w'.cell? ⟨bl, ol + (i + 1), none⟩ = some (.int .i64 (y : Int))) (fun j => decide (j < 19)) (by kernel_rfl) hC0 (fun hC => ?_)
  refine Late.take (i := 0) (oi := _) (v := ?_) rfl (by kernel_rfl) (by kernel_rfl) (by kernel_rfl) (by kernel_rfl) (fun _ _ _ h => h) (Or.inl ⟨by rfl, ?_⟩) hC ?_
  rotate_left
  · (intro w hSw; (try dsimp only at hSw); go_simp; first | done | with_reducible rfl)
  simp only [Act.put]
  refine Late.take (i := 1) (oi := _) (v := ?_) rfl (by kernel_rfl) (by kernel_rfl) (by kernel_rfl) (by kernel_rfl) (fun _ _ _ h => h) (Or.inl ⟨by rfl, ?_⟩) hC ?_
  rotate_left
  · (intro w hSw; (try dsimp only at hSw); go_simp; first | done | with_reducible rfl)
  simp only [Act.put]
  refine Late.take (i := 2) (oi := _) (v := ?_) rfl (by kernel_rfl) (by kernel_rfl) (by kernel_rfl) (by kernel_rfl) (fun _ _ _ h => h) (Or.inl ⟨by rfl, ?_⟩) hC ?_
  rotate_left
  · (intro w hSw; (try dsimp only at hSw); go_simp; first | done | with_reducible rfl)
  simp only [Act.put]
  refine Late.take (i := 3) (oi := _) (v := ?_) rfl (by kernel_rfl) (by kernel_rfl) (by kernel_rfl) (by kernel_rfl) (fun _ _ _ h => h) (Or.inl ⟨by rfl, ?_⟩) hC ?_
  rotate_left
  · (intro w hSw; (try dsimp only at hSw); go_simp; first | done | with_reducible rfl)
  simp only [Act.put]
  refine Late.take (i := 4) (oi := _) (v := ?_) rfl (by kernel_rfl) (by kernel_rfl) (by kernel_rfl) (by kernel_rfl) (fun _ _ _ h => h) (Or.inl ⟨by rfl, ?_⟩) hC ?_
  rotate_left
  · (intro w hSw; (try dsimp only at hSw); go_simp; first | done | with_reducible rfl)
  simp only [Act.put]
  refine Late.take (i := 5) (oi := _) (v := ?_) rfl (by kernel_rfl) (by kernel_rfl) (by kernel_rfl) (by kernel_rfl) (fun _ _ _ h => h) (Or.inl ⟨by rfl, ?_⟩) hC ?_
  rotate_left
  · (intro w hSw; (try dsimp only at hSw); go_simp; first | done | with_reducible rfl)
  simp only [Act.put]
  refine Late.take (i := 6) (oi := _) (v := ?_) rfl (by kernel_rfl) (by kernel_rfl) (by kernel_rfl) (by kernel_rfl) (fun _ _ _ h => h) (Or.inl ⟨by rfl, ?_⟩) hC ?_
  rotate_left
  · (intro w hSw; (try dsimp only at hSw); go_simp; first | done | with_reducible rfl)
  simp only [Act.put]
  refine Late.take (i := 7) (oi := _) (v := ?_) rfl (by kernel_rfl) (by kernel_rfl) (by kernel_rfl) (by kernel_rfl) (fun _ _ _ h => h) (Or.inl ⟨by rfl, ?_⟩) hC ?_
  rotate_left
  · (intro w hSw; (try dsimp only at hSw); go_simp; first | done | with_reducible rfl)
  simp only [Act.put]
  refine Late.take (i := 8) (oi := _) (v := ?_) rfl (by kernel_rfl) (by kernel_rfl) (by kernel_rfl) (by kernel_rfl) (fun _ _ _ h => h) (Or.inl ⟨by rfl, ?_⟩) hC ?_
  rotate_left
  · (intro w hSw; (try dsimp only at hSw); go_simp; first | done | with_reducible rfl)
  simp only [Act.put]
  refine Late.take (i := 9) (oi := _) (v := ?_) rfl (by kernel_rfl) (by kernel_rfl) (by kernel_rfl) (by kernel_rfl) (fun _ _ _ h => h) (Or.inl ⟨by rfl, ?_⟩) hC ?_
  rotate_left
  · (intro w hSw; (try dsimp only at hSw); go_simp; first | done | with_reducible rfl)
  simp only [Act.put]
  refine Late.take (i := 10) (oi := _) (v := ?_) rfl (by kernel_rfl) (by kernel_rfl) (by kernel_rfl) (by kernel_rfl) (fun _ _ _ h => h) (Or.inl ⟨by rfl, ?_⟩) hC ?_
  rotate_left
  · (intro w hSw; (try dsimp only at hSw); go_simp; first | done | with_reducible rfl)
  simp only [Act.put]
  refine Late.take (i := 11) (oi := _) (v := ?_) rfl (by kernel_rfl) (by kernel_rfl) (by kernel_rfl) (by kernel_rfl) (fun _ _ _ h => h) (Or.inl ⟨by rfl, ?_⟩) hC ?_
  rotate_left
  · (intro w hSw; (try dsimp only at hSw); go_simp; first | done | with_reducible rfl)
  simp only [Act.put]
  refine Late.take (i := 12) (oi := _) (v := ?_) rfl (by kernel_rfl) (by kernel_rfl) (by kernel_rfl) (by kernel_rfl) (fun _ _ _ h => h) (Or.inl ⟨by rfl, ?_⟩) hC ?_
  rotate_left
  · (intro w hSw; (try dsimp only at hSw); go_simp; first | done | with_reducible rfl)
  simp only [Act.put]
  refine Late.take (i := 13) (oi := _) (v := ?_) rfl (by kernel_rfl) (by kernel_rfl) (by kernel_rfl) (by kernel_rfl) (fun _ _ _ h => h) (Or.inl ⟨by rfl, ?_⟩) hC ?_
  rotate_left
  · (intro w hSw; (try dsimp only at hSw); go_simp; first | done | with_reducible rfl)
  simp only [Act.put]
  refine Late.take (i := 14) (oi := _) (v := ?_) rfl (by kernel_rfl) (by kernel_rfl) (by kernel_rfl) (by kernel_rfl) (fun _ _ _ h => h) (Or.inl ⟨by rfl, ?_⟩) hC ?_
  rotate_left
  · (intro w hSw; (try dsimp only at hSw); go_simp; first | done | with_reducible rfl)
  simp only [Act.put]
  refine Late.take (i := 15) (oi := _) (v := ?_) rfl (by kernel_rfl) (by kernel_rfl) (by kernel_rfl) (by kernel_rfl) (fun _ _ _ h => h) (Or.inl ⟨by rfl, ?_⟩) hC ?_
  rotate_left
  · (intro w hSw; (try dsimp only at hSw); go_simp; first | done | with_reducible rfl)
  simp only [Act.put]
  refine Late.take (i := 16) (oi := _) (v := ?_) rfl (by kernel_rfl) (by kernel_rfl) (by kernel_rfl) (by kernel_rfl) (fun _ _ _ h => h) (Or.inl ⟨by rfl, ?_⟩) hC ?_
  rotate_left
  · (intro w hSw; (try dsimp only at hSw); go_simp; first | done | with_reducible rfl)
  simp only [Act.put]
  refine Late.take (i := 17) (oi := _) (v := ?_) rfl (by kernel_rfl) (by kernel_rfl) (by kernel_rfl) (by kernel_rfl) (fun _ _ _ h => h) (Or.inl ⟨by rfl, ?_⟩) hC ?_
  rotate_left
  · (intro w hSw; (try dsimp only at hSw); go_simp; first | done | with_reducible rfl)
  simp only [Act.put]
  refine Late.one (i := 18) (o := _) (by kernel_rfl) rfl (fun K' hK' => ?_)
  go_simp
  refine hK'.out _ _ (fun _ => hC) (fun _ => ?_)
  clear hK' K'
  try simp only [Act.put]
  refine Late.one (i := 19) (o := _) (by kernel_rfl) rfl (fun K' hK' => ?_)
  go_simp
  refine hK'.out _ _ (fun h => by cases h) (fun _ => ?_)
  clear hK' K'
  refine Late.done (by kernel_rfl) ?_ _
  go_wp2_with fail
  go_ret
  refine ⟨g, c1, rfl, ((HE0.out.trans HE2.out).setCell (p := ⟨g, i, none⟩) (by show w.heap.size ≤ g; omega) _).drew, (HP.out.ex (Ex.refl _).drew).mono hz0 ?_ (Nat.le_refl _), (HT2.out.set g i _).ex (Ex.refl _).drew⟩
  have := HZ12.out
  show W1.heap.size ≤ (W2.setCell _ _).heap.size
  simpa using this

end Go.Proofs.YtcdijeeabgmgmaaGreatDoor
