/- RepresentativesOf and IndexOf: both contracts. -/
import Derived.Test.YtalejhbdbclfaaaDoorUb
import Derived.Test.YtalejhbdbclfaaaDoorQq
namespace Go.Proofs.YtalejhbdbclfaaaDoor
open Go.RowKit Go.Shelf

attribute [local go_sem] Oper.semAt_some

noncomputable def cosS (t : List (List Int)) (xs : List Int) : Cos := cosK t (elsL xs) t.length
noncomputable def yRepresentativesOf0 (t : List (List Int)) (xs : List Int) : List Int := if sgC t xs [] = 0 then (cosS t xs).fst.map fun x : Nat => (x : Int) else []
noncomputable def qRepresentativesOf1 (t : List (List Int)) (xs : List Int) : Int := sgC t xs []
noncomputable def qIndexOf0 (t : List (List Int)) (xs : List Int) : Int := if sgC t xs [] = 0 then ((cosS t xs).fst.length : Int) else 0
noncomputable def qIndexOf1 (t : List (List Int)) (xs : List Int) : Int := sgC t xs []
section
variable {t : List (List Int)} {xs : List Int}
theorem rpo_no {z : Int} (h : sgC t xs [] = z) (hz : z ≠ 0) : yRepresentativesOf0 t xs = [] ∧ qRepresentativesOf1 t xs = z := by simp [yRepresentativesOf0, qRepresentativesOf1, h, hz]
theorem rpo_yes (h : sgC t xs [] = 0) : yRepresentativesOf0 t xs = (cosS t xs).fst.map (fun x : Nat => (x : Int)) ∧ qRepresentativesOf1 t xs = 0 := by simp [yRepresentativesOf0, qRepresentativesOf1, h]
theorem ixo_no {z : Int} (h : sgC t xs [] = z) (hz : z ≠ 0) : qIndexOf0 t xs = 0 ∧ qIndexOf1 t xs = z := by simp [qIndexOf0, qIndexOf1, h, hz]
theorem ixo_yes (h : sgC t xs [] = 0) : qIndexOf0 t xs = ((cosS t xs).fst.length : Int) ∧ qIndexOf1 t xs = 0 := by simp [qIndexOf0, qIndexOf1, h]
theorem GrowI.lowU {w : World} {lo lo' n : Nat} {v : Value} {xs : List Int} (h : GrowI w lo v n xs) (hl : lo' ≤ lo) : GrowI w lo' v n xs := by
  obtain ⟨⟨h1, h2⟩, h3⟩ := h
  refine ⟨⟨h1, ?_⟩, h3⟩
  rcases h2 with h2 | ⟨g, cap, cur, e, hg, h4⟩
  · exact .inl h2
  · exact .inr ⟨g, cap, cur, e, Nat.le_trans hl hg, h4⟩
theorem cosS_b (hg : IsGrp t) (hb : setB t.length xs = true) : CosB t t.length (cosS t xs) := quS_b hg hb
theorem representativesOf_small0 (t : List (List Int)) (xs : List Int) : (yRepresentativesOf0 t xs).length ≤ 1048576 := by
  unfold yRepresentativesOf0
  split
  · rename_i h
    obtain ⟨hg, hb, -, -⟩ := sgC_zero h
    have := (cosS_b hg hb).len
    have := hg.n8
    simp
    omega
  · simp
end

set_option maxRecDepth 100000 in
set_option maxHeartbeats 1000000 in
theorem representatives_any (A L : Option Addr) (t : List (List Int)) (xs : List Int) (c c' : Nat) (w : World) (hR : RwsW w A t) (hX : IntsW w L xs) (hg : IsGrp t) (hb : setB t.length xs = true) (hu : xs.length ≤ 1048576) (hT : TabL w) :
    Calls Tryd.prog 73 #[.agg #[.slice A t.length c], .slice L xs.length c'] w fun e w' => ∃ C0 e0, e = .returned (.slice C0 (cosS t xs).fst.length e0) ∧ Ex w w' ∧ OwnL w' w.heap.size w'.heap.size C0 ((cosS t xs).fst.map fun x : Nat => (x : Int)) := by
  have e0 : Ex w (w.alloc (.cells #[.slice A t.length c] 27)) := (Ex.refl w).alloc _
  have b0 : Has (w.alloc (.cells #[.slice A t.length c] 27)) (w.heap.size) 27 #[.slice A t.length c] := (Has.newAt (w := w) (e := 27) (cs := #[.slice A t.length c]) (k := w.heap.size) (by simp))
  have hr := (setB_true.1 hb).1
  have hn8 := hg.n8
  have HBI := Lib.hid (fun W (he : Ex (w.alloc (.cells #[.slice A t.length c] 27)) W) => setOf_any L xs c' t.length W (hX.ex (e0.trans he)) hu hn8 hr)
  have HCO := Lib.hid (fun W (he : Ex (w.alloc (.cells #[.slice A t.length c] 27)) W) => cosetsOf_any A t c (bitsK xs xs.length) W (hR.ex (e0.trans he)) hg (bitsK_lt hr xs.length (Nat.le_refl _)) (hT.ex (e0.trans he)) (cosS t xs) (by rw [els_bits hn8 hb]; rfl))
  obtain ⟨S, hS⟩ : ∃ S, cosS t xs = S := ⟨_, rfl⟩
  obtain ⟨u, hu1⟩ : ∃ u, bitsK xs xs.length = u := ⟨_, rfl⟩
  rw [hS] at HCO ⊢
  rw [hu1] at HBI HCO
  clear hR hX hg hb hu hT hr hn8 hS hu1
  have c0 := b0.cell 0
  have HB0 := Lib.hid b0
  have HE0 := Lib.hid e0
  clear b0 e0
  go_enter Tryd.func73, Tryd.ntmps73
  go_wp2_with fail
  generalize (w.alloc (.cells #[.slice A t.length c] 27)) = W0 at *
  refine Late.region (C := fun w' => w'.cell? ⟨w.heap.size, 0, none⟩ = some (.slice A t.length c)) (fun _ => true) (by kernel_rfl) c0 (fun hC => ?_)
  refine Late.take (i := 0) (oi := _) (v := ?_) rfl (by kernel_rfl) (by kernel_rfl) (by kernel_rfl) (by kernel_rfl) (fun _ _ _ h => h) (Or.inl ⟨by rfl, ?_⟩) hC ?_
  rotate_left
  · (intro w hSw; (try dsimp only at hSw); go_simp; first | done | with_reducible rfl)
  simp only [Act.put]
  refine Late.take (i := 1) (oi := _) (v := ?_) rfl (by kernel_rfl) (by kernel_rfl) (by kernel_rfl) (by kernel_rfl) (fun _ _ _ h => h) (Or.inl ⟨by rfl, ?_⟩) hC ?_
  rotate_left
  · (intro w hSw; (try dsimp only at hSw); go_simp; first | done | with_reducible rfl)
  simp only [Act.put]
  refine Late.one (i := 2) (o := _) (by kernel_rfl) rfl (fun K' hK' => ?_)
  go_simp
  refine (HBI.out W0.drew (Ex.refl W0).drew).mono ?_
  rintro e w' ⟨rfl, rfl⟩
  refine hK'.out _ _ (fun _ => hC) (fun _ => ?_)
  clear hK' K' HBI
  try simp only [Act.put, List.setIfInBounds_toArray, List.set_cons_zero, List.set_cons_succ]
  refine Late.one (i := 3) (o := _) (by kernel_rfl) rfl (fun K' hK' => ?_)
  go_simp
  refine (HCO.out W0.drew (Ex.refl W0).drew).mono ?_
  rintro e W1 ⟨D, v, rfl, he1, hlD, hD, hG⟩
  have hlw : w.heap.size ≤ W0.drew.heap.size := HE0.out.size
  obtain ⟨A', c2, e', hO⟩ := (hG.lowU (Nat.le_trans hlw (Nat.le_trans hlD (Nat.le_succ _)))).own
  simp only [List.length_map] at e'
  subst e'
  have HE1 := Lib.hid (HE0.out.drew.trans he1)
  have hC1 := (HB0.out.ex ((Ex.refl W0).drew.trans he1)).cell 0
  have HO := Lib.hid hO
  refine hK'.out _ _ (fun _ => hC1) (fun _ => ?_)
  clear hK' K' he1 hlD hD hG hO HCO c0 hC hlw
  try simp only [Act.put, List.setIfInBounds_toArray, List.set_cons_zero, List.set_cons_succ]
  refine Late.take (i := 4) (oi := _) (v := ?_) rfl (by kernel_rfl) (by kernel_rfl) (by kernel_rfl) (by kernel_rfl) (fun _ _ _ h => h) (Or.inl ⟨by rfl, ?_⟩) hC1 ?_
  rotate_left
  · (intro w hSw; (try dsimp only at hSw); go_simp; first | done | with_reducible rfl)
  simp only [Act.put]
  refine Late.take (i := 5) (oi := _) (v := ?_) rfl (by kernel_rfl) (by kernel_rfl) (by kernel_rfl) (by kernel_rfl) (fun _ _ _ h => h) (Or.inl ⟨by rfl, ?_⟩) hC1 ?_
  rotate_left
  · (intro w hSw; (try dsimp only at hSw); go_simp; first | done | with_reducible rfl)
  simp only [Act.put]
  refine Late.take (i := 6) (oi := _) (v := ?_) rfl (by kernel_rfl) (by kernel_rfl) (by kernel_rfl) (by kernel_rfl) (fun _ _ _ h => h) (Or.inl ⟨by rfl, ?_⟩) hC1 ?_
  rotate_left
  · (intro w hSw; (try dsimp only at hSw); go_simp; first | done | with_reducible rfl)
  simp only [Act.put]
  refine Late.take (i := 7) (oi := _) (v := ?_) rfl (by kernel_rfl) (by kernel_rfl) (by kernel_rfl) (by kernel_rfl) (fun _ _ _ h => h) (Or.inl ⟨by rfl, ?_⟩) hC1 ?_
  rotate_left
  · (intro w hSw; (try dsimp only at hSw); go_simp; first | done | with_reducible rfl)
  simp only [Act.put]
  refine Late.take (i := 8) (oi := _) (v := ?_) rfl (by kernel_rfl) (by kernel_rfl) (by kernel_rfl) (by kernel_rfl) (fun _ _ _ h => h) (Or.inl ⟨by rfl, ?_⟩) hC1 ?_
  rotate_left
  · (intro w hSw; (try dsimp only at hSw); go_simp; first | done | with_reducible rfl)
  simp only [Act.put]
  refine Late.done (by kernel_rfl) ?_ _
  go_wp2_with fail
  go_ret
  first
    | exact ⟨A', c2, rfl, HE1.out, HO.out⟩
    | exact ⟨A', ⟨c2, rfl⟩, HE1.out, HO.out⟩

set_option maxRecDepth 100000 in
set_option maxHeartbeats 1000000 in
theorem specRepresentativesOf_ex (t0 : List (List Int)) (t1 : List Int) : ∀ (B0 : Option Addr) (d0 : Nat) (B1 : Option Addr) (d1 : Nat) (W : World), RwsW W B0 t0 → IntsW W B1 t1 → SmallT t0 → t1.length ≤ 1048576 →
    Calls Tryd.prog 32 #[.agg #[.slice B0 t0.length d0], .slice B1 t1.length d1] W fun e W' => ∃ (C0 : Option Addr) (e0 : Nat), e = .returned (.tuple #[.slice C0 (yRepresentativesOf0 t0 t1).length e0, .int .i64 (qRepresentativesOf1 t0 t1)]) ∧ Ex W W' ∧ OwnL W' W.heap.size W'.heap.size C0 (yRepresentativesOf0 t0 t1) := by
  intro B0 d0 B1 d1 w hR hX hs hu
  have e0 : Ex w (w.alloc (.cells #[.slice B0 t0.length d0] 27)) := (Ex.refl w).alloc _
  have b0 : Has (w.alloc (.cells #[.slice B0 t0.length d0] 27)) (w.heap.size) 27 #[.slice B0 t0.length d0] := (Has.newAt (w := w) (e := 27) (cs := #[.slice B0 t0.length d0]) (k := w.heap.size) (by simp))
  have HC := Lib.hid (l07Code_any B0 B1 t0 t1 d0 d1 _ (hR.ex e0) (hX.ex e0) hs hu)
  by_cases hz : sgC t0 t1 [] = 0
  · obtain ⟨hg, hb, -, -⟩ := sgC_zero hz
    have HQ := Lib.hid (rpo_yes hz)
    rw [hz] at HC
    have HCO := Lib.hid (fun W (he : Ex (w.alloc (.cells #[.slice B0 t0.length d0] 27)) W) => l01Cosets_any B0 B1 t0 t1 d0 d1 W (hR.ex (e0.trans he)) (hX.ex (e0.trans he)) hg hu (setB_true.1 hb).1)
    rw [show cosK t0 (elsL t1) t0.length = cosS t0 t1 from rfl] at HCO
    obtain ⟨S, hS⟩ : ∃ S, cosS t0 t1 = S := ⟨_, rfl⟩
    rw [hS] at HCO HQ
    clear hz hg hb hR hX hs hu hS
    go_enter Tryd.func32, Tryd.ntmps32
    go_wp2_with fail
    generalize (w.alloc (.cells #[.slice B0 t0.length d0] 27)) = W0 at *
    refine HC.out.mono ?_
    rintro e W1 ⟨rfl, he1⟩
    have HE1 := Lib.hid (e0.trans he1)
    have c0 := (b0.ex he1).cell 0
    have HCO1 := Lib.hid (HCO.out W1 he1)
    clear b0 e0 he1 HCO
    go_wp2_with fail
    refine HCO1.out.mono ?_
    rintro e W2 ⟨D, v, rfl, he2, hlD, hD, hG⟩
    obtain ⟨A', c2, e', hO⟩ := (hG.lowU (Nat.le_trans HE1.out.size (Nat.le_trans hlD (Nat.le_succ _)))).own
    simp only [List.length_map] at e'
    subst e'
    have HE2 := Lib.hid (HE1.out.trans he2)
    have HO := Lib.hid hO
    clear he2 hlD hD hG hO c0 HCO1
    go_wp2_with fail
    go_ret2
    exact ⟨A', c2, by rw [HQ.out.1, HQ.out.2, List.length_map]; rfl, HE2.out, by rw [HQ.out.1]; exact HO.out⟩
  · obtain ⟨z, hzz⟩ : ∃ z, sgC t0 t1 [] = z := ⟨_, rfl⟩
    have HQ := Lib.hid (rpo_no hzz (hzz ▸ hz))
    rw [hzz] at HC hz
    have hzb : (z != 0) = true := by simpa using hz
    clear hz hzz hR hX hs hu
    go_enter Tryd.func32, Tryd.ntmps32
    go_wp2_with fail
    generalize (w.alloc (.cells #[.slice B0 t0.length d0] 27)) = W0 at *
    refine HC.out.mono ?_
    rintro e W1 ⟨rfl, he1⟩
    have HE1 := Lib.hid (e0.trans he1)
    clear b0 e0 he1
    go_wp2_with fail
    go_ret2
    exact ⟨none, 0, by rw [HQ.out.1, HQ.out.2]; rfl, HE1.out, by rw [HQ.out.1]; exact OwnL.nil _ _ _ (Nat.le_refl _)⟩

set_option maxRecDepth 100000 in
set_option maxHeartbeats 1000000 in
theorem implRepresentativesOf_ex (t0 : List (List Int)) (t1 : List Int) : ∀ (B0 : Option Addr) (d0 : Nat) (B1 : Option Addr) (d1 : Nat) (W : World), RwsW W B0 t0 → IntsW W B1 t1 → SmallT t0 → t1.length ≤ 1048576 → TabL W →
    Calls Tryd.prog 33 #[.agg #[.slice B0 t0.length d0], .slice B1 t1.length d1] W fun e W' => ∃ (C0 : Option Addr) (e0 : Nat), e = .returned (.tuple #[.slice C0 (yRepresentativesOf0 t0 t1).length e0, .int .i64 (qRepresentativesOf1 t0 t1)]) ∧ Ex W W' ∧ OwnL W' W.heap.size W'.heap.size C0 (yRepresentativesOf0 t0 t1) := by
  intro B0 d0 B1 d1 w hR hX hs hu hT
  have e0 : Ex w (w.alloc (.cells #[.slice B0 t0.length d0] 27)) := (Ex.refl w).alloc _
  have b0 : Has (w.alloc (.cells #[.slice B0 t0.length d0] 27)) (w.heap.size) 27 #[.slice B0 t0.length d0] := (Has.newAt (w := w) (e := 27) (cs := #[.slice B0 t0.length d0]) (k := w.heap.size) (by simp))
  have HC := Lib.hid (subgroupCode_any B0 B1 none t0 t1 [] d0 d1 0 _ (hR.ex e0) (hX.ex e0) (.inl rfl) hs hu (by simp) (hT.ex e0))
  simp only [List.length_nil] at HC
  by_cases hz : sgC t0 t1 [] = 0
  · obtain ⟨hg, hb, -, -⟩ := sgC_zero hz
    have HQ := Lib.hid (rpo_yes hz)
    rw [hz] at HC
    have HCO := Lib.hid (fun W (he : Ex (w.alloc (.cells #[.slice B0 t0.length d0] 27)) W) => representatives_any B0 B1 t0 t1 d0 d1 W (hR.ex (e0.trans he)) (hX.ex (e0.trans he)) hg hb hu (hT.ex (e0.trans he)))
    obtain ⟨S, hS⟩ : ∃ S, cosS t0 t1 = S := ⟨_, rfl⟩
    rw [hS] at HCO HQ
    clear hz hg hb hR hX hs hu hS hT
    go_enter Tryd.func33, Tryd.ntmps33
    go_wp2_with fail
    generalize (w.alloc (.cells #[.slice B0 t0.length d0] 27)) = W0 at *
    refine HC.out.mono ?_
    rintro e W1 ⟨rfl, he1⟩
    have HE1 := Lib.hid (e0.trans he1)
    have c0 := (b0.ex he1).cell 0
    have HCO1 := Lib.hid (HCO.out W1 he1)
    clear b0 e0 he1 HCO
    go_wp2_with fail
    refine HCO1.out.mono ?_
    rintro e W2 ⟨A', c2, rfl, he2, hO⟩
    have HE2 := Lib.hid (HE1.out.trans he2)
    have HO := Lib.hid (hO.mono HE1.out.size (Nat.le_refl _) (Nat.le_refl _))
    clear he2 hO c0 HCO1
    go_wp2_with fail
    go_ret2
    exact ⟨A', c2, by rw [HQ.out.1, HQ.out.2, List.length_map]; rfl, HE2.out, by rw [HQ.out.1]; exact HO.out⟩
  · obtain ⟨z, hzz⟩ : ∃ z, sgC t0 t1 [] = z := ⟨_, rfl⟩
    have HQ := Lib.hid (rpo_no hzz (hzz ▸ hz))
    rw [hzz] at HC hz
    have hzb : (z != 0) = true := by simpa using hz
    clear hz hzz hR hX hs hu hT
    go_enter Tryd.func33, Tryd.ntmps33
    go_wp2_with fail
    generalize (w.alloc (.cells #[.slice B0 t0.length d0] 27)) = W0 at *
    refine HC.out.mono ?_
    rintro e W1 ⟨rfl, he1⟩
    have HE1 := Lib.hid (e0.trans he1)
    clear b0 e0 he1
    go_wp2_with fail
    go_ret2
    exact ⟨none, 0, by rw [HQ.out.1, HQ.out.2]; rfl, HE1.out, by rw [HQ.out.1]; exact OwnL.nil _ _ _ (Nat.le_refl _)⟩

set_option maxRecDepth 100000 in
set_option maxHeartbeats 1000000 in
theorem specIndexOf_ex (t0 : List (List Int)) (t1 : List Int) : ∀ (B0 : Option Addr) (d0 : Nat) (B1 : Option Addr) (d1 : Nat) (W : World), RwsW W B0 t0 → IntsW W B1 t1 → SmallT t0 → t1.length ≤ 1048576 →
    Calls Tryd.prog 37 #[.agg #[.slice B0 t0.length d0], .slice B1 t1.length d1] W fun e W' => e = .returned (.tuple #[.int .i64 (qIndexOf0 t0 t1), .int .i64 (qIndexOf1 t0 t1)]) ∧ Ex W W' := by
  intro B0 d0 B1 d1 w hR hX hs hu
  have e0 : Ex w (w.alloc (.cells #[.slice B0 t0.length d0] 27)) := (Ex.refl w).alloc _
  have b0 : Has (w.alloc (.cells #[.slice B0 t0.length d0] 27)) (w.heap.size) 27 #[.slice B0 t0.length d0] := (Has.newAt (w := w) (e := 27) (cs := #[.slice B0 t0.length d0]) (k := w.heap.size) (by simp))
  have HC := Lib.hid (l07Code_any B0 B1 t0 t1 d0 d1 _ (hR.ex e0) (hX.ex e0) hs hu)
  by_cases hz : sgC t0 t1 [] = 0
  · obtain ⟨hg, hb, -, hsb⟩ := sgC_zero hz
    have HQ := Lib.hid (ixo_yes hz)
    rw [hz] at HC
    have hcnt := cosets_count hg (subL_of hg hb hsb)
    rw [elsL_len, show cosK t0 (elsL t1) t0.length = cosS t0 t1 from rfl] at hcnt
    obtain ⟨K, hK⟩ : ∃ K, (cosS t0 t1).fst.length = K := ⟨_, rfl⟩
    rw [hK] at HQ hcnt
    have hn1 := hg.n1
    have hn8 := hg.n8
    have hpos : 0 < t1.length := by
      rcases Nat.eq_zero_or_pos t1.length with h | h
      · rw [h] at hcnt
        omega
      · exact h
    have hle : t1.length ≤ 8 := by
      have : t1.length ≤ K * t1.length := by
        rcases Nat.eq_zero_or_pos K with h | h
        · rw [h] at hcnt
          omega
        · exact Nat.le_mul_of_pos_left _ h
      omega
    have hK8 : K ≤ 8 := by
      have : K ≤ K * t1.length := Nat.le_mul_of_pos_right _ hpos
      omega
    have hdiv : ((t0.length : Int) / (t1.length : Int)) = (K : Int) := by
      have : t0.length / t1.length = K := by rw [← hcnt]; exact Nat.mul_div_cancel _ hpos
      rw [← Int.natCast_ediv, this]
    have HLN := Lib.hid (fun W => l01N_ex B0 t0.length d0 W (by omega))
    obtain ⟨n, hn⟩ : ∃ n, t0.length = n := ⟨_, rfl⟩
    obtain ⟨m, hm⟩ : ∃ m, t1.length = m := ⟨_, rfl⟩
    rw [hn] at HC HLN hdiv b0 e0 ⊢
    rw [hm] at HC hdiv hpos hle ⊢
    have hwd : IntKind.i64.wrap ((n : Int) / (m : Int)) = (K : Int) := by rw [hdiv]; exact IntWalk.i64_in _ (by omega)
    have hm0 : ¬ m = 0 := by omega
    have hm0' : ¬ (m : Int) = 0 := by omega
    clear hz hg hb hR hX hs hu hsb hcnt hK hn1 hn hm hn8 hdiv
    go_enter Tryd.func37, Tryd.ntmps37
    go_wp2_with fail
    generalize (w.alloc (.cells #[.slice B0 n d0] 27)) = W0 at *
    refine HC.out.mono ?_
    rintro e W1 ⟨rfl, he1⟩
    have HE1 := Lib.hid (e0.trans he1)
    have c0 := (b0.ex he1).cell 0
    clear b0 e0 he1
    go_wp2_with fail
    refine (HLN.out W1).mono ?_
    rintro e W2 ⟨rfl, he2⟩
    have HE2 := Lib.hid (HE1.out.trans he2)
    clear he2 c0
    go_wp2_with fail
    go_ret2
    exact ⟨by rw [HQ.out.1, HQ.out.2]; rfl, HE2.out⟩
  · obtain ⟨z, hzz⟩ : ∃ z, sgC t0 t1 [] = z := ⟨_, rfl⟩
    have HQ := Lib.hid (ixo_no hzz (hzz ▸ hz))
    rw [hzz] at HC hz
    have hzb : (z != 0) = true := by simpa using hz
    clear hz hzz hR hX hs hu
    go_enter Tryd.func37, Tryd.ntmps37
    go_wp2_with fail
    generalize (w.alloc (.cells #[.slice B0 t0.length d0] 27)) = W0 at *
    refine HC.out.mono ?_
    rintro e W1 ⟨rfl, he1⟩
    have HE1 := Lib.hid (e0.trans he1)
    clear b0 e0 he1
    go_wp2_with fail
    go_ret2
    exact ⟨by rw [HQ.out.1, HQ.out.2]; rfl, HE1.out⟩

set_option maxRecDepth 100000 in
set_option maxHeartbeats 1000000 in
theorem implIndexOf_ex (t0 : List (List Int)) (t1 : List Int) : ∀ (B0 : Option Addr) (d0 : Nat) (B1 : Option Addr) (d1 : Nat) (W : World), RwsW W B0 t0 → IntsW W B1 t1 → SmallT t0 → t1.length ≤ 1048576 → TabL W →
    Calls Tryd.prog 38 #[.agg #[.slice B0 t0.length d0], .slice B1 t1.length d1] W fun e W' => e = .returned (.tuple #[.int .i64 (qIndexOf0 t0 t1), .int .i64 (qIndexOf1 t0 t1)]) ∧ Ex W W' := by
  intro B0 d0 B1 d1 w hR hX hs hu hT
  have e0 : Ex w (w.alloc (.cells #[.slice B0 t0.length d0] 27)) := (Ex.refl w).alloc _
  have b0 : Has (w.alloc (.cells #[.slice B0 t0.length d0] 27)) (w.heap.size) 27 #[.slice B0 t0.length d0] := (Has.newAt (w := w) (e := 27) (cs := #[.slice B0 t0.length d0]) (k := w.heap.size) (by simp))
  have HC := Lib.hid (subgroupCode_any B0 B1 none t0 t1 [] d0 d1 0 _ (hR.ex e0) (hX.ex e0) (.inl rfl) hs hu (by simp) (hT.ex e0))
  simp only [List.length_nil] at HC
  by_cases hz : sgC t0 t1 [] = 0
  · obtain ⟨hg, hb, -, -⟩ := sgC_zero hz
    have HQ := Lib.hid (ixo_yes hz)
    rw [hz] at HC
    have HCO := Lib.hid (fun W (he : Ex (w.alloc (.cells #[.slice B0 t0.length d0] 27)) W) => representatives_any B0 B1 t0 t1 d0 d1 W (hR.ex (e0.trans he)) (hX.ex (e0.trans he)) hg hb hu (hT.ex (e0.trans he)))
    have hKl := (cosS_b hg hb).len
    have hn8 := hg.n8
    have hK8 : (cosS t0 t1).fst.length ≤ 8 := by omega
    obtain ⟨xs, hxs⟩ : ∃ xs, ((cosS t0 t1).fst.map fun x : Nat => (x : Int)) = xs := ⟨_, rfl⟩
    rw [hxs] at HCO
    obtain ⟨K, hK⟩ : ∃ K, (cosS t0 t1).fst.length = K := ⟨_, rfl⟩
    rw [hK] at HCO HQ hK8
    clear hz hg hb hR hX hs hu hT hK hxs hKl hn8
    go_enter Tryd.func38, Tryd.ntmps38
    go_wp2_with fail
    generalize (w.alloc (.cells #[.slice B0 t0.length d0] 27)) = W0 at *
    refine HC.out.mono ?_
    rintro e W1 ⟨rfl, he1⟩
    have HE1 := Lib.hid (e0.trans he1)
    have c0 := (b0.ex he1).cell 0
    have HCO1 := Lib.hid (HCO.out W1 he1)
    clear b0 e0 he1 HCO
    go_wp2_with fail
    refine HCO1.out.mono ?_
    rintro e W2 ⟨A', c2, rfl, he2, -⟩
    have HE2 := Lib.hid (HE1.out.trans he2)
    clear he2 c0 HCO1
    go_wp2_with fail
    go_ret2
    exact ⟨by rw [HQ.out.1, HQ.out.2]; rfl, HE2.out⟩
  · obtain ⟨z, hzz⟩ : ∃ z, sgC t0 t1 [] = z := ⟨_, rfl⟩
    have HQ := Lib.hid (ixo_no hzz (hzz ▸ hz))
    rw [hzz] at HC hz
    have hzb : (z != 0) = true := by simpa using hz
    clear hz hzz hR hX hs hu hT
    go_enter Tryd.func38, Tryd.ntmps38
    go_wp2_with fail
    generalize (w.alloc (.cells #[.slice B0 t0.length d0] 27)) = W0 at *
    refine HC.out.mono ?_
    rintro e W1 ⟨rfl, he1⟩
    have HE1 := Lib.hid (e0.trans he1)
    clear b0 e0 he1
    go_wp2_with fail
    go_ret2
    exact ⟨by rw [HQ.out.1, HQ.out.2]; rfl, HE1.out⟩

end Go.Proofs.YtalejhbdbclfaaaDoor
