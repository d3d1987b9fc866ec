/- boundaryAt: the value of a boundary at a list. -/
import Derived.Test.YtcdijeeabgmgmaaGreatDoorBo
import Derived.Test.YtcdijeeabgmgmaaGreatDoorVal
namespace Go.Proofs.YtcdijeeabgmgmaaGreatDoor
open Go.RowKit

/-- What a face gives. -/
noncomputable def fcT (t : List (List Int)) (us fs Ls : List Int) (j : Nat) : Int := fcF us Ls j * valR t.length fs (fcX t Ls j)
section
variable {t : List (List Int)} {M n : Nat} {us fs Ls : List Int}
theorem fcX_len (hl : Ls.length = n + 1) {j : Nat} (hj : j < n + 2) : (fcX t Ls j).length = n := by
  unfold fcX
  by_cases h0 : j = 0
  · rw [if_pos h0, List.length_drop]
    omega
  · rw [if_neg h0]
    by_cases h1 : j < Ls.length
    · rw [if_pos h1, mgd_len (by omega)]
      omega
    · rw [if_neg h1, List.length_take]
      omega
theorem fcX_in (hg : IsGrp t) (hL : InR t.length Ls) {j : Nat} : InR t.length (fcX t Ls j) := by
  unfold fcX
  by_cases h0 : j = 0
  · rw [if_pos h0]
    exact hL.drop 1
  · rw [if_neg h0]
    by_cases h1 : j < Ls.length
    · rw [if_pos h1]
      exact mgd_in hg hL (by omega)
    · rw [if_neg h1]
      exact hL.take _
theorem fcT_bound (hm : ModF t M us) (hL : InR t.length Ls) (hl : Ls.length = n + 1) (hf : fs.length = cellsN t.length n) (hr : InR M fs) {j : Nat} (hj : j < n + 2) : -200 ≤ fcT t us fs Ls j ∧ fcT t us fs Ls j ≤ 200 := by
  have hv := valR_in (show 0 < M by have := hm.m2; omega) (fcX_in hm.g hL (j := j)) (fcX_len (t := t) hl hj) hf hr
  have hM := hm.m12
  have hfx : -11 ≤ fcF us Ls j ∧ fcF us Ls j ≤ 11 := by
    unfold fcF
    by_cases h0 : j = 0
    · rw [if_pos h0]
      have h2 := hL 0 (by omega)
      have h3 := hm.rng (nth Ls 0).toNat (by rw [hm.len]; omega)
      omega
    · rw [if_neg h0]
      rcases sgn_or j with h | h <;> omega
  unfold fcT
  have h1 : fcF us Ls j * valR t.length fs (fcX t Ls j) ≤ 11 * valR t.length fs (fcX t Ls j) := Int.mul_le_mul_of_nonneg_right hfx.2 hv.1
  have h2 : -11 * valR t.length fs (fcX t Ls j) ≤ fcF us Ls j * valR t.length fs (fcX t Ls j) := Int.mul_le_mul_of_nonneg_right hfx.1 hv.1
  omega
theorem sumT_bdS (hl : Ls.length = n + 1) : ∀ k, k ≤ n → sumT (fcT t us fs Ls) (k + 1) = bdS t us fs Ls k
  | 0, _ => by
    rw [sumT, sumT, bdS, fcT, fcF, fcX, if_pos rfl, if_pos rfl]
    omega
  | k + 1, hk => by
    rw [sumT, sumT_bdS hl k (by omega), bdS, fcT, fcF, fcX, if_neg (by omega), if_neg (by omega), if_pos (by omega), Nat.add_sub_cancel]
theorem sumT_bdV (hl : Ls.length = n + 1) : sumT (fcT t us fs Ls) (n + 2) % (M : Int) = bdV t M us fs Ls := by
  rw [sumT, sumT_bdS hl n (Nat.le_refl _), bdV, hl, Nat.add_sub_cancel, fcT, fcF, fcX, if_neg (by omega), if_neg (by omega), if_neg (by omega), hl, Nat.add_sub_cancel]
end

set_option maxRecDepth 100000 in
set_option maxHeartbeats 1000000 in
theorem bac_ex (Bg Bf : Nat) (A F X : Option Addr) (N n c d e : Nat) (f : Int) (fs xs : List Int) (w : World) (hG : Has w Bg 32 #[.slice A N c]) (hFc : Has w Bf 34 #[.int .i64 (n : Int), .slice F fs.length d])
    (hF : IntsW w F fs) (hX : IntsW w X xs) (hN : N ≤ 8) (hN1 : 1 ≤ N) (hn : n ≤ 4) (hx : xs.length = n) (hfl : fs.length = cellsN N n) (hr : InR N xs) (hf : -11 ≤ f ∧ f ≤ 11) (hv : 0 ≤ valR N fs xs ∧ valR N fs xs ≤ 11) :
    Calls Tryz.prog 160 #[.agg #[.int .i64 f, .slice X n e], .pointer (some ⟨Bg, 0, none⟩), .pointer (some ⟨Bf, 0, none⟩)] w fun e w' => e = .returned (.int .i64 (f * valR N fs xs)) ∧ Ex w w' := by
  have e0 : Ex w (w.alloc (.cells #[.int .i64 f, .slice X n e] 174)) := (Ex.refl w).alloc _
  have b0 : Has (w.alloc (.cells #[.int .i64 f, .slice X n e] 174)) (w.heap.size) 174 #[.int .i64 f, .slice X n e] := (Has.newAt (w := w) (e := 174) (cs := #[.int .i64 f, .slice X n e]) (k := w.heap.size) (by simp))
  have HVA := Lib.hid (fun W (he : Ex w W) => valueAt_yes A F X n N fs xs c d e W (hF.ex he) (hX.ex he) hN hN1 hn hx hfl (inR_belowL hr))
  rw [hx] at HVA
  obtain ⟨v, hve⟩ : ∃ v, valR N fs xs = v := ⟨_, rfl⟩
  rw [hve] at HVA hv ⊢
  have h1 : f * v ≤ 11 * v := Int.mul_le_mul_of_nonneg_right hf.2 hv.1
  have h2 : -11 * v ≤ f * v := Int.mul_le_mul_of_nonneg_right hf.1 hv.1
  have hwm : IntKind.i64.wrap (f * v) = f * v := IntWalk.i64_in _ (by omega)
  have HSK := Lib.hid (fun W' (he : Ex w W') => And.intro ((hG.ex he).cell 0) (And.intro ((hFc.ex he).cell 0) ((hFc.ex he).cell 1)))
  have HE0 := Lib.hid e0
  clear hG hFc hF hX hx hfl hr hve h1 h2 hf
  go_enter Tryz.func160, Tryz.ntmps160
  go_wp2_with fail
  generalize (w.alloc (.cells #[.int .i64 f, .slice X n e] 174)) = W0 at *
  have HB0 := Lib.hid b0
  have HS2 := Lib.hid (fun W' (he : Ex W0.drew W') => And.intro ((HB0.out.ex ((Ex.refl W0).drew.trans he)).cell 0) (And.intro ((HB0.out.ex ((Ex.refl W0).drew.trans he)).cell 1) (HSK.out W' (HE0.out.drew.trans he))))
  clear e0 b0
  refine wp_region_quiet (C := fun w' => Ex W0.drew w') (by kernel_rfl) (by kernel_rfl) (Ex.refl _) ?_
  refine BigFrame.wpQuiet_want (by rfl) fun K hK => ⟨?_, fun w' hC => ?_, hK _ ?_⟩
  rotate_left
  · (obtain ⟨q0, q1, q2, q3, q4⟩ := HS2.out _ hC; go_simp; first | done | with_reducible rfl | exact ⟨rfl, hC⟩)
  clear hK K
  simp only [Act.put, List.setIfInBounds_toArray, List.set_cons_zero, List.set_cons_succ]
  refine BigFrame.wpQuiet_want (by rfl) fun K hK => ⟨?_, fun w' hC => ?_, hK _ ?_⟩
  rotate_left
  · (obtain ⟨q0, q1, q2, q3, q4⟩ := HS2.out _ hC; go_simp; first | done | with_reducible rfl | exact ⟨rfl, hC⟩)
  clear hK K
  simp only [Act.put, List.setIfInBounds_toArray, List.set_cons_zero, List.set_cons_succ]
  refine BigFrame.wpQuiet_want (by rfl) fun K hK => ⟨?_, fun w' hC => ?_, hK _ ?_⟩
  rotate_left
  · (obtain ⟨q0, q1, q2, q3, q4⟩ := HS2.out _ hC; go_simp; first | done | with_reducible rfl | exact ⟨rfl, hC⟩)
  clear hK K
  simp only [Act.put, List.setIfInBounds_toArray, List.set_cons_zero, List.set_cons_succ]
  refine BigFrame.wpQuiet_want (by rfl) fun K hK => ⟨?_, fun w' hC => ?_, hK _ ?_⟩
  rotate_left
  · (obtain ⟨q0, q1, q2, q3, q4⟩ := HS2.out _ hC; go_simp; first | done | with_reducible rfl | exact ⟨rfl, hC⟩)
  clear hK K
  simp only [Act.put, List.setIfInBounds_toArray, List.set_cons_zero, List.set_cons_succ]
  refine BigFrame.wpQuiet_want (by rfl) fun K hK => ⟨?_, fun w' hC => ?_, hK _ ?_⟩
  rotate_left
  · (obtain ⟨q0, q1, q2, q3, q4⟩ := HS2.out _ hC; go_simp; first | done | with_reducible rfl | exact ⟨rfl, hC⟩)
  clear hK K
  simp only [Act.put, List.setIfInBounds_toArray, List.set_cons_zero, List.set_cons_succ]
  refine BigFrame.wpQuiet_want (by rfl) fun K hK => ⟨?_, fun w' hC => ?_, hK _ ?_⟩
  rotate_left
  · (obtain ⟨q0, q1, q2, q3, q4⟩ := HS2.out _ hC; go_simp; first | done | with_reducible rfl | exact ⟨rfl, hC⟩)
  clear hK K
  simp only [Act.put, List.setIfInBounds_toArray, List.set_cons_zero, List.set_cons_succ]
  refine BigFrame.wpQuiet_want (by rfl) fun K hK => ⟨.int .i64 v, fun w' hC => (by go_simp; refine ((HVA.out w' (HE0.out.drew.trans hC))).mono ?_; rintro e w2 ⟨rfl, hb⟩; exact ⟨rfl, hC.trans hb⟩), hK _ ?_⟩
  clear hK K
  simp only [Act.put, List.setIfInBounds_toArray, List.set_cons_zero, List.set_cons_succ]
  refine BigFrame.wpQuiet_want (by rfl) fun K hK => ⟨?_, fun w' hC => ?_, hK _ ?_⟩
  rotate_left
  · (obtain ⟨q0, q1, q2, q3, q4⟩ := HS2.out _ hC; go_simp; first | done | with_reducible rfl | exact ⟨rfl, hC⟩)
  clear hK K
  simp only [Act.put, List.setIfInBounds_toArray, List.set_cons_zero, List.set_cons_succ]
  refine BigFrame.wpQuiet_want (by rfl) fun K hK => ⟨?_, fun w' hC => ?_, hK _ ?_⟩
  rotate_left
  · (obtain ⟨q0, q1, q2, q3, q4⟩ := HS2.out _ hC; go_simp; first | done | with_reducible rfl | exact ⟨rfl, hC⟩)
  clear hK K
  simp only [Act.put, List.setIfInBounds_toArray, List.set_cons_zero, List.set_cons_succ]
  refine wpQuiet_nil ?_
  intro w2 hC2
  have HC2 := Lib.hid hC2
  clear hC2
  go_wp2_with fail
  go_ret
  exact ⟨rfl, HE0.out.drew.trans HC2.out⟩

set_option maxRecDepth 100000 in
set_option maxHeartbeats 4000000 in
theorem boundaryAt_any (A U F : Option Addr) (bl ol : Nat) (t : List (List Int)) (M n : Nat) (us fs Ls : List Int) (c0 c1 c2 e : Nat) (w : World) (hR : RwsW w A t) (hU : IntsW w U us) (hF : IntsW w F fs) (hm : ModF t M us) (hX : IntsW w (some ⟨bl, ol, none⟩) Ls) (hr : InR t.length Ls) (hl : Ls.length = n + 1) (hn3 : n ≤ 3) (hle : n + 1 ≤ e) (hfl : fs.length = cellsN t.length n) (hfr : InR M fs) :
    Calls Tryz.prog 151 #[.agg #[.slice A t.length c0], .agg #[.int .i64 (M : Int), .slice U us.length c1], .agg #[.int .i64 (n : Int), .slice F fs.length c2], .slice (some ⟨bl, ol, none⟩) Ls.length e] w fun e w' => e = .returned (.int .i64 (bdV t M us fs Ls)) ∧ Ex w w' := by
  have e0 : Ex w (((w.alloc (.cells #[.slice A t.length c0] 32)).alloc (.cells #[.int .i64 (M : Int), .slice U us.length c1] 52)).alloc (.cells #[.int .i64 (n : Int), .slice F fs.length c2] 34)) := (((Ex.refl w).alloc _).alloc _).alloc _
  have b0 : Has (((w.alloc (.cells #[.slice A t.length c0] 32)).alloc (.cells #[.int .i64 (M : Int), .slice U us.length c1] 52)).alloc (.cells #[.int .i64 (n : Int), .slice F fs.length c2] 34)) (w.heap.size) 32 #[.slice A t.length c0] := (((Has.newAt (w := w) (e := 32) (cs := #[.slice A t.length c0]) (k := w.heap.size) (by simp)).alloc _).alloc _)
  have b1 : Has (((w.alloc (.cells #[.slice A t.length c0] 32)).alloc (.cells #[.int .i64 (M : Int), .slice U us.length c1] 52)).alloc (.cells #[.int .i64 (n : Int), .slice F fs.length c2] 34)) (w.heap.size + 1) 52 #[.int .i64 (M : Int), .slice U us.length c1] := ((Has.newAt (w := (w.alloc (.cells #[.slice A t.length c0] 32))) (e := 52) (cs := #[.int .i64 (M : Int), .slice U us.length c1]) (k := w.heap.size + 1) (by simp)).alloc _)
  have b2 : Has (((w.alloc (.cells #[.slice A t.length c0] 32)).alloc (.cells #[.int .i64 (M : Int), .slice U us.length c1] 52)).alloc (.cells #[.int .i64 (n : Int), .slice F fs.length c2] 34)) (w.heap.size + 1 + 1) 34 #[.int .i64 (n : Int), .slice F fs.length c2] := (Has.newAt (w := ((w.alloc (.cells #[.slice A t.length c0] 32)).alloc (.cells #[.int .i64 (M : Int), .slice U us.length c1] 52))) (e := 34) (cs := #[.int .i64 (n : Int), .slice F fs.length c2]) (k := w.heap.size + 1 + 1) (by simp))
  have hmf : ∀ (fn : Fn) (first cap : Array Value) (w : World), (Instr.makeFunc fn first cap).run Tryz.prog w = .ok (.func fn first cap) w := fun _ _ _ _ => rfl
  have hN8 := hm.g.n8
  have hN1 := hm.g.n1
  have hM2 := hm.m2
  have hM12 := hm.m12
  have HFC := Lib.hid (fun W (he : Ex w W) => facesOf_any A U bl ol t M us Ls c0 c1 e W (hR.ex he) (hU.ex he) hm (hX.ex he) hr (by omega) (by omega) (by omega))
  have HSM := Lib.hid (fun (v : Value) (lo : Nat) W (he : Ex (((w.alloc (.cells #[.slice A t.length c0] 32)).alloc (.cells #[.int .i64 (M : Int), .slice U us.length c1] 52)).alloc (.cells #[.int .i64 (n : Int), .slice F fs.length c2] 34)) W) (hfc : FcsW W lo v (n + 2) n (fcF us Ls) (fcX t Ls)) =>
    sumOfF_any v lo (n + 2) n M (fcF us Ls) (fcX t Ls) 160 #[.pointer (some ⟨w.heap.size, 0, none⟩), .pointer (some ⟨w.heap.size + 1 + 1, 0, none⟩)] (fcT t us fs Ls) W hfc (by omega) (by omega) (by omega) hM12
      (enters_of Tryz.func160 (by kernel_rfl) rfl) (fun j hj => fcT_bound hm hr hl hfl hfr hj)
      (fun W' he' j hj A' c' hx => bac_ex w.heap.size (w.heap.size + 1 + 1) A F A' t.length n c0 c2 c' (fcF us Ls j) fs (fcX t Ls j) W' (b0.ex (he.trans he')) (b2.ex (he.trans he')) (hF.ex (e0.trans (he.trans he'))) hx hN8 hN1 (by omega) (fcX_len hl hj) hfl (fcX_in hm.g hr)
        (by
          unfold fcF
          by_cases h0 : j = 0
          · rw [if_pos h0]
            have h2 := hr 0 (by omega)
            have h3 := hm.rng (nth Ls 0).toNat (by rw [hm.len]; omega)
            omega
          · rw [if_neg h0]
            rcases sgn_or j with h | h <;> omega)
        (by
          have hv := valR_in (show 0 < M by omega) (fcX_in hm.g hr (j := j)) (fcX_len (t := t) hl hj) hfl hfr
          omega)))
  have HV := Lib.hid (sumT_bdV (t := t) (M := M) (us := us) (fs := fs) hl)
  obtain ⟨ln, hln⟩ : ∃ ln, Ls.length = ln := ⟨_, rfl⟩
  have hl1 : ln + 1 = n + 2 := by omega
  have hl2 : ln - 1 = n := by omega
  rw [hln, hl1, hl2] at HFC
  rw [hln]
  have HC0 := Lib.hid (And.intro (b0.cell 0) (And.intro (b1.cell 0) (b1.cell 1)))
  have HE0 := Lib.hid e0
  clear hR hU hF hm hX hr hl hfl hfr hln hl1 hl2 b0 b1 b2 e0
  go_enter Tryz.func151, Tryz.ntmps151
  go_wp2_with fail
  generalize (((w.alloc (.cells #[.slice A t.length c0] 32)).alloc (.cells #[.int .i64 (M : Int), .slice U us.length c1] 52)).alloc (.cells #[.int .i64 (n : Int), .slice F fs.length c2] 34)) = W0 at *
  refine Late.region (C := fun w' => w'.cell? ⟨w.heap.size, 0, none⟩ = some (.slice A t.length c0) ∧ w'.cell? ⟨w.heap.size + 1, 0, none⟩ = some (.int .i64 (M : Int)) ∧ w'.cell? ⟨w.heap.size + 1, 1, none⟩ = some (.slice U us.length c1)) (fun _ => true) (by kernel_rfl) HC0.out (fun hC => ?_)
  refine Late.take (i := 0) (oi := _) (v := ?_) rfl (by kernel_rfl) (by kernel_rfl) (by kernel_rfl) (by kernel_rfl) (fun _ _ _ h => h) (Or.inl ⟨by rfl, ?_⟩) hC ?_
  rotate_left
  · (intro w hSw; (try dsimp only at hSw); go_simp; first | done | with_reducible rfl)
  simp only [Act.put]
  refine Late.take (i := 1) (oi := _) (v := ?_) rfl (by kernel_rfl) (by kernel_rfl) (by kernel_rfl) (by kernel_rfl) (fun _ _ _ h => h) (Or.inl ⟨by rfl, ?_⟩) hC ?_
  rotate_left
  · (intro w hSw; (try dsimp only at hSw); go_simp; first | done | with_reducible rfl)
  simp only [Act.put]
  refine Late.take (i := 2) (oi := _) (v := ?_) rfl (by kernel_rfl) (by kernel_rfl) (by kernel_rfl) (by kernel_rfl) (fun _ _ _ h => h) (Or.inl ⟨by rfl, ?_⟩) hC ?_
  rotate_left
  · (intro w hSw; (try dsimp only at hSw); go_simp; first | done | with_reducible rfl)
  simp only [Act.put]
  refine Late.take (i := 3) (oi := _) (v := ?_) rfl (by kernel_rfl) (by kernel_rfl) (by kernel_rfl) (by kernel_rfl) (fun _ _ _ h => h) (Or.inl ⟨by rfl, ?_⟩) hC ?_
  rotate_left
  · (intro w hSw; (try dsimp only at hSw); go_simp; first | done | with_reducible rfl)
  simp only [Act.put]
  refine Late.take (i := 4) (oi := _) (v := ?_) rfl (by kernel_rfl) (by kernel_rfl) (by kernel_rfl) (by kernel_rfl) (fun _ _ _ h => h) (Or.inl ⟨by rfl, ?_⟩) hC ?_
  rotate_left
  · (intro w hSw; (try dsimp only at hSw); go_simp; first | done | with_reducible rfl)
  simp only [Act.put]
  refine Late.take (i := 6) (oi := _) (v := ?_) rfl (by kernel_rfl) (by kernel_rfl) (by kernel_rfl) (by kernel_rfl) (fun _ _ _ h => h) (Or.inl ⟨by rfl, ?_⟩) hC ?_
  rotate_left
  · (intro w hSw; (try dsimp only at hSw); go_simp; first | done | with_reducible rfl)
  simp only [Act.put]
  refine Late.one (i := 5) (o := _) (by kernel_rfl) rfl (fun K' hK' => ?_)
  go_simp
  refine (HFC.out W0.drew HE0.out.drew).mono ?_
  rintro e1 W1 ⟨v, rfl, he1, hfc⟩
  have hx1 : Ex W0 W1 := (Ex.refl W0).drew.trans he1
  have hh : ∀ (P : Addr) (V : Value), W0.cell? P = some V → W1.cell? P = some V := fun P V h => (hx1.below.cell (p := P) (World.block_lt_of_cell? _ _ h)).trans h
  have hC1 := And.intro (hh _ _ HC0.out.1) (And.intro (hh _ _ HC0.out.2.1) (hh _ _ HC0.out.2.2))
  have HS1 := Lib.hid (HSM.out v _ W1 hx1 hfc)
  have HX1 := Lib.hid (HE0.out.trans hx1)
  refine hK'.out _ _ (fun _ => hC1) (fun _ => ?_)
  clear hK' K' hC hh he1 hfc hx1
  try simp only [Act.put, List.setIfInBounds_toArray, List.set_cons_zero, List.set_cons_succ]
  refine Late.one (i := 7) (o := _) (by kernel_rfl) rfl (fun K' hK' => ?_)
  go_simp
  refine HS1.out.mono ?_
  rintro e2 W2 ⟨rfl, he2⟩
  have hh : ∀ (P : Addr) (V : Value), W1.cell? P = some V → W2.cell? P = some V := fun P V h => (he2.below.cell (p := P) (World.block_lt_of_cell? _ _ h)).trans h
  have hC2 := And.intro (hh _ _ hC1.1) (And.intro (hh _ _ hC1.2.1) (hh _ _ hC1.2.2))
  have HX2 := Lib.hid (HX1.out.trans he2)
  refine hK'.out _ _ (fun _ => hC2) (fun _ => ?_)
  clear hK' K' hh he2 hC1
  try simp only [Act.put, List.setIfInBounds_toArray, List.set_cons_zero, List.set_cons_succ]
  refine Late.one (i := 8) (o := _) (by kernel_rfl) rfl (fun K' hK' => ?_)
  go_simp
  refine hK'.out _ _ (fun _ => hC2) (fun _ => ?_)
  clear hK' K'
  refine Late.done (by kernel_rfl) ?_ _
  go_wp2_with fail
  go_ret
  exact ⟨by rw [← HV.out]; rfl, HX2.out⟩

end Go.Proofs.YtcdijeeabgmgmaaGreatDoor
