/- IsAbelian: both contracts. -/
import Derived.Deep.RegionHeld3
import Derived.Test.YtfnjpbjlikajbaaDoorCn
import Derived.Test.YtfnjpbjlikajbaaDoorOc
namespace Go.Proofs.YtfnjpbjlikajbaaDoor
open Go.RowKit Go.Shelf

attribute [local go_sem] Oper.semAt_some

/-- Do all elements commute with all? -/
def abB (t : List (List Int)) : Bool := ((selI (cenP t) t.length).length : Int) == (t.length : Int)
theorem abB_set {t : List (List Int)} (hn : t.length ≤ 8) : abB t = (((elN (pset (cenP t) (List.finRange t.length))).length : Int) == (t.length : Int)) := by
  have h := congrArg List.length (pset_all (cenP t) hn)
  rw [elI_len] at h
  rw [abB, h]
noncomputable def qIsAbelian0 (t : List (List Int)) : Bool := grpB t && abB t
noncomputable def qIsAbelian1 (t : List (List Int)) : Int := if grpB t = true then 0 else 1
section
variable {t : List (List Int)}
theorem ia_no (h : grpB t = false) : qIsAbelian0 t = false ∧ qIsAbelian1 t = 1 := by simp [qIsAbelian0, qIsAbelian1, h]
theorem ia_yes (h : grpB t = true) : qIsAbelian0 t = abB t ∧ qIsAbelian1 t = 0 := by simp [qIsAbelian0, qIsAbelian1, h]
end

set_option maxRecDepth 100000 in
set_option maxHeartbeats 2000000 in
theorem implIsAbelian_ex (t0 : List (List Int)) : ∀ (B0 : Option Addr) (d0 : Nat) (W : World), RwsW W B0 t0 → SmallT t0 →
    Calls Tryd.prog 43 #[.agg #[.slice B0 t0.length d0]] W fun e W' => e = .returned (.tuple #[.bool (qIsAbelian0 t0), .int .i64 (qIsAbelian1 t0)]) ∧ Ex W W' := by
  intro B0 d0 w hR hs
  have e0 : Ex w (w.alloc (.cells #[.slice B0 t0.length d0] 36)) := (Ex.refl w).alloc _
  have b0 : Has (w.alloc (.cells #[.slice B0 t0.length d0] 36)) (w.heap.size) 36 #[.slice B0 t0.length d0] := (Has.newAt (w := w) (e := 36) (cs := #[.slice B0 t0.length d0]) (k := w.heap.size) (by simp))
  have HC := Lib.hid (implIsGroup_ex B0 t0 d0 _ (hR.ex e0) hs)
  cases hg : grpB t0 with
  | false =>
    rw [hg] at HC
    have HQ := Lib.hid (ia_no hg)
    clear hg hR
    go_enter Tryd.func43, Tryd.ntmps43
    go_wp2_with fail
    generalize (w.alloc (.cells #[.slice B0 t0.length d0] 36)) = W0 at *
    refine HC.out.mono ?_
    rintro e W1 ⟨rfl, he1⟩
    have HE1 := Lib.hid (e0.trans he1)
    clear b0 e0 he1
    go_wp2_with fail
    go_ret2
    exact ⟨by rw [HQ.out.1, HQ.out.2]; rfl, HE1.out⟩
  | true =>
    rw [hg] at HC
    have HQ := Lib.hid (ia_yes hg)
    have hn8 := (grpB_iff.1 hg).n8
    have hn : t0.length ≤ 1048576 := by omega
    have HL := Lib.hid (fun W he => centreSet_any B0 t0 d0 W (hR.ex (e0.trans he)) (grpB_iff.1 hg))
    have HAB := Lib.hid (abB_set hn8)
    have hps := pset_lt (cenP t0) hn8 (List.finRange t0.length)
    obtain ⟨s, hse⟩ : ∃ s, pset (cenP t0) (List.finRange t0.length) = s := ⟨_, rfl⟩
    rw [hse] at hps HAB HL
    have HSZ := Lib.hid (fun W => (size_any s W hps).mono fun _ _ h => And.intro h.1 (Ex.of_eq' h.2))
    obtain ⟨q, hq⟩ : ∃ q, (((elN s).length : Int) == (t0.length : Int)) = q := ⟨_, rfl⟩
    rw [hq] at HAB
    clear hg hR hs hse
    go_enter Tryd.func43, Tryd.ntmps43
    go_wp2_with fail
    generalize (w.alloc (.cells #[.slice B0 t0.length d0] 36)) = W0 at *
    refine HC.out.mono ?_
    rintro e W1 ⟨rfl, he1⟩
    have HE1 := Lib.hid (e0.trans he1)
    have HB1 := Lib.hid (b0.ex he1)
    have HL1 := Lib.hid (fun W (he : Ex W1.drew W) => HL.out W (he1.drew.trans he))
    have HSK := Lib.hid (fun (W' : World) (hb : Ex W1.drew W') => (Has.ex (w := W1.drew) HB1.out hb).cell 0)
    clear b0 e0 he1 HL
    go_wp2_with fail
    refine wp_region_quiet (C := fun w' => Ex W1.drew w') (by kernel_rfl) (by kernel_rfl) (Ex.refl _) ?_
    refine BigFrame.wpQuiet_want (by rfl) fun K hK => ⟨?_, fun w' hC => ?_, hK _ ?_⟩
    rotate_left
    · (obtain q0 := HSK.out _ hC; go_simp; first | done | with_reducible rfl | exact ⟨rfl, hC⟩)
    clear hK K
    simp only [Act.put, List.setIfInBounds_toArray, List.set_cons_zero, List.set_cons_succ]
    refine BigFrame.wpQuiet_want (by rfl) fun K hK => ⟨.int .u64 (s : Int), fun w' hC => (by go_simp; refine ((HL1.out w' hC)).mono ?_; rintro e w2 ⟨rfl, hb⟩; exact ⟨rfl, hC.trans hb⟩), hK _ ?_⟩
    clear hK K
    simp only [Act.put, List.setIfInBounds_toArray, List.set_cons_zero, List.set_cons_succ]
    refine BigFrame.wpQuiet_want (by rfl) fun K hK => ⟨.int .i64 ((elN s).length : Int), fun w' hC => (by go_simp; refine ((HSZ.out w')).mono ?_; rintro e w2 ⟨rfl, hb⟩; exact ⟨rfl, hC.trans hb⟩), hK _ ?_⟩
    clear hK K
    simp only [Act.put, List.setIfInBounds_toArray, List.set_cons_zero, List.set_cons_succ]
    refine BigFrame.wpQuiet_want (by rfl) fun K hK => ⟨?_, fun w' hC => ?_, hK _ ?_⟩
    rotate_left
    · (obtain q0 := HSK.out _ hC; go_simp; first | done | with_reducible rfl | exact ⟨rfl, hC⟩)
    clear hK K
    simp only [Act.put, List.setIfInBounds_toArray, List.set_cons_zero, List.set_cons_succ]
    refine BigFrame.wpQuiet_want (by rfl) fun K hK => ⟨.int .i64 (t0.length : Int), fun w' hC => (by go_simp; refine ((groupOrder_ex B0 t0.length d0 w' hn)).mono ?_; rintro e w2 ⟨rfl, hb⟩; exact ⟨rfl, hC.trans hb⟩), hK _ ?_⟩
    clear hK K
    simp only [Act.put, List.setIfInBounds_toArray, List.set_cons_zero, List.set_cons_succ]
    refine BigFrame.wpQuiet_want (by rfl) fun K hK => ⟨?_, fun w' hC => ?_, hK _ ?_⟩
    rotate_left
    · (obtain q0 := HSK.out _ hC; go_simp; first | done | with_reducible rfl | exact ⟨rfl, hC⟩)
    clear hK K
    simp only [Act.put, List.setIfInBounds_toArray, List.set_cons_zero, List.set_cons_succ]
    refine BigFrame.wpQuiet_want (by rfl) fun K hK => ⟨?_, fun w' hC => ?_, hK _ ?_⟩
    rotate_left
    · (obtain q0 := HSK.out _ hC; go_simp; first | done | with_reducible rfl | exact ⟨rfl, hC⟩)
    clear hK K
    simp only [Act.put, List.setIfInBounds_toArray, List.set_cons_zero, List.set_cons_succ]
    refine BigFrame.wpQuiet_want (by rfl) fun K hK => ⟨?_, fun w' hC => ?_, hK _ ?_⟩
    rotate_left
    · (obtain q0 := HSK.out _ hC; go_simp; first | done | with_reducible rfl | exact ⟨rfl, hC⟩)
    clear hK K
    simp only [Act.put, List.setIfInBounds_toArray, List.set_cons_zero, List.set_cons_succ]
    refine wpQuiet_nil ?_
    intro w2 hC2
    have HC2 := Lib.hid hC2
    clear hC2
    go_wp2_with fail
    go_ret2
    exact ⟨by rw [HQ.out.1, HQ.out.2, HAB.out]; rfl, HE1.out.drew.trans HC2.out⟩

end Go.Proofs.YtfnjpbjlikajbaaDoor
