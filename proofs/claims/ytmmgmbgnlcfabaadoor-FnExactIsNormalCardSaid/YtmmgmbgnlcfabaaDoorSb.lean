/- SubgroupOf: both contracts. -/
import Derived.Deep.RegionHeld3
import Derived.Test.YtmmgmbgnlcfabaaDoorCj
namespace Go.Proofs.YtmmgmbgnlcfabaaDoor
open Go.RowKit Go.Shelf

attribute [local go_sem] Oper.semAt_some

noncomputable def ySubgroupOf0 (t : List (List Int)) (xs : List Int) : List Int := if setC t xs = 0 then elI (clo t (bitsK xs xs.length ||| 1)) else []
noncomputable def qSubgroupOf1 (t : List (List Int)) (xs : List Int) : Int := setC t xs
theorem setC_cases (t : List (List Int)) (xs : List Int) : (grpB t = false ∧ setC t xs = 1) ∨ (grpB t = true ∧ setB t.length xs = false ∧ setC t xs = 2) ∨ (grpB t = true ∧ setB t.length xs = true ∧ setC t xs = 0) := by
  cases h : grpB t
  · exact .inl ⟨rfl, setC_no h⟩
  · cases h2 : setB t.length xs
    · exact .inr (.inl ⟨rfl, rfl, setC_out h h2⟩)
    · exact .inr (.inr ⟨rfl, rfl, setC_yes h h2⟩)
theorem sb_err {t : List (List Int)} {xs : List Int} {k : Int} (h : setC t xs = k) (hk : k ≠ 0) : ySubgroupOf0 t xs = [] ∧ qSubgroupOf1 t xs = k := by simp [ySubgroupOf0, qSubgroupOf1, h, hk]
theorem sb_yes {t : List (List Int)} {xs : List Int} (h : setC t xs = 0) : ySubgroupOf0 t xs = elI (clo t (bitsK xs xs.length ||| 1)) ∧ qSubgroupOf1 t xs = 0 := by simp [ySubgroupOf0, qSubgroupOf1, h]
theorem subgroupOf_small0 (t : List (List Int)) (xs : List Int) : (ySubgroupOf0 t xs).length ≤ 1048576 := by
  rcases setC_cases t xs with ⟨_, h⟩ | ⟨_, _, h⟩ | ⟨hg, hb, h⟩
  · rw [(sb_err h (by decide)).1]; simp
  · rw [(sb_err h (by decide)).1]; simp
  · rw [(sb_yes h).1, elI_len]
    have hgr := grpB_iff.1 hg
    have h1 := bitsK_lt (setB_true.1 hb).1 xs.length (Nat.le_refl _)
    have : (elN (clo t (bitsK xs xs.length ||| 1))).length ≤ 8 := elN_len _ (lt256 hgr.n8 (clo_lt hgr (or_lt (x := 0) h1 hgr.n1)))
    omega

set_option maxRecDepth 100000 in
set_option maxHeartbeats 2000000 in
theorem specSubgroupOf_ex (t0 : List (List Int)) (t1 : List Int) : ∀ (B0 : Option Addr) (d0 : Nat) (B1 : Option Addr) (d1 : Nat) (W : World), RwsW W B0 t0 → IntsW W B1 t1 → SmallT t0 → t1.length ≤ 1048576 →
    Calls Tryd.prog 19 #[.agg #[.slice B0 t0.length d0], .slice B1 t1.length d1] W fun e W' => ∃ (C0 : Option Addr) (e0 : Nat), e = .returned (.tuple #[.slice C0 (ySubgroupOf0 t0 t1).length e0, .int .i64 (qSubgroupOf1 t0 t1)]) ∧ Ex W W' ∧ OwnL W' W.heap.size W'.heap.size C0 (ySubgroupOf0 t0 t1) := by
  intro B0 d0 B1 d1 w hR hX hs hu
  have e0 : Ex w (w.alloc (.cells #[.slice B0 t0.length d0] 29)) := (Ex.refl w).alloc _
  have b0 : Has (w.alloc (.cells #[.slice B0 t0.length d0] 29)) (w.heap.size) 29 #[.slice B0 t0.length d0] := (Has.newAt (w := w) (e := 29) (cs := #[.slice B0 t0.length d0]) (k := w.heap.size) (by simp))
  have HC := Lib.hid (l01Set_any B0 B1 t0 t1 d0 d1 _ (hR.ex e0) (hX.ex e0) hs hu)
  by_cases hc : setC t0 t1 = 0
  · obtain ⟨hg, hb, -⟩ : grpB t0 = true ∧ setB t0.length t1 = true ∧ setC t0 t1 = 0 := by
      rcases setC_cases t0 t1 with ⟨_, h⟩ | ⟨_, _, h⟩ | h
      · rw [h] at hc; cases hc
      · rw [h] at hc; cases hc
      · exact h
    rw [hc] at HC
    have HQ := Lib.hid (sb_yes hc)
    have hgr := grpB_iff.1 hg
    have hr := (setB_true.1 hb).1
    have hbl := bitsK_lt hr t1.length (Nat.le_refl _)
    have hcl := lt256 hgr.n8 (clo_lt hgr (or_lt (x := 0) hbl hgr.n1))
    have HBI := Lib.hid (fun W (he : Ex (w.alloc (.cells #[.slice B0 t0.length d0] 29)) W) => l01Bits_any B1 t1 d1 t0.length W (hX.ex (e0.trans he)) hu hgr.n8 hr)
    have HCL := Lib.hid (fun W (he : Ex (w.alloc (.cells #[.slice B0 t0.length d0] 29)) W) => l01Closed_any B0 t0 d0 (bitsK t1 t1.length) W (hR.ex (e0.trans he)) hgr hbl)
    obtain ⟨u, hu1⟩ : ∃ u, bitsK t1 t1.length = u := ⟨_, rfl⟩
    rw [hu1] at HQ HBI HCL hcl
    rw [show u ||| 2 ^ 0 = u ||| 1 from rfl] at hcl
    obtain ⟨v, hv⟩ : ∃ v, clo t0 (u ||| 1) = v := ⟨_, rfl⟩
    rw [hv] at HQ HCL hcl
    clear hc hg hb hgr hr hbl hu1 hv hR hX hs hu
    go_enter Tryd.func19, Tryd.ntmps19
    go_wp2_with fail
    generalize (w.alloc (.cells #[.slice B0 t0.length d0] 29)) = W0 at *
    refine HC.out.mono ?_
    rintro e W1 ⟨rfl, he1⟩
    have HE1 := Lib.hid (e0.trans he1)
    have HB1 := Lib.hid (b0.ex he1)
    have HBI1 := Lib.hid (HBI.out W1.drew he1.drew)
    have HCL1 := Lib.hid (HCL.out W1.drew he1.drew)
    have HK := Lib.hid (fun (W' : World) (hb : Ex W1.drew W') => (Has.ex (w := W1.drew) HB1.out hb).cell 0)
    clear b0 e0 he1 HBI HCL
    go_wp2_with fail
    go_region_held3 (fun w' : World => w'.cell? ⟨w.heap.size, 0, none⟩ = some (.slice B0 t0.length d0))
      (first
        | exact HK.out _ (Ex.refl _)
        | exact HK.out _ (by assumption)
        | exact HK.out _ (Ex.trans (by assumption) (by assumption)))
      (first
        | (go_at_call 46; refine HBI1.out.mono ?_; rintro e w4 ⟨rfl, rfl⟩)
        | (go_at_call 45; refine HCL1.out.mono ?_; rintro e w5 ⟨rfl, he5⟩)
        | (go_at_call 44; refine (l01List_any v _ hcl).mono ?_; rintro e w6 ⟨A6, n6, rfl, he6, ho6⟩))
    all_goals
      go_wp2_with fail
      go_ret2
      exact ⟨A6, n6, by rw [HQ.out.1, HQ.out.2]; rfl, HE1.out.drew.trans (he5.trans he6), by rw [HQ.out.1]; exact ho6.mono (HE1.out.drew.trans he5).size (Nat.le_refl _) (Nat.le_refl _)⟩
  · have HQ := Lib.hid (sb_err rfl hc)
    obtain ⟨k, hk⟩ : ∃ k, setC t0 t1 = k := ⟨_, rfl⟩
    rw [hk] at HC HQ hc
    have hne : (k != 0) = true := by simp [hc]
    clear hk hc hR hX
    go_enter Tryd.func19, Tryd.ntmps19
    go_wp2_with fail
    generalize (w.alloc (.cells #[.slice B0 t0.length d0] 29)) = W0 at *
    refine HC.out.mono ?_
    rintro e W1 ⟨rfl, he1⟩
    have HE1 := Lib.hid (e0.trans he1)
    clear b0 e0 he1
    go_wp2_with fail
    go_ret2
    exact ⟨none, 0, by rw [HQ.out.1, HQ.out.2]; rfl, HE1.out, by rw [HQ.out.1]; exact OwnL.nil _ _ _ (Nat.le_refl _)⟩

set_option maxRecDepth 100000 in
set_option maxHeartbeats 2000000 in
theorem implSubgroupOf_ex (t0 : List (List Int)) (t1 : List Int) : ∀ (B0 : Option Addr) (d0 : Nat) (B1 : Option Addr) (d1 : Nat) (W : World), RwsW W B0 t0 → IntsW W B1 t1 → SmallT t0 → t1.length ≤ 1048576 → TabL W →
    Calls Tryd.prog 21 #[.agg #[.slice B0 t0.length d0], .slice B1 t1.length d1] W fun e W' => ∃ (C0 : Option Addr) (e0 : Nat), e = .returned (.tuple #[.slice C0 (ySubgroupOf0 t0 t1).length e0, .int .i64 (qSubgroupOf1 t0 t1)]) ∧ Ex W W' ∧ OwnL W' W.heap.size W'.heap.size C0 (ySubgroupOf0 t0 t1) := by
  intro B0 d0 B1 d1 w hR hX hs hu hT
  have e0 : Ex w (w.alloc (.cells #[.slice B0 t0.length d0] 29)) := (Ex.refl w).alloc _
  have b0 : Has (w.alloc (.cells #[.slice B0 t0.length d0] 29)) (w.heap.size) 29 #[.slice B0 t0.length d0] := (Has.newAt (w := w) (e := 29) (cs := #[.slice B0 t0.length d0]) (k := w.heap.size) (by simp))
  have HC := Lib.hid (implIsGroup_ex B0 t0 d0 _ (hR.ex e0) hs)
  rcases setC_cases t0 t1 with ⟨hg, hc⟩ | ⟨hg, hb, hc⟩ | ⟨hg, hb, hc⟩
  · rw [hg] at HC
    have HQ := Lib.hid (sb_err hc (by decide))
    clear hg hc hR hX hT
    go_enter Tryd.func21, Tryd.ntmps21
    go_wp2_with fail
    generalize (w.alloc (.cells #[.slice B0 t0.length d0] 29)) = W0 at *
    refine HC.out.mono ?_
    rintro e W1 ⟨rfl, he1⟩
    have HE1 := Lib.hid (e0.trans he1)
    clear b0 e0 he1
    go_wp2_with fail
    go_ret2
    exact ⟨none, 0, by rw [HQ.out.1, HQ.out.2]; rfl, HE1.out, by rw [HQ.out.1]; exact OwnL.nil _ _ _ (Nat.le_refl _)⟩
  · rw [hg] at HC
    have HQ := Lib.hid (sb_err hc (by decide))
    have hn8 := (grpB_iff.1 hg).n8
    have HIE := Lib.hid (fun W he => hb ▸ isElementSet_any B0 B1 t1 t0.length d0 d1 W (hX.ex (e0.trans he)) hn8 hu)
    clear hg hb hc hR hX hT
    go_enter Tryd.func21, Tryd.ntmps21
    go_wp2_with fail
    generalize (w.alloc (.cells #[.slice B0 t0.length d0] 29)) = W0 at *
    refine HC.out.mono ?_
    rintro e W1 ⟨rfl, he1⟩
    have HE1 := Lib.hid (e0.trans he1)
    have c0 := (b0.ex he1).cell 0
    have HIE1 := Lib.hid (HIE.out W1 he1)
    clear b0 e0 he1 HIE
    go_wp2_with fail
    refine HIE1.out.mono ?_
    rintro e W2 ⟨rfl, he2⟩
    have HE2 := Lib.hid (HE1.out.trans he2)
    clear he2
    go_wp2_with fail
    go_ret2
    exact ⟨none, 0, by rw [HQ.out.1, HQ.out.2]; rfl, HE2.out, by rw [HQ.out.1]; exact OwnL.nil _ _ _ (Nat.le_refl _)⟩
  · rw [hg] at HC
    have HQ := Lib.hid (sb_yes hc)
    have hgr := grpB_iff.1 hg
    have hr := (setB_true.1 hb).1
    have hbl := bitsK_lt hr t1.length (Nat.le_refl _)
    have hcl := lt256 hgr.n8 (clo_lt hgr (or_lt (x := 0) hbl hgr.n1))
    have HIE := Lib.hid (fun W he => hb ▸ isElementSet_any B0 B1 t1 t0.length d0 d1 W (hX.ex (e0.trans he)) hgr.n8 hu)
    have HBI := Lib.hid (fun W (he : Ex (w.alloc (.cells #[.slice B0 t0.length d0] 29)) W) => setOf_any B1 t1 d1 t0.length W (hX.ex (e0.trans he)) hu hgr.n8 hr)
    have HCL := Lib.hid (fun W (he : Ex (w.alloc (.cells #[.slice B0 t0.length d0] 29)) W) => subgroupMadeBy_any B0 t0 d0 (bitsK t1 t1.length) W (hR.ex (e0.trans he)) hgr hbl (hT.ex (e0.trans he)))
    have HTB := Lib.hid hT
    obtain ⟨u, hu1⟩ : ∃ u, bitsK t1 t1.length = u := ⟨_, rfl⟩
    rw [hu1] at HQ HBI HCL hcl
    rw [show u ||| 2 ^ 0 = u ||| 1 from rfl] at hcl
    obtain ⟨v, hv⟩ : ∃ v, clo t0 (u ||| 1) = v := ⟨_, rfl⟩
    rw [hv] at HQ HCL hcl
    clear hc hg hb hgr hr hbl hu1 hv hR hX hs hu hT
    go_enter Tryd.func21, Tryd.ntmps21
    go_wp2_with fail
    generalize (w.alloc (.cells #[.slice B0 t0.length d0] 29)) = W0 at *
    refine HC.out.mono ?_
    rintro e W1 ⟨rfl, he1⟩
    have HE1 := Lib.hid (e0.trans he1)
    have HB1 := Lib.hid (b0.ex he1)
    have c0 := HB1.out.cell 0
    have HIE1 := Lib.hid (HIE.out W1 he1)
    have HE01 := Lib.hid he1
    clear b0 e0 he1 HIE
    go_wp2_with fail
    refine HIE1.out.mono ?_
    rintro e W2 ⟨rfl, he2⟩
    have HE2 := Lib.hid (HE1.out.trans he2)
    have HB2 := Lib.hid (HB1.out.ex he2)
    have HBI1 := Lib.hid (HBI.out W2.drew (HE01.out.trans he2).drew)
    have HCL1 := Lib.hid (HCL.out W2.drew (HE01.out.trans he2).drew)
    have HK := Lib.hid (fun (W' : World) (hb : Ex W2.drew W') => (Has.ex (w := W2.drew) HB2.out hb).cell 0)
    have HT2 := Lib.hid (fun (W' : World) (hb : Ex W2.drew W') => setList_any v W' hcl (HTB.out.ex (HE2.out.drew.trans hb)))
    clear he2 HBI HCL HB1 HE01 c0
    go_wp2_with fail
    go_region_held3 (fun w' : World => w'.cell? ⟨w.heap.size, 0, none⟩ = some (.slice B0 t0.length d0))
      (first
        | exact HK.out _ (Ex.refl _)
        | exact HK.out _ (by assumption)
        | exact HK.out _ (Ex.trans (by assumption) (by assumption)))
      (first
        | (go_at_call 49; refine HBI1.out.mono ?_; rintro e w4 ⟨rfl, rfl⟩)
        | (go_at_call 48; refine HCL1.out.mono ?_; rintro e w5 ⟨rfl, he5⟩)
        | (go_at_call 42; refine (HT2.out _ (by assumption)).mono ?_; rintro e w6 ⟨A6, n6, rfl, he6, ho6⟩))
    all_goals
      go_wp2_with fail
      go_ret2
      exact ⟨A6, n6, by rw [HQ.out.1, HQ.out.2]; rfl, HE2.out.drew.trans (he5.trans he6), by rw [HQ.out.1]; exact ho6.mono (HE2.out.drew.trans he5).size (Nat.le_refl _) (Nat.le_refl _)⟩

end Go.Proofs.YtmmgmbgnlcfabaaDoor
