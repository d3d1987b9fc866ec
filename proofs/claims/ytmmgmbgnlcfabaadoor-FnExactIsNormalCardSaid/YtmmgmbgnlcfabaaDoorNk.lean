/- IsNormal: both contracts. -/
import Derived.Test.YtmmgmbgnlcfabaaDoorNi
import Derived.Test.YtmmgmbgnlcfabaaDoorSb
namespace Go.Proofs.YtmmgmbgnlcfabaaDoor
open Go.RowKit Go.Shelf

attribute [local go_sem] Oper.semAt_some

noncomputable def qIsNormal0 (t : List (List Int)) (xs : List Int) : Bool := if setC t xs = 0 ∧ subB t (bitsK xs xs.length) = true then norB t (bitsK xs xs.length) else false
noncomputable def qIsNormal1 (t : List (List Int)) (xs : List Int) : Int := if setC t xs = 0 then (if subB t (bitsK xs xs.length) = true then 0 else 5) else setC t xs
section
variable {t : List (List Int)} {xs : List Int}
theorem nk_err {k : Int} (h : setC t xs = k) (hk : k ≠ 0) : qIsNormal0 t xs = false ∧ qIsNormal1 t xs = k := by simp [qIsNormal0, qIsNormal1, h, hk]
theorem nk_state (h : setC t xs = 0) (h2 : subB t (bitsK xs xs.length) = false) : qIsNormal0 t xs = false ∧ qIsNormal1 t xs = 5 := by simp [qIsNormal0, qIsNormal1, h, h2]
theorem nk_yes (h : setC t xs = 0) (h2 : subB t (bitsK xs xs.length) = true) : qIsNormal0 t xs = norB t (bitsK xs xs.length) ∧ qIsNormal1 t xs = 0 := by simp [qIsNormal0, qIsNormal1, h, h2]
end

set_option maxRecDepth 100000 in
set_option maxHeartbeats 2000000 in
theorem specIsNormal_ex (t0 : List (List Int)) (t1 : List Int) : ∀ (B0 : Option Addr) (d0 : Nat) (B1 : Option Addr) (d1 : Nat) (W : World), RwsW W B0 t0 → IntsW W B1 t1 → SmallT t0 → t1.length ≤ 1048576 →
    Calls Tryd.prog 27 #[.agg #[.slice B0 t0.length d0], .slice B1 t1.length d1] W fun e W' => e = .returned (.tuple #[.bool (qIsNormal0 t0 t1), .int .i64 (qIsNormal1 t0 t1)]) ∧ Ex W W' := by
  intro B0 d0 B1 d1 w hR hX hs hu
  have e0 : Ex w (w.alloc (.cells #[.slice B0 t0.length d0] 29)) := (Ex.refl w).alloc _
  have b0 : Has (w.alloc (.cells #[.slice B0 t0.length d0] 29)) (w.heap.size) 29 #[.slice B0 t0.length d0] := (Has.newAt (w := w) (e := 29) (cs := #[.slice B0 t0.length d0]) (k := w.heap.size) (by simp))
  have HC := Lib.hid (l01Set_any B0 B1 t0 t1 d0 d1 _ (hR.ex e0) (hX.ex e0) hs hu)
  by_cases hc : setC t0 t1 = 0
  · obtain ⟨hg, hb, -⟩ : grpB t0 = true ∧ setB t0.length t1 = true ∧ setC t0 t1 = 0 := by
      rcases setC_cases t0 t1 with ⟨_, h⟩ | ⟨_, _, h⟩ | h
      · rw [h] at hc; cases hc
      · rw [h] at hc; cases hc
      · exact h
    rw [hc] at HC
    have hgr := grpB_iff.1 hg
    have HSU := Lib.hid (fun W (he : Ex (w.alloc (.cells #[.slice B0 t0.length d0] 29)) W) => l01Subgroup_any B0 B1 t0 t1 d0 d1 W (hR.ex (e0.trans he)) (hX.ex (e0.trans he)) hgr hu hb)
    cases hsb : subB t0 (bitsK t1 t1.length) with
    | false =>
      have HQ := Lib.hid (nk_state hc hsb)
      rw [hsb] at HSU
      clear hc hg hb hgr hR hX hs hu hsb
      go_enter Tryd.func27, Tryd.ntmps27
      go_wp2_with fail
      generalize (w.alloc (.cells #[.slice B0 t0.length d0] 29)) = W0 at *
      refine HC.out.mono ?_
      rintro e W1 ⟨rfl, he1⟩
      have HE1 := Lib.hid (e0.trans he1)
      have c0 := (b0.ex he1).cell 0
      have HSU1 := Lib.hid (HSU.out W1 he1)
      clear b0 e0 he1 HSU
      go_wp2_with fail
      refine HSU1.out.mono ?_
      rintro e W2 ⟨rfl, he2⟩
      have HE2 := Lib.hid (HE1.out.trans he2)
      clear he2
      go_wp2_with fail
      go_ret2
      exact ⟨by rw [HQ.out.1, HQ.out.2]; rfl, HE2.out⟩
    | true =>
      have HQ := Lib.hid (nk_yes hc hsb)
      rw [hsb] at HSU
      have HNO := Lib.hid (fun W (he : Ex (w.alloc (.cells #[.slice B0 t0.length d0] 29)) W) => l01Normal_any B0 B1 t0 t1 d0 d1 W (hR.ex (e0.trans he)) (hX.ex (e0.trans he)) hgr hu hb)
      obtain ⟨q, hq⟩ : ∃ q, norB t0 (bitsK t1 t1.length) = q := ⟨_, rfl⟩
      rw [hq] at HQ HNO
      clear hc hg hb hgr hR hX hs hu hsb hq
      go_enter Tryd.func27, Tryd.ntmps27
      go_wp2_with fail
      generalize (w.alloc (.cells #[.slice B0 t0.length d0] 29)) = W0 at *
      refine HC.out.mono ?_
      rintro e W1 ⟨rfl, he1⟩
      have HE01 := Lib.hid he1
      have HE1 := Lib.hid (e0.trans he1)
      have HB1 := Lib.hid (b0.ex he1)
      have c0 := HB1.out.cell 0
      have HSU1 := Lib.hid (HSU.out W1 he1)
      clear b0 e0 he1 HSU
      go_wp2_with fail
      refine HSU1.out.mono ?_
      rintro e W2 ⟨rfl, he2⟩
      have HE2 := Lib.hid (HE1.out.trans he2)
      have c2 := (HB1.out.ex he2).cell 0
      have HNO2 := Lib.hid (HNO.out W2 (HE01.out.trans he2))
      clear he2 HNO c0
      go_wp2_with fail
      refine HNO2.out.mono ?_
      rintro e W3 ⟨rfl, he3⟩
      have HE3 := Lib.hid (HE2.out.trans he3)
      clear he3
      go_wp2_with fail
      go_ret2
      exact ⟨by rw [HQ.out.1, HQ.out.2]; rfl, HE3.out⟩
  · have HQ := Lib.hid (nk_err rfl hc)
    obtain ⟨k, hk⟩ : ∃ k, setC t0 t1 = k := ⟨_, rfl⟩
    rw [hk] at HC HQ hc
    have hne : (k != 0) = true := by simp [hc]
    clear hk hc hR hX
    go_enter Tryd.func27, Tryd.ntmps27
    go_wp2_with fail
    generalize (w.alloc (.cells #[.slice B0 t0.length d0] 29)) = W0 at *
    refine HC.out.mono ?_
    rintro e W1 ⟨rfl, he1⟩
    have HE1 := Lib.hid (e0.trans he1)
    clear b0 e0 he1
    go_wp2_with fail
    go_ret2
    exact ⟨by rw [HQ.out.1, HQ.out.2]; rfl, HE1.out⟩

set_option maxRecDepth 100000 in
set_option maxHeartbeats 2000000 in
theorem implIsNormal_ex (t0 : List (List Int)) (t1 : List Int) : ∀ (B0 : Option Addr) (d0 : Nat) (B1 : Option Addr) (d1 : Nat) (W : World), RwsW W B0 t0 → IntsW W B1 t1 → SmallT t0 → t1.length ≤ 1048576 → TabL W →
    Calls Tryd.prog 28 #[.agg #[.slice B0 t0.length d0], .slice B1 t1.length d1] W fun e W' => e = .returned (.tuple #[.bool (qIsNormal0 t0 t1), .int .i64 (qIsNormal1 t0 t1)]) ∧ Ex W W' := by
  intro B0 d0 B1 d1 w hR hX hs hu hT
  have e0 : Ex w (w.alloc (.cells #[.slice B0 t0.length d0] 29)) := (Ex.refl w).alloc _
  have b0 : Has (w.alloc (.cells #[.slice B0 t0.length d0] 29)) (w.heap.size) 29 #[.slice B0 t0.length d0] := (Has.newAt (w := w) (e := 29) (cs := #[.slice B0 t0.length d0]) (k := w.heap.size) (by simp))
  have HC := Lib.hid (implIsGroup_ex B0 t0 d0 _ (hR.ex e0) hs)
  rcases setC_cases t0 t1 with ⟨hg, hc⟩ | ⟨hg, hb, hc⟩ | ⟨hg, hb, hc⟩
  · rw [hg] at HC
    have HQ := Lib.hid (nk_err hc (by decide))
    clear hg hc hR hX hT
    go_enter Tryd.func28, Tryd.ntmps28
    go_wp2_with fail
    generalize (w.alloc (.cells #[.slice B0 t0.length d0] 29)) = W0 at *
    refine HC.out.mono ?_
    rintro e W1 ⟨rfl, he1⟩
    have HE1 := Lib.hid (e0.trans he1)
    clear b0 e0 he1
    go_wp2_with fail
    go_ret2
    exact ⟨by rw [HQ.out.1, HQ.out.2]; rfl, HE1.out⟩
  · rw [hg] at HC
    have HQ := Lib.hid (nk_err hc (by decide))
    have hn8 := (grpB_iff.1 hg).n8
    have HIE := Lib.hid (fun W he => hb ▸ isElementSet_any B0 B1 t1 t0.length d0 d1 W (hX.ex (e0.trans he)) hn8 hu)
    clear hg hb hc hR hX hT
    go_enter Tryd.func28, Tryd.ntmps28
    go_wp2_with fail
    generalize (w.alloc (.cells #[.slice B0 t0.length d0] 29)) = W0 at *
    refine HC.out.mono ?_
    rintro e W1 ⟨rfl, he1⟩
    have HE1 := Lib.hid (e0.trans he1)
    have c0 := (b0.ex he1).cell 0
    have HIE1 := Lib.hid (HIE.out W1 he1)
    clear b0 e0 he1 HIE
    go_wp2_with fail
    refine HIE1.out.mono ?_
    rintro e W2 ⟨rfl, he2⟩
    have HE2 := Lib.hid (HE1.out.trans he2)
    clear he2
    go_wp2_with fail
    go_ret2
    exact ⟨by rw [HQ.out.1, HQ.out.2]; rfl, HE2.out⟩
  · rw [hg] at HC
    have hgr := grpB_iff.1 hg
    have hr := (setB_true.1 hb).1
    have hbl := bitsK_lt hr t1.length (Nat.le_refl _)
    have HIE := Lib.hid (fun W he => hb ▸ isElementSet_any B0 B1 t1 t0.length d0 d1 W (hX.ex (e0.trans he)) hgr.n8 hu)
    have HBI := Lib.hid (fun W (he : Ex (w.alloc (.cells #[.slice B0 t0.length d0] 29)) W) => setOf_any B1 t1 d1 t0.length W (hX.ex (e0.trans he)) hu hgr.n8 hr)
    have HSU := Lib.hid (fun W (he : Ex (w.alloc (.cells #[.slice B0 t0.length d0] 29)) W) => isSubgroup_any B0 t0 d0 (bitsK t1 t1.length) W (hR.ex (e0.trans he)) hgr hbl (hT.ex (e0.trans he)))
    cases hsb : subB t0 (bitsK t1 t1.length) with
    | false =>
      have HQ := Lib.hid (nk_state hc hsb)
      rw [hsb] at HSU
      obtain ⟨u, hu1⟩ : ∃ u, bitsK t1 t1.length = u := ⟨_, rfl⟩
      rw [hu1] at HBI HSU
      clear hc hg hb hgr hr hbl hu1 hR hX hs hu hT hsb
      go_enter Tryd.func28, Tryd.ntmps28
      go_wp2_with fail
      generalize (w.alloc (.cells #[.slice B0 t0.length d0] 29)) = W0 at *
      refine HC.out.mono ?_
      rintro e W1 ⟨rfl, he1⟩
      have HE01 := Lib.hid he1
      have HE1 := Lib.hid (e0.trans he1)
      have HB1 := Lib.hid (b0.ex he1)
      have c0 := HB1.out.cell 0
      have HIE1 := Lib.hid (HIE.out W1 he1)
      clear b0 e0 he1 HIE
      go_wp2_with fail
      refine HIE1.out.mono ?_
      rintro e W2 ⟨rfl, he2⟩
      have HE2 := Lib.hid (HE1.out.trans he2)
      have c2 := (HB1.out.ex he2).cell 0
      have HBI2 := Lib.hid (HBI.out W2 (HE01.out.trans he2))
      have HSU2 := Lib.hid (HSU.out W2 (HE01.out.trans he2))
      clear he2 c0 HBI HSU
      go_wp2_with fail
      refine HBI2.out.mono ?_
      rintro e w' ⟨rfl, rfl⟩
      clear HBI2
      go_wp2_with fail
      refine HSU2.out.mono ?_
      rintro e W3 ⟨rfl, he3⟩
      have HE3 := Lib.hid (HE2.out.trans he3)
      clear he3
      go_wp2_with fail
      go_ret2
      exact ⟨by rw [HQ.out.1, HQ.out.2]; rfl, HE3.out⟩
    | true =>
      have HQ := Lib.hid (nk_yes hc hsb)
      have HNO := Lib.hid (fun W (he : Ex (w.alloc (.cells #[.slice B0 t0.length d0] 29)) W) => isNormalSubgroup_any B0 t0 d0 (bitsK t1 t1.length) W (hR.ex (e0.trans he)) hgr hbl (hT.ex (e0.trans he)) hsb)
      rw [hsb] at HSU
      obtain ⟨u, hu1⟩ : ∃ u, bitsK t1 t1.length = u := ⟨_, rfl⟩
      rw [hu1] at HBI HSU HNO HQ
      obtain ⟨q, hq⟩ : ∃ q, norB t0 u = q := ⟨_, rfl⟩
      rw [hq] at HQ HNO
      clear hc hg hb hgr hr hbl hu1 hR hX hs hu hT hsb hq
      go_enter Tryd.func28, Tryd.ntmps28
      go_wp2_with fail
      generalize (w.alloc (.cells #[.slice B0 t0.length d0] 29)) = W0 at *
      refine HC.out.mono ?_
      rintro e W1 ⟨rfl, he1⟩
      have HE01 := Lib.hid he1
      have HE1 := Lib.hid (e0.trans he1)
      have HB1 := Lib.hid (b0.ex he1)
      have c0 := HB1.out.cell 0
      have HIE1 := Lib.hid (HIE.out W1 he1)
      clear b0 e0 he1 HIE
      go_wp2_with fail
      refine HIE1.out.mono ?_
      rintro e W2 ⟨rfl, he2⟩
      have HE02 := Lib.hid (HE01.out.trans he2)
      have HE2 := Lib.hid (HE1.out.trans he2)
      have HB2 := Lib.hid (HB1.out.ex he2)
      have c2 := HB2.out.cell 0
      have HBI2 := Lib.hid (HBI.out W2 HE02.out)
      have HSU2 := Lib.hid (HSU.out W2 HE02.out)
      clear he2 c0 HBI HSU HE01 HB1
      go_wp2_with fail
      refine HBI2.out.mono ?_
      rintro e w' ⟨rfl, rfl⟩
      clear HBI2
      go_wp2_with fail
      refine HSU2.out.mono ?_
      rintro e W3 ⟨rfl, he3⟩
      have HE3 := Lib.hid (HE2.out.trans he3)
      have c3 := (HB2.out.ex he3).cell 0
      have HNO3 := Lib.hid (HNO.out W3 (HE02.out.trans he3))
      clear he3 c2 HNO HSU2
      go_wp2_with fail
      refine HNO3.out.mono ?_
      rintro e W4 ⟨rfl, he4⟩
      have HE4 := Lib.hid (HE3.out.trans he4)
      clear he4
      go_wp2_with fail
      go_ret2
      exact ⟨by rw [HQ.out.1, HQ.out.2]; rfl, HE4.out⟩

end Go.Proofs.YtmmgmbgnlcfabaaDoor
