/- Chapter 7: the code of a group, a subgroup and elements, both sides. -/
import Derived.Test.YtalejhbdbclfaaaDoorNk
import Derived.Test.YtalejhbdbclfaaaDoorVal
namespace Go.Proofs.YtalejhbdbclfaaaDoor
open Go.RowKit Go.Shelf

attribute [local go_sem] Oper.semAt_some

/-- The code of a group, a subgroup of it, and elements. -/
noncomputable def sgC (t : List (List Int)) (xs es : List Int) : Int :=
  if grpB t = true then (if setB t.length xs = true ∧ belowB (t.length : Int) es = true then (if subB t (bitsK xs xs.length) = true then 0 else 5) else 2) else 1
section
variable {t : List (List Int)} {xs es : List Int}
theorem sgC_no (h : grpB t = false) : sgC t xs es = 1 := by simp [sgC, h]
theorem sgC_set (h : grpB t = true) (h2 : setB t.length xs = false) : sgC t xs es = 2 := by simp [sgC, h, h2]
theorem sgC_el (h : grpB t = true) (h2 : belowB (t.length : Int) es = false) : sgC t xs es = 2 := by simp [sgC, h, h2]
theorem sgC_st (h : grpB t = true) (h2 : setB t.length xs = true) (h3 : belowB (t.length : Int) es = true) (h4 : subB t (bitsK xs xs.length) = false) : sgC t xs es = 5 := by simp [sgC, h, h2, h3, h4]
theorem sgC_yes (h : grpB t = true) (h2 : setB t.length xs = true) (h3 : belowB (t.length : Int) es = true) (h4 : subB t (bitsK xs xs.length) = true) : sgC t xs es = 0 := by simp [sgC, h, h2, h3, h4]
theorem sgC_zero (h : sgC t xs es = 0) : IsGrp t ∧ setB t.length xs = true ∧ belowB (t.length : Int) es = true ∧ subB t (bitsK xs xs.length) = true := by
  unfold sgC at h
  split at h
  · rename_i h1
    split at h
    · rename_i h2
      split at h
      · rename_i h3
        exact ⟨grpB_iff.1 h1, h2.1, h2.2, h3⟩
      · cases h
    · cases h
  · cases h
theorem below_nil (m : Int) : belowB m [] = true := rfl
theorem sgC_nil : sgC t xs [] = if setC t xs = 0 then (if subB t (bitsK xs xs.length) = true then 0 else 5) else setC t xs := by
  unfold sgC setC
  cases grpB t <;> cases setB t.length xs <;> simp [below_nil]
end

set_option maxRecDepth 100000 in
set_option maxHeartbeats 2000000 in
theorem subgroupCode_any (A L E : Option Addr) (t : List (List Int)) (xs es : List Int) (c c' c'' : Nat) (w : World) (hR : RwsW w A t) (hX : IntsW w L xs) (hY : IntsW w E es) (hs : SmallT t) (hu : xs.length ≤ 1048576) (hv : es.length ≤ 1048576) (hT : TabL w) :
    Calls Tryd.prog 65 #[.agg #[.slice A t.length c], .slice L xs.length c', .slice E es.length c''] w fun e w' => e = .returned (.int .i64 (sgC t xs es)) ∧ Ex w w' := by
  have e0 : Ex w (w.alloc (.cells #[.slice A t.length c] 27)) := (Ex.refl w).alloc _
  have b0 : Has (w.alloc (.cells #[.slice A t.length c] 27)) (w.heap.size) 27 #[.slice A t.length c] := (Has.newAt (w := w) (e := 27) (cs := #[.slice A t.length c]) (k := w.heap.size) (by simp))
  have HC := Lib.hid (implIsGroup_ex A t c _ (hR.ex e0) hs)
  cases hg : grpB t with
  | false =>
    rw [hg] at HC
    have HQ := Lib.hid (sgC_no (xs := xs) (es := es) hg)
    clear hg hR hX hY hT
    go_enter Tryd.func65, Tryd.ntmps65
    go_wp2_with fail
    generalize (w.alloc (.cells #[.slice A t.length c] 27)) = W0 at *
    refine HC.out.mono ?_
    rintro e W1 ⟨rfl, he1⟩
    have HE1 := Lib.hid (e0.trans he1)
    clear b0 e0 he1
    go_wp2_with fail
    go_ret
    exact ⟨by rw [HQ.out]; rfl, HE1.out⟩
  | true =>
    rw [hg] at HC
    have hgr := grpB_iff.1 hg
    have hn8 := hgr.n8
    have HIE := Lib.hid (fun W (he : Ex (w.alloc (.cells #[.slice A t.length c] 27)) W) => isElementSet_any A L xs t.length c c' W (hX.ex (e0.trans he)) hn8 hu)
    cases hb : setB t.length xs with
    | false =>
      rw [hb] at HIE
      have HQ := Lib.hid (sgC_set (es := es) hg hb)
      clear hg hb hgr hR hX hY hT
      go_enter Tryd.func65, Tryd.ntmps65
      go_wp2_with fail
      generalize (w.alloc (.cells #[.slice A t.length c] 27)) = W0 at *
      refine HC.out.mono ?_
      rintro e W1 ⟨rfl, he1⟩
      have HE1 := Lib.hid (e0.trans he1)
      have c0 := (b0.ex he1).cell 0
      have HIE1 := Lib.hid (HIE.out W1 he1)
      clear b0 e0 he1 HIE
      go_wp2_with fail
      refine HIE1.out.mono ?_
      rintro e W2 ⟨rfl, he2⟩
      have HE2 := Lib.hid (HE1.out.trans he2)
      clear he2 c0
      go_wp2_with fail
      go_ret
      exact ⟨by rw [HQ.out]; rfl, HE2.out⟩
    | true =>
      rw [hb] at HIE
      have HEL := Lib.hid (fun W (he : Ex (w.alloc (.cells #[.slice A t.length c] 27)) W) => isElementList_e A E t.length c c'' es W (hY.ex (e0.trans he)) hn8 hv)
      cases hbl : belowB (t.length : Int) es with
      | false =>
        rw [hbl] at HEL
        have HQ := Lib.hid (sgC_el (xs := xs) hg hbl)
        clear hg hb hbl hgr hR hX hY hT
        go_enter Tryd.func65, Tryd.ntmps65
        go_wp2_with fail
        generalize (w.alloc (.cells #[.slice A t.length c] 27)) = W0 at *
        refine HC.out.mono ?_
        rintro e W1 ⟨rfl, he1⟩
        have HE01 := Lib.hid he1
        have HE1 := Lib.hid (e0.trans he1)
        have HB1 := Lib.hid (b0.ex he1)
        have c0 := HB1.out.cell 0
        have HIE1 := Lib.hid (HIE.out W1 he1)
        clear b0 e0 he1 HIE
        go_wp2_with fail
        refine HIE1.out.mono ?_
        rintro e W2 ⟨rfl, he2⟩
        have HE2 := Lib.hid (HE1.out.trans he2)
        have HEL2 := Lib.hid (HEL.out W2 (HE01.out.trans he2))
        have c2 := (HB1.out.ex he2).cell 0
        clear he2 c0 HEL
        go_wp2_with fail
        refine HEL2.out.mono ?_
        rintro e W3 ⟨rfl, he3⟩
        have HE3 := Lib.hid (HE2.out.trans he3)
        clear he3 c2
        go_wp2_with fail
        go_ret
        exact ⟨by rw [HQ.out]; rfl, HE3.out⟩
      | true =>
        rw [hbl] at HEL
        have hr := (setB_true.1 hb).1
        have hbk := bitsK_lt hr xs.length (Nat.le_refl _)
        have HBI := Lib.hid (fun W (he : Ex (w.alloc (.cells #[.slice A t.length c] 27)) W) => setOf_any L xs c' t.length W (hX.ex (e0.trans he)) hu hn8 hr)
        have HSU := Lib.hid (fun W (he : Ex (w.alloc (.cells #[.slice A t.length c] 27)) W) => isSubgroup_any A t c (bitsK xs xs.length) W (hR.ex (e0.trans he)) hgr hbk (hT.ex (e0.trans he)))
        have HQ : Hid (sgC t xs es = if subB t (bitsK xs xs.length) = true then 0 else 5) := Lib.hid (by simp [sgC, hg, hb, hbl])
        obtain ⟨u, hu1⟩ : ∃ u, bitsK xs xs.length = u := ⟨_, rfl⟩
        rw [hu1] at HBI HSU HQ
        obtain ⟨q, hq⟩ : ∃ q, subB t u = q := ⟨_, rfl⟩
        rw [hq] at HSU HQ
        clear hg hb hbl hgr hr hbk hu1 hq hR hX hY hT
        cases q <;>
        · go_enter Tryd.func65, Tryd.ntmps65
          go_wp2_with fail
          generalize (w.alloc (.cells #[.slice A t.length c] 27)) = W0 at *
          refine HC.out.mono ?_
          rintro e W1 ⟨rfl, he1⟩
          have HE01 := Lib.hid he1
          have HE1 := Lib.hid (e0.trans he1)
          have HB1 := Lib.hid (b0.ex he1)
          have c0 := HB1.out.cell 0
          have HIE1 := Lib.hid (HIE.out W1 he1)
          clear b0 e0 he1 HIE
          go_wp2_with fail
          refine HIE1.out.mono ?_
          rintro e W2 ⟨rfl, he2⟩
          have HE02 := Lib.hid (HE01.out.trans he2)
          have HE2 := Lib.hid (HE1.out.trans he2)
          have HEL2 := Lib.hid (HEL.out W2 HE02.out)
          have HB2 := Lib.hid (HB1.out.ex he2)
          have c2 := HB2.out.cell 0
          clear he2 c0 HEL HE01 HB1
          go_wp2_with fail
          refine HEL2.out.mono ?_
          rintro e W3 ⟨rfl, he3⟩
          have HE03 := Lib.hid (HE02.out.trans he3)
          have HE3 := Lib.hid (HE2.out.trans he3)
          have c3 := (HB2.out.ex he3).cell 0
          have HB3 := Lib.hid (HB2.out.ex he3)
          have HBI2 := Lib.hid (HBI.out W3.drew HE03.out.drew)
          have HSU2 := Lib.hid (HSU.out W3.drew HE03.out.drew)
          clear he3 c2 HBI HSU
          go_wp2_with fail
          refine Late.region (C := fun w' => w'.cell? ⟨w.heap.size, 0, none⟩ = some (.slice A t.length c)) (fun _ => true) (by kernel_rfl) c3 (fun hC => ?_)
          refine Late.take (i := 0) (oi := _) (v := ?_) rfl (by kernel_rfl) (by kernel_rfl) (by kernel_rfl) (by kernel_rfl) (fun _ _ _ h => h) (Or.inl ⟨by rfl, ?_⟩) hC ?_
          rotate_left
          · (intro w hSw; (try dsimp only at hSw); go_simp; first | done | with_reducible rfl)
          simp only [Act.put]
          refine Late.take (i := 1) (oi := _) (v := ?_) rfl (by kernel_rfl) (by kernel_rfl) (by kernel_rfl) (by kernel_rfl) (fun _ _ _ h => h) (Or.inl ⟨by rfl, ?_⟩) hC ?_
          rotate_left
          · (intro w hSw; (try dsimp only at hSw); go_simp; first | done | with_reducible rfl)
          simp only [Act.put]
          refine Late.one (i := 2) (o := _) (by kernel_rfl) rfl (fun K' hK' => ?_)
          go_simp
          refine HBI2.out.mono ?_
          rintro e w' ⟨rfl, rfl⟩
          refine hK'.out _ _ (fun _ => hC) (fun _ => ?_)
          clear hK' K' HBI2
          try simp only [Act.put, List.setIfInBounds_toArray, List.set_cons_zero, List.set_cons_succ]
          refine Late.one (i := 3) (o := _) (by kernel_rfl) rfl (fun K' hK' => ?_)
          go_simp
          refine HSU2.out.mono ?_
          rintro e W4 ⟨rfl, he4⟩
          have hC4 := (HB3.out.ex ((Ex.refl W3).drew.trans he4)).cell 0
          have HE4 := Lib.hid (HE3.out.drew.trans he4)
          refine hK'.out _ _ (fun _ => hC4) (fun _ => ?_)
          clear hK' K' he4 hC c3
          try simp only [Act.put, List.setIfInBounds_toArray, List.set_cons_zero, List.set_cons_succ]
          refine Late.take (i := 4) (oi := _) (v := ?_) rfl (by kernel_rfl) (by kernel_rfl) (by kernel_rfl) (by kernel_rfl) (fun _ _ _ h => h) (Or.inl ⟨by rfl, ?_⟩) hC4 ?_
          rotate_left
          · (intro w hSw; (try dsimp only at hSw); go_simp; first | done | with_reducible rfl)
          simp only [Act.put]
          refine Late.done (by kernel_rfl) ?_ _
          go_wp2_with fail
          go_ret
          exact ⟨by rw [HQ.out]; rfl, HE4.out⟩

set_option maxRecDepth 100000 in
set_option maxHeartbeats 2000000 in
theorem l07Code_any (A L : Option Addr) (t : List (List Int)) (xs : List Int) (c c' : Nat) (w : World) (hR : RwsW w A t) (hX : IntsW w L xs) (hs : SmallT t) (hu : xs.length ≤ 1048576) :
    Calls Tryd.prog 62 #[.agg #[.slice A t.length c], .slice L xs.length c'] w fun e w' => e = .returned (.int .i64 (sgC t xs [])) ∧ Ex w w' := by
  have e0 : Ex w (w.alloc (.cells #[.slice A t.length c] 27)) := (Ex.refl w).alloc _
  have b0 : Has (w.alloc (.cells #[.slice A t.length c] 27)) (w.heap.size) 27 #[.slice A t.length c] := (Has.newAt (w := w) (e := 27) (cs := #[.slice A t.length c]) (k := w.heap.size) (by simp))
  have HC := Lib.hid (l01Set_any A L t xs c c' _ (hR.ex e0) (hX.ex e0) hs hu)
  by_cases hc : setC t xs = 0
  · obtain ⟨hg, hb⟩ : grpB t = true ∧ setB t.length xs = true := by
      rcases setC_cases t xs with ⟨_, h⟩ | ⟨_, _, h⟩ | h
      · rw [h] at hc; cases hc
      · rw [h] at hc; cases hc
      · exact ⟨h.1, h.2.1⟩
    rw [hc] at HC
    have hgr := grpB_iff.1 hg
    have HSU := Lib.hid (fun W (he : Ex (w.alloc (.cells #[.slice A t.length c] 27)) W) => l01Subgroup_any A L t xs c c' W (hR.ex (e0.trans he)) (hX.ex (e0.trans he)) hgr hu hb)
    have HQ : Hid (sgC t xs [] = if subB t (bitsK xs xs.length) = true then 0 else 5) := Lib.hid (by rw [sgC_nil, if_pos hc])
    obtain ⟨q, hq⟩ : ∃ q, subB t (bitsK xs xs.length) = q := ⟨_, rfl⟩
    rw [hq] at HSU HQ
    clear hc hg hb hgr hR hX hs hu hq
    cases q <;>
    · go_enter Tryd.func62, Tryd.ntmps62
      go_wp2_with fail
      generalize (w.alloc (.cells #[.slice A t.length c] 27)) = W0 at *
      refine HC.out.mono ?_
      rintro e W1 ⟨rfl, he1⟩
      have HE1 := Lib.hid (e0.trans he1)
      have c0 := (b0.ex he1).cell 0
      have HSU1 := Lib.hid (HSU.out W1 he1)
      clear b0 e0 he1 HSU
      go_wp2_with fail
      refine HSU1.out.mono ?_
      rintro e W2 ⟨rfl, he2⟩
      have HE2 := Lib.hid (HE1.out.trans he2)
      clear he2
      go_wp2_with fail
      go_ret
      exact ⟨by rw [HQ.out]; rfl, HE2.out⟩
  · have HQ : Hid (sgC t xs [] = setC t xs) := Lib.hid (by rw [sgC_nil, if_neg hc])
    obtain ⟨z, hz⟩ : ∃ z, setC t xs = z := ⟨_, rfl⟩
    rw [hz] at HC hc HQ
    have hzb : (z != 0) = true := by simpa using hc
    clear hR hX hs hu hc hz
    go_enter Tryd.func62, Tryd.ntmps62
    go_wp2_with fail
    generalize (w.alloc (.cells #[.slice A t.length c] 27)) = W0 at *
    refine HC.out.mono ?_
    rintro e W1 ⟨rfl, he1⟩
    have HE1 := Lib.hid (e0.trans he1)
    clear b0 e0 he1
    go_wp2_with fail
    go_ret
    exact ⟨by rw [HQ.out]; rfl, HE1.out⟩

end Go.Proofs.YtalejhbdbclfaaaDoor
