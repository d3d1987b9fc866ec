/- ClassesOf: the specification's walk. -/
import Derived.Test.YtenenlpfpkdplaaDoorYe
namespace Go.Proofs.YtenenlpfpkdplaaDoor
open Go.RowKit Go.Shelf

attribute [local go_sem] Oper.semAt_some

set_option maxRecDepth 100000 in
set_option maxHeartbeats 8000000 in
theorem specClassesOf_ex (t0 : List (List Int)) : ∀ (B0 : Option Addr) (d0 : Nat) (W : World), RwsW W B0 t0 → SmallT t0 →
    Calls Tryd.prog 54 #[.agg #[.slice B0 t0.length d0]] W fun e W' => ∃ (C0 : Option Addr) (e0 : Nat), e = .returned (.tuple #[.slice C0 (yClassesOf0 t0).length e0, .int .i64 (qClassesOf1 t0)]) ∧ Ex W W' ∧ OwnT W' W.heap.size W'.heap.size C0 (yClassesOf0 t0) := by
  intro B0 d0 w hR hs
  have e0 : Ex w (w.alloc (.cells #[.slice B0 t0.length d0] 35)) := (Ex.refl w).alloc _
  have b0 : Has (w.alloc (.cells #[.slice B0 t0.length d0] 35)) (w.heap.size) 35 #[.slice B0 t0.length d0] := (Has.newAt (w := w) (e := 35) (cs := #[.slice B0 t0.length d0]) (k := w.heap.size) (by simp))
  have HC := Lib.hid (l01Is_ex B0 t0 d0 _ (hR.ex e0) hs)
  cases hg : grpB t0 with
  | false =>
    rw [hg] at HC
    have HQ := Lib.hid (cc_no hg)
    clear hg hR hs
    go_enter Tryd.func54, Tryd.ntmps54
    go_wp2_with fail
    generalize (w.alloc (.cells #[.slice B0 t0.length d0] 35)) = W0 at *
    refine HC.out.mono ?_
    rintro e W1 ⟨rfl, he1⟩
    have HE1 := Lib.hid (e0.trans he1)
    clear b0 e0 he1
    go_wp2_with fail
    go_ret2
    exact ⟨none, 0, by rw [HQ.out.1, HQ.out.2]; rfl, HE1.out, by rw [HQ.out.1]; exact OwnT.nil _ _ _ (Nat.le_refl _)⟩
  | true =>
    rw [hg] at HC
    have HQ := Lib.hid (cc_yes hg)
    have hgr := grpB_iff.1 hg
    have hn8 := hgr.n8
    have HB := Lib.hid (fun k (hk : k ≤ t0.length) => ccF_b hgr (List.range k) fun a ha => Nat.lt_of_lt_of_le (List.mem_range.1 ha) hk)
    have HRW := Lib.hid hR
    have HGR := Lib.hid hgr
    obtain ⟨iS, gi, gi0, gi1, gi2⟩ := info_parts infoS
    clear hg hgr hR hs
    go_enter Tryd.func54, Tryd.ntmps54
    go_wp2_with fail
    generalize (w.alloc (.cells #[.slice B0 t0.length d0] 35)) = W0 at *
    refine HC.out.mono ?_
    rintro e W1 ⟨rfl, he1⟩
    have c0 := (b0.ex he1).cell 0
    have e1 := e0.trans he1
    have hls := e1.size
    have HX0 := Lib.hid (e1.alloc (.cells #[] 25))
    have HB0 := Lib.hid ((b0.ex he1).alloc (.cells #[] 25))
    have HG0 := Lib.hid (GrowM.empty (lo := w.heap.size) W1 hls)
    clear b0 e0 he1 e1 hls c0
    go_wp2_with fail
    generalize W1.alloc (.cells #[] 25) = W3 at *
    go_loopw [4, 5, 6] (fun v m i wr => ∃ k : Nat, k ≤ t0.length ∧ i = .int .i64 (k : Int) ∧ m = .int .i64 ((ccF t0 (List.range k)).1 : Int) ∧ Hid (Ex w wr) ∧ Hid (Has wr w.heap.size 35 #[.slice B0 t0.length d0]) ∧ Hid (GrowM wr w.heap.size v ((ccF t0 (List.range k)).2.map elI))) (fun _ _ i _ => t0.length - (intOf i).toNat)
    case atStart => exact ⟨0, Nat.zero_le _, rfl, rfl, HX0, HB0, HG0⟩
    case round =>
      clear HX0 HB0 HG0
      obtain ⟨k, hk, rfl, rfl, HXr, HBr, HGr⟩ := hrel
      obtain ⟨wo, rfl⟩ : ∃ x : World, x = wr := ⟨_, rfl⟩
      have c0 := HBr.out.cell 0
      go_wp2_with fail
      refine (l01N_ex B0 t0.length d0 wo (by omega)).mono ?_
      rintro e wn ⟨rfl, hen⟩
      have HXn := Lib.hid (HXr.out.trans hen)
      have HBn := Lib.hid (HBr.out.ex hen)
      have HGn := Lib.hid (HGr.out.ex hen)
      clear c0 hen HXr HBr HGr
      by_cases hlt : k < t0.length
      · have hcb := HB.out k hk
        have HKS : Hid (ccF t0 (List.range (k + 1)) = ccStep t0 (ccF t0 (List.range k)) k) := Lib.hid (by rw [List.range_succ, ccF_snoc])
        obtain ⟨S, hS⟩ : ∃ S, ccF t0 (List.range k) = S := ⟨_, rfl⟩
        rw [hS] at hcb HKS HGn ⊢
        clear hS
        have hm256 := lt256 hn8 hcb.met
        have hl8 := hcb.len
        rw [List.length_range] at hl8
        obtain ⟨m1, L1⟩ := S
        dsimp only at hm256 hl8 HGn ⊢
        obtain ⟨Rs, hRs⟩ : ∃ Rs, L1.map elI = Rs := ⟨_, rfl⟩
        have hRl : Rs.length ≤ 8 := by rw [← hRs, List.length_map]; omega
        rw [hRs] at HGn
        obtain ⟨A, ca, rfl, -⟩ := HGn.out.own
        have hbt := bit_test m1 hm256 k (by omega)
        clear hcb
        cases hq : m1.testBit k with
        | true =>
          rw [hq] at hbt
          have HST := Lib.hid (ccStep_old hq : ccStep t0 (m1, L1) k = (m1, L1))
          clear hq
          go_wp2_with fail
          go_roundw
          case rel => exact ⟨k + 1, by omega, by go_num, by rw [HKS.out, HST.out], HXn, HBn, by rw [HKS.out, HST.out]; exact Lib.hid (hRs.symm ▸ HGn.out)⟩
          case measure => simp [intOf]; omega
        | false =>
          rw [hq] at hbt
          have HST := Lib.hid (ccStep_new hq : ccStep t0 (m1, L1) k = (m1 ||| cls t0 k, L1 ++ [cls t0 k]))
          have hz256 := lt256 hn8 (cls_lt HGR.out hlt)
          have hzp := cls_pos HGR.out hlt
          have hcz : rowF (con t0) k 0 (List.range t0.length) = cls t0 k := rfl
          obtain ⟨z, hz⟩ : ∃ z, cls t0 k = z := ⟨_, rfl⟩
          rw [hz] at HST hz256 hzp hcz
          have hbo := bits_orI m1 hm256 z hz256
          have hzl := elI_le z
          have HCZ := Lib.hid hcz
          clear hq hz hcz
          go_wp2_with fail
          go_loopw [7, 8] (fun m i wr => ∃ j : Nat, j ≤ t0.length ∧ i = .int .i64 (j : Int) ∧ m = .int .i64 (rowF (con t0) k 0 (List.range j) : Int) ∧ Hid (Ex w wr) ∧ Hid (Has wr w.heap.size 35 #[.slice B0 t0.length d0]) ∧ Hid (GrowM wr w.heap.size (.slice A Rs.length ca) Rs)) (fun _ i _ => t0.length - (intOf i).toNat)
          case atStart => exact ⟨0, Nat.zero_le _, rfl, rfl, HXn, HBn, HGn⟩
          case round =>
            clear HXn HBn HGn
            obtain ⟨j, hj, rfl, rfl, HXj, HBj, HGj⟩ := hrel
            have ci := HBj.out.cell 0
            go_wp2_with fail
            refine (l01N_ex B0 t0.length d0 wr (by omega)).mono ?_
            rintro e wn2 ⟨rfl, hen⟩
            have HXm := Lib.hid (HXj.out.trans hen)
            have HBm := Lib.hid (HBj.out.ex hen)
            have HGm := Lib.hid (HGj.out.ex hen)
            clear ci hen HXj HBj HGj
            by_cases hjl : j < t0.length
            · have HCO := Lib.hid (l01Conjugate_any B0 t0 d0 k j wn2 (HRW.out.ex HXm.out) HGR.out hlt hjl)
              have hx8 : con t0 k j < 8 := by have := con_lt HGR.out hlt hjl; omega
              have HRN : Hid (rowF (con t0) k 0 (List.range (j + 1)) = rowF (con t0) k 0 (List.range j) ||| 2 ^ con t0 k j) := Lib.hid (by rw [List.range_succ]; exact rowF_snoc _ _ _ _)
              have hR256 := lt256 hn8 (rowF_lt (f := con t0) (a := k) (m := 0) (fun b hb => con_lt HGR.out hlt (by have := List.mem_range.1 hb; omega)) (Nat.two_pow_pos _) : rowF (con t0) k 0 (List.range j) < 2 ^ t0.length)
              obtain ⟨x, hx⟩ : ∃ x, con t0 k j = x := ⟨_, rfl⟩
              obtain ⟨R, hR⟩ : ∃ R, rowF (con t0) k 0 (List.range j) = R := ⟨_, rfl⟩
              rw [hx] at HCO hx8
              rw [hx, hR] at HRN
              rw [hR] at hR256 ⊢
              have hbr := bits_or64 R hR256 x hx8
              have cm := HBm.out.cell 0
              clear hx hR hbo hbt
              go_wp2_with fail
              refine HCO.out.mono ?_
              rintro e wc ⟨rfl, hec⟩
              have HXc := Lib.hid (HXm.out.trans hec)
              have HBc := Lib.hid (HBm.out.ex hec)
              have HGc := Lib.hid (HGm.out.ex hec)
              clear cm hec HXm HBm HGm HCO
              go_wp2_with fail
              go_roundw
              case rel => exact ⟨j + 1, by omega, by go_num, by rw [HRN.out], HXc, HBc, HGc⟩
              case measure => simp [intOf]; omega
            · obtain rfl : j = t0.length := by omega
              rw [HCZ.out]
              have HLI := Lib.hid (l01List_g z wn2 hz256)
              obtain ⟨GG, CC, ho0, hrm0⟩ := HGm.out
              have HO0 := Lib.hid ho0
              have HR0 := Lib.hid hrm0
              clear ho0 hrm0 HGm
              go_wp2_with fail
              refine HLI.out.mono ?_
              rintro e wl ⟨A', c', rfl, hel, hgi⟩
              obtain ⟨g, cg, cs, hv, hlo, hnc, hhas, hget⟩ := row_block hgi.1 hzp
              obtain ⟨rfl, rfl⟩ : A' = some ⟨g, 0, none⟩ ∧ c' = cg := by simpa using hv
              have HHAS := Lib.hid hhas
              have HGET := Lib.hid (fun j (hj : j < (elI z).length) => (by rw [hget j hj]; simp [nth, hj] : cs[j]? = some (.int .i64 (nth (elI z) j))))
              have HGX := Lib.hid (fun i (hi : i < Rs.length) => (by have := HR0.out.lt hi; omega : GG i ≠ g))
              have HXl := Lib.hid (HXm.out.trans hel)
              have HBl := Lib.hid (HBm.out.ex hel)
              have HOl := Lib.hid (own_below HO0.out hel)
              have HRl := Lib.hid (HR0.out.ex hel)
              have hlw : w.heap.size ≤ g := by have := HXm.out.size; omega
              clear hhas hget hgi hel hv HXm HBm HLI HO0 HR0 hbo hbt
              go_wp2_with (at_builtin; refine wpList_append_own _ rfl _ _ 22 rfl w.heap.size 25 iS (.slice none 0 0) 1 24 Tryd.underlying22 gi gi0 gi1 gi2 rfl (by decide) _ _ _ rfl (HOl.out.alloc _) ⟨wl.heap.size, 0, none⟩ 1 1 [.slice (some ⟨g, 0, none⟩) (elI z).length c'] rfl rfl (cell_one_new _ _ _) (by simp [Value.oneCell']) (by unfold maxLen; omega) (by omega) (by have := HXl.out.size; simp; omega) ?_; intro v' w3 hown3 hgrow3 _; have HX3 := Lib.hid (Ex.grewR (HXl.out.alloc _) (HOl.out.alloc _) (Nat.le_refl _) hgrow3); have HB3 := Lib.hid (Has.grewR (HBl.out.alloc _) (by decide) (HOl.out.alloc _) hgrow3); have HG3 := Lib.hid (GrowM.push (r := elI z) (HOl.out.alloc _) (HRl.out.ex (Ex.new wl _)) hlw (HHAS.out.alloc _) HGET.out HGX.out hgrow3 hown3); clear hown3 hgrow3)
              go_roundw
              case rel => exact ⟨k + 1, by omega, by go_num, by rw [HKS.out, HST.out], HX3, HB3, by rw [HKS.out, HST.out]; show Hid (GrowM _ _ _ ((L1 ++ [z]).map elI)); rw [show (L1 ++ [z]).map elI = Rs ++ [elI z] by simp [hRs]]; exact HG3⟩
              case measure => simp [intOf]; omega
      · obtain rfl : k = t0.length := by omega
        obtain ⟨Rs, hRs⟩ : ∃ Rs, (ccF t0 (List.range t0.length)).2.map elI = Rs := ⟨_, rfl⟩
        rw [hRs] at HGn HQ
        obtain ⟨A, ca, rfl, hO⟩ := HGn.out.own
        have HO := Lib.hid hO
        clear hO
        go_wp2_with fail
        go_ret2
        exact ⟨A, ca, by rw [HQ.out.1, HQ.out.2]; rfl, HXn.out, by rw [HQ.out.1]; exact HO.out⟩

end Go.Proofs.YtenenlpfpkdplaaDoor
