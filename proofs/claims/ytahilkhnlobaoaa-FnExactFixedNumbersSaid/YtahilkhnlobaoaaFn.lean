/- FixedNumbers. -/
import Derived.Deep.RegionHeld3
import Derived.IntWalk
import Derived.Test.YtahilkhnlobaoaaFx
import Derived.Test.YtahilkhnlobaoaaNm
namespace Go.Proofs.Ytahilkhnlobaoaa
open Go.RowKit

/-- The result: none where there is no module. -/
noncomputable def fixR (t : List (List Int)) (m : Int) (us : List Int) : List Int := if gmB t m us = true then mults (m.toNat / dvs m.toNat us us.length) m.toNat else []
theorem fixR_no {t : List (List Int)} {m : Int} {us : List Int} (h : gmB t m us = false) : fixR t m us = [] := by rw [fixR, h]; rfl
theorem fixR_yes {t : List (List Int)} {M : Nat} {us : List Int} (h : gmB t (M : Int) us = true) : fixR t (M : Int) us = mults (M / dvs M us us.length) M := by
  rw [fixR, if_pos h]
  simp

set_option maxRecDepth 100000 in
set_option maxHeartbeats 2000000 in
theorem specFixedNumbers_any (A L : Option Addr) (t : List (List Int)) (m : Int) (us : List Int) (c c' B B' : Nat) (w : World) (hR : Rws w B A t) (hX : Ints w B' L us) (hB : B ≤ w.heap.size) (hB' : B' ≤ w.heap.size)
    (hn : t.length ≤ 1048576) (hl : ∀ i, i < t.length → (row t i).length ≤ 1048576) (hx : us.length ≤ 1048576) :
    Calls Try.prog 62 #[.agg #[.slice A t.length c], .agg #[.int .i64 m, .slice L us.length c']] w fun e w' => ∃ A' n', e = .returned (.tuple #[.slice A' (fixR t m us).length n', .int .i64 (gmC t m us)]) ∧ Below w.heap.size w w' ∧ OwnI w' w.heap.size A' (fixR t m us) := by
  have hlaid := Laid3.mk_ w A L t.length c us.length c' m
  have hb0 := hlaid.below
  have hz0 := hb0.size
  have hcon := l02Code_any A L t m us c c' (w.heap.size + 1 + 1) B B' _ (hR.below hb0 hB) (hX.below hb0 hB') hlaid.k (by omega) (by omega) hn hl hx
  have HLD := Lib.hid hlaid
  have HX := Lib.hid hX
  clear hl hR hX hlaid
  cases hg : gmB t m us with
  | false =>
    rw [gmC_no hg] at hcon
    have HCON := Lib.hid hcon
    have HP := Lib.hid (fixR_no hg)
    have HC := Lib.hid (gmC_no hg)
    clear hcon hg
    go_enter Try.func62, Try.ntmps62
    go_wp2_with fail
    refine HCON.out.mono ?_
    rintro e W2 ⟨rfl, hb2⟩
    have hbw := hb0.trans (hb2.mono hz0)
    have hzw := hbw.size
    have hlt : w.heap.size < W2.heap.size := Nat.lt_of_lt_of_le HLD.out.g.lt hb2.size
    go_wp2_with fail
    go_ret2
    refine ⟨none, 0, by rw [HP.out, HC.out]; rfl, hbw, ?_⟩
    rw [HP.out]
    exact ⟨w.heap.size, 0, fun h => absurd h (by simp), Nat.le_refl _, hlt, fun j hj => absurd hj (by simp)⟩
  | true =>
    rw [gmC_yes hg] at hcon
    have HCON := Lib.hid hcon
    obtain ⟨hgr, hm2, hm12, hlen, hun, -⟩ := gmB_true hg
    have hn8 := hgr.n8
    obtain ⟨M, rfl⟩ : ∃ M : Nat, m = (M : Int) := ⟨m.toNat, by omega⟩
    have HP := Lib.hid (fixR_yes hg)
    have HC := Lib.hid (gmC_yes hg)
    have hus8 : us.length ≤ 8 := by omega
    have hpos : 0 < us.length := by rw [hlen]; exact hgr.n1
    have hX2 := HX.out
    rcases hX2 with hX2 | ⟨bx, ox, rfl, hbx, hcx⟩
    · subst hX2
      exact absurd hpos (by simp)
    have HCX := Lib.hid hcx
    have HUN := Lib.hid hun
    have hM2 : 0 < M := by omega
    have hM12 : M ≤ 12 := by omega
    have hdp := dvs_pos (us := us) hM2 us.length
    have hdl := dvs_le (us := us) hM2 us.length
    have hq : Int.tdiv (M : Int) (dvs M us us.length : Int) = ((M / dvs M us us.length : Nat) : Int) := (Int.ofNat_tdiv M (dvs M us us.length)).symm
    have hwq : IntKind.i64.wrap (Int.tdiv (M : Int) (dvs M us us.length : Int)) = ((M / dvs M us us.length : Nat) : Int) := by
      rw [IntWalk.i64_quo _ _ ⟨by omega, by omega, by omega⟩]
      simp
    have hqp : 0 < M / dvs M us us.length := Nat.div_pos hdl hdp
    have hql : M / dvs M us us.length ≤ 12 := Nat.le_trans (Nat.div_le_self _ _) hM12
    obtain ⟨D, hD⟩ : ∃ D, dvs M us us.length = D := ⟨_, rfl⟩
    have HD := Lib.hid hD
    rw [hD] at hdp hdl hq hwq hqp hql
    have hne : ¬ D = 0 := by omega
    obtain ⟨Q, hQ⟩ : ∃ Q, M / D = Q := ⟨_, rfl⟩
    have HQ := Lib.hid hQ
    have htd : Int.tdiv (M : Int) (D : Int) = (M : Int) / (D : Int) := by rw [hq]; simp
    have hwe : IntKind.i64.wrap ((M : Int) / (D : Int)) = (Q : Int) := by rw [← htd, hwq, hQ]
    rw [hQ] at hqp hql
    clear hq hwq htd hQ
    have hst := fun (W : World) (hc : ∀ k, k < us.length → W.cell? ⟨bx, ox + k, none⟩ = some (.int .i64 (nth us k))) (hb : bx < W.heap.size) => l02Step_any M bx ox c' us W hc hb HUN.out hM2 hM12 hus8
    rw [hD] at hst
    have HST := Lib.hid hst
    clear hcon hg hcx hlen hun hgr hm2 hm12 HX hpos hD hst
    go_enter Try.func62, Try.ntmps62
    go_wp2_with fail
    refine HCON.out.mono ?_
    rintro e W2 ⟨rfl, hb2⟩
    have hbw := hb0.trans (hb2.mono hz0)
    have hzw := hbw.size
    have ha2 := HLD.out.a.below hb2 HLD.out.a.lt
    have hS2 : ∀ W', Below W2.drew.heap.size W2.drew W' → W'.cell? ⟨w.heap.size + 1, 0, none⟩ = some (.int .i64 (M : Int)) ∧ W'.cell? ⟨w.heap.size + 1, 1, none⟩ = some (.slice (some ⟨bx, ox, none⟩) us.length c') := fun W' hb =>
      ⟨(Has.below (w := W2.drew) ha2 hb ha2.lt).cell 0, (Has.below (w := W2.drew) ha2 hb ha2.lt).cell 1⟩
    have HS := Lib.hid hS2
    have hc2 : ∀ k, k < us.length → W2.drew.cell? ⟨bx, ox + k, none⟩ = some (.int .i64 (nth us k)) := fun k hk => (hbw.cell (p := ⟨bx, ox + k, none⟩) (by show bx < _; omega)).trans (HCX.out k hk)
    have HC2 := Lib.hid hc2
    have hbxd : bx < W2.drew.heap.size := show bx < W2.heap.size by omega
    clear ha2 hc2 hb2 hS2
    go_wp2_with fail
    go_region_held3 (fun w' => w'.cell? ⟨w.heap.size + 1, 0, none⟩ = some (.int .i64 (M : Int)) ∧ w'.cell? ⟨w.heap.size + 1, 1, none⟩ = some (.slice (some ⟨bx, ox, none⟩) us.length c'))
      (first
        | exact HS.out _ (Below.refl _ _)
        | exact HS.out _ hb3
        | exact HS.out _ hb4)
      (first
        | (go_at_call 117; refine (HST.out W2.drew HC2.out hbxd).mono ?_; rintro e W3 ⟨rfl, hb3⟩)
        | (go_at_call 116; refine (l02Multiples_any Q M W3 hqp hql hM2 hM12).mono ?_; rintro e W4 ⟨A4, n4, rfl, hb4', hO4⟩; have hb4 := hb3.trans (hb4'.mono hb3.size)))
    have HO4 := Lib.hid hO4
    have hz3 := hb3.size
    clear hO4
    go_wp2_with fail
    go_ret2
    refine ⟨A4, n4, by rw [HP.out, HC.out, HD.out, HQ.out]; rfl, hbw.trans (((Below.refl _ W2).drew.trans hb4).mono hzw), ?_⟩
    rw [HP.out, HD.out, HQ.out]
    exact HO4.out.mono (Nat.le_trans hzw hz3)

set_option maxRecDepth 100000 in
set_option maxHeartbeats 2000000 in
theorem implFixedNumbers_any (A L : Option Addr) (t : List (List Int)) (m : Int) (us : List Int) (c c' B B' : Nat) (w : World) (hR : Rws w B A t) (hX : Ints w B' L us) (hB : B ≤ w.heap.size) (hB' : B' ≤ w.heap.size)
    (hn : t.length ≤ 1048576) (hl : ∀ i, i < t.length → (row t i).length ≤ 1048576) (hx : us.length ≤ 1048576) :
    Calls Try.prog 63 #[.agg #[.slice A t.length c], .agg #[.int .i64 m, .slice L us.length c']] w fun e w' => ∃ A' n', e = .returned (.tuple #[.slice A' (fixR t m us).length n', .int .i64 (gmC t m us)]) ∧ Below w.heap.size w w' ∧ OwnI w' w.heap.size A' (fixR t m us) := by
  have hlaid := Laid2.mk_ w A L t.length c us.length c' m
  have hb0 := hlaid.below
  have hz0 := hb0.size
  have hcon := isModule_any A L t m us c c' B B' _ (hR.below hb0 hB) (hX.below hb0 hB') (by omega) (by omega) hn hl hx
  have HLD := Lib.hid hlaid
  have HX := Lib.hid hX
  clear hl hR hX hlaid
  cases hg : gmB t m us with
  | false =>
    rw [hg] at hcon
    have HCON := Lib.hid hcon
    have HP := Lib.hid (fixR_no hg)
    have HC := Lib.hid (gmC_no hg)
    clear hcon hg
    go_enter Try.func63, Try.ntmps63
    go_wp2_with fail
    refine HCON.out.mono ?_
    rintro e W2 ⟨rfl, hb2⟩
    have hbw := hb0.trans (hb2.mono hz0)
    have hzw := hbw.size
    have hlt : w.heap.size < W2.heap.size := Nat.lt_of_lt_of_le HLD.out.g.lt hb2.size
    go_wp2_with fail
    go_ret2
    refine ⟨none, 0, by rw [HP.out, HC.out]; rfl, hbw, ?_⟩
    rw [HP.out]
    exact ⟨w.heap.size, 0, fun h => absurd h (by simp), Nat.le_refl _, hlt, fun j hj => absurd hj (by simp)⟩
  | true =>
    rw [hg] at hcon
    have HCON := Lib.hid hcon
    obtain ⟨hgr, hm2, hm12, hlen, hun, -⟩ := gmB_true hg
    have hn8 := hgr.n8
    obtain ⟨M, rfl⟩ : ∃ M : Nat, m = (M : Int) := ⟨m.toNat, by omega⟩
    have HP := Lib.hid (fixR_yes hg)
    have HC := Lib.hid (gmC_yes hg)
    have hus8 : us.length ≤ 8 := by omega
    have hpos : 0 < us.length := by rw [hlen]; exact hgr.n1
    have hX2 := HX.out
    rcases hX2 with hX2 | ⟨bx, ox, rfl, hbx, hcx⟩
    · subst hX2
      exact absurd hpos (by simp)
    have HCX := Lib.hid hcx
    have HUN := Lib.hid hun
    have hM2 : 0 < M := by omega
    have hM12 : M ≤ 12 := by omega
    have hdp := dvs_pos (us := us) hM2 us.length
    have hdl := dvs_le (us := us) hM2 us.length
    have hq : Int.tdiv (M : Int) (dvs M us us.length : Int) = ((M / dvs M us us.length : Nat) : Int) := (Int.ofNat_tdiv M (dvs M us us.length)).symm
    have hwq : IntKind.i64.wrap (Int.tdiv (M : Int) (dvs M us us.length : Int)) = ((M / dvs M us us.length : Nat) : Int) := by
      rw [IntWalk.i64_quo _ _ ⟨by omega, by omega, by omega⟩]
      simp
    have hqp : 0 < M / dvs M us us.length := Nat.div_pos hdl hdp
    have hql : M / dvs M us us.length ≤ 12 := Nat.le_trans (Nat.div_le_self _ _) hM12
    obtain ⟨D, hD⟩ : ∃ D, dvs M us us.length = D := ⟨_, rfl⟩
    have HD := Lib.hid hD
    rw [hD] at hdp hdl hq hwq hqp hql
    have hne : ¬ D = 0 := by omega
    obtain ⟨Q, hQ⟩ : ∃ Q, M / D = Q := ⟨_, rfl⟩
    have HQ := Lib.hid hQ
    have htd : Int.tdiv (M : Int) (D : Int) = (M : Int) / (D : Int) := by rw [hq]; simp
    have hwe : IntKind.i64.wrap ((M : Int) / (D : Int)) = (Q : Int) := by rw [← htd, hwq, hQ]
    rw [hQ] at hqp hql
    clear hq hwq htd hQ
    have hst := fun (W : World) (hc : ∀ k, k < us.length → W.cell? ⟨bx, ox + k, none⟩ = some (.int .i64 (nth us k))) (hb : bx < W.heap.size) => differenceDivisor_any M bx ox c' us W hc hb HUN.out hM2 hM12 hus8
    rw [hD] at hst
    have HST := Lib.hid hst
    clear hcon hg hcx hlen hun hgr hm2 hm12 HX hpos hD hst
    go_enter Try.func63, Try.ntmps63
    go_wp2_with fail
    refine HCON.out.mono ?_
    rintro e W2 ⟨rfl, hb2⟩
    have hbw := hb0.trans (hb2.mono hz0)
    have hzw := hbw.size
    have ha2 := HLD.out.a.below hb2 HLD.out.a.lt
    have hS2 : ∀ W', Below W2.drew.heap.size W2.drew W' → W'.cell? ⟨w.heap.size + 1, 0, none⟩ = some (.int .i64 (M : Int)) ∧ W'.cell? ⟨w.heap.size + 1, 1, none⟩ = some (.slice (some ⟨bx, ox, none⟩) us.length c') := fun W' hb =>
      ⟨(Has.below (w := W2.drew) ha2 hb ha2.lt).cell 0, (Has.below (w := W2.drew) ha2 hb ha2.lt).cell 1⟩
    have HS := Lib.hid hS2
    have hc2 : ∀ k, k < us.length → W2.drew.cell? ⟨bx, ox + k, none⟩ = some (.int .i64 (nth us k)) := fun k hk => (hbw.cell (p := ⟨bx, ox + k, none⟩) (by show bx < _; omega)).trans (HCX.out k hk)
    have HC2 := Lib.hid hc2
    have hbxd : bx < W2.drew.heap.size := show bx < W2.heap.size by omega
    clear ha2 hc2 hb2 hS2
    go_wp2_with fail
    go_region_held3 (fun w' => w'.cell? ⟨w.heap.size + 1, 0, none⟩ = some (.int .i64 (M : Int)) ∧ w'.cell? ⟨w.heap.size + 1, 1, none⟩ = some (.slice (some ⟨bx, ox, none⟩) us.length c'))
      (first
        | exact HS.out _ (Below.refl _ _)
        | exact HS.out _ hb3
        | exact HS.out _ hb4)
      (first
        | (go_at_call 119; refine (HST.out W2.drew HC2.out hbxd).mono ?_; rintro e W3 ⟨rfl, hb3⟩)
        | (go_at_call 118; refine (multiplesBelow_any Q M W3 hqp hql hM2 hM12).mono ?_; rintro e W4 ⟨A4, n4, rfl, hb4', hO4⟩; have hb4 := hb3.trans (hb4'.mono hb3.size)))
    have HO4 := Lib.hid hO4
    have hz3 := hb3.size
    clear hO4
    go_wp2_with fail
    go_ret2
    refine ⟨A4, n4, by rw [HP.out, HC.out, HD.out, HQ.out]; rfl, hbw.trans (((Below.refl _ W2).drew.trans hb4).mono hzw), ?_⟩
    rw [HP.out, HD.out, HQ.out]
    exact HO4.out.mono (Nat.le_trans hzw hz3)

theorem fixR_small (t : List (List Int)) (m : Int) (us : List Int) : (fixR t m us).length ≤ 24 := by
  cases hg : gmB t m us with
  | false => rw [fixR_no hg]; simp
  | true =>
    obtain ⟨_, hm2, hm12, _⟩ := gmB_true hg
    obtain ⟨M, rfl⟩ : ∃ M : Nat, m = (M : Int) := ⟨m.toNat, by omega⟩
    rw [fixR_yes hg, mults_len]
    have h1 := dvs_le (us := us) (show 0 < M by omega) us.length
    have h2 : M / dvs M us us.length ≤ M := Nat.div_le_self _ _
    refine Nat.le_trans (Nat.div_le_self _ _) ?_
    omega

theorem implFixedNumbersG {t : List (List Int)} {m : Int} {us ys : List Int} {q : Int} (hy : fixR t m us = ys) (hq : gmC t m us = q) (A L : Option Addr) (c c' B B' : Nat) (w : World) (hR : Rws w B A t) (hX : Ints w B' L us) (hB : B ≤ w.heap.size) (hB' : B' ≤ w.heap.size)
    (hn : t.length ≤ 1048576) (hl : ∀ i, i < t.length → (row t i).length ≤ 1048576) (hx : us.length ≤ 1048576) :
    Calls Try.prog 63 #[.agg #[.slice A t.length c], .agg #[.int .i64 m, .slice L us.length c']] w fun e w' => ∃ A' n', e = .returned (.tuple #[.slice A' ys.length n', .int .i64 q]) ∧ Below w.heap.size w w' ∧ OwnI w' w.heap.size A' ys := by
  subst hy
  subst hq
  exact implFixedNumbers_any A L t m us c c' B B' w hR hX hB hB' hn hl hx

end Go.Proofs.Ytahilkhnlobaoaa
