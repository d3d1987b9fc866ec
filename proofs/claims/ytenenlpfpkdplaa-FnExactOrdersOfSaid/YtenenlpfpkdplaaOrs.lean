/- OrdersOf, of the specification. -/
import Derived.Test.YtenenlpfpkdplaaOgr
import Derived.Maps.AppendAt
import Derived.OwnWalk
namespace Go.Proofs.Ytenenlpfpkdplaa
open Go.RowKit

set_option maxRecDepth 100000 in
set_option maxHeartbeats 1000000 in
theorem specOrdersOf_any (A : Option Addr) (t : List (List Int)) (c B : Nat) (w : World) (hR : Rws w B A t) (hB : B ≤ w.heap.size) (hn : t.length ≤ 1048576) (hl : ∀ i, i < t.length → (row t i).length ≤ 1048576) :
    Calls Try.prog 8 #[.agg #[.slice A t.length c]] w fun e w' => ∃ A' c', e = .returned (.tuple #[.slice A' (ordersR t).length c', .int .i64 (codeR t)]) ∧ Below w.heap.size w w' ∧ OwnI w' w.heap.size A' (ordersR t) := by
  have hb0 : Below w.heap.size w (w.alloc (.cells #[.slice A t.length c] 29)) := (Below.refl _ _).alloc (Nat.le_refl _) _
  have h0 := Has.new w 29 #[.slice A t.length c]
  have hz0 : (w.alloc (.cells #[.slice A t.length c] 29)).heap.size = w.heap.size + 1 := by simp
  have hcon := l01Is_any A t c B _ (hR.below hb0 hB) (by rw [hz0]; omega) hn hl
  cases hg : grpB t with
  | false =>
    have HO : Hid (ordersR t = [] ∧ codeR t = 1) := by
      show _ ∧ _
      simp [ordersR, codeR, hg]
    rw [hg] at hcon
    have HCON := Lib.hid hcon
    clear hR hl hcon hg
    go_enter Try.func8, Try.ntmps8
    go_wp2_with fail
    refine HCON.out.mono ?_
    rintro e W1 ⟨rfl, hb1⟩
    have hbw := hb0.trans (hb1.mono (by rw [hz0]; omega))
    have hz1 := hb1.size
    go_wp2
    go_ret2
    refine ⟨none, 0, by rw [HO.out.1, HO.out.2]; rfl, hbw, ?_⟩
    rw [HO.out.1]
    exact ⟨w.heap.size, 0, fun h => absurd h (by simp), Nat.le_refl _, by omega, fun j hj => absurd hj (by simp)⟩
  | true =>
    have hgr := grpB_iff.1 hg
    have hn8 := hgr.n8
    have hR0 := hR.below hb0 hB
    obtain ⟨bt, ot, bb, oo, C, rfl, hQ⟩ := hR0.sq hgr.n1 hgr.sq
    rw [hg] at hcon
    have HCON := Lib.hid hcon
    have HQ := Lib.hid hQ
    have HG := Lib.hid hgr
    have HO : Hid (ordersR t = (List.range t.length).map (fun a => (ord t a : Int)) ∧ codeR t = 0) := by
      show _ ∧ _
      simp [ordersR, codeR, hg]
    clear hR hl hcon hg hQ hgr hR0
    go_enter Try.func8, Try.ntmps8
    go_wp2_with fail
    refine HCON.out.mono ?_
    rintro e W1 ⟨rfl, hb1⟩
    go_wp2
    have hz1 := hb1.size
    have hown0 := own_empty W1 W1.heap.size 2 (Nat.le_refl _)
    have h1 := h0.below hb1 h0.lt
    have hbw := hb0.trans (hb1.mono (by rw [hz0]; omega))
    have hQ1 := HQ.out.below hb1 (by rw [hz0]; omega)
    have HQ1 := Lib.hid hQ1
    obtain ⟨i0, hi, hi0, hi1, hi2⟩ := info_parts infoI
    clear HQ h0 hb0 hb1 HCON hQ1
    go_loopw [4, 5] (fun out i wr => ∃ k : Nat, k ≤ t.length ∧ i = .int .i64 k ∧ wr.ownsRow W1.heap.size 2 1 out k (((List.range k).map fun a => (ord t a : Int)).map fun x => .int .i64 x) ∧ Below W1.heap.size W1 wr) (fun _ i _ => t.length - (intOf i).toNat)
    case atStart => exact ⟨0, by omega, rfl, hown0, (Below.refl _ _).alloc (Nat.le_refl _) _⟩
    case round =>
      obtain ⟨k, hk, rfl, hown, hb⟩ := hrel
      have HOWN := Lib.hid hown
      have hbox := (h1.below hb h1.lt).cell 0
      have hzr := hb.size
      clear hown
      by_cases hlt : k < t.length
      · go_wp2_with fail
        refine (l01N_any _ t.length c _ hn).mono ?_
        rintro e w' ⟨rfl, rfl⟩
        have hbA : Below wr.heap.size wr (wr.alloc (.cells #[.slice (some ⟨bt, ot, none⟩) t.length c] 29)) := (Below.refl _ _).alloc (Nat.le_refl _) _
        have hownA := own_below HOWN.out hbA
        have hbA' := hb.trans (hbA.mono hzr)
        have hzA : (wr.alloc (.cells #[.slice (some ⟨bt, ot, none⟩) t.length c] 29)).heap.size = wr.heap.size + 1 := by simp
        have HA := Lib.hid (And.intro hownA (And.intro hbA' hzA))
        clear hownA hbA' hzA hbA HOWN hbox hb
        generalize (wr.alloc (.cells #[.slice (some ⟨bt, ot, none⟩) t.length c] 29)) = wA at *
        have hboxA := (h1.below HA.out.2.1 h1.lt).cell 0
        go_wp2_with fail
        refine (l01Order_any t c B bt ot k bb oo C wA (HQ1.out.below HA.out.2.1 (by omega)) (by have := HA.out.2.2; omega) HG.out hlt).mono ?_
        rintro e W2 ⟨rfl, hb2⟩
        have hown2 := own_below HA.out.1 hb2
        have hz2 := hb2.size
        have hb2' := HA.out.2.1.trans (hb2.mono (by have := HA.out.2.2; omega))
        have HO2 := Lib.hid hown2
        have hz12 := hb2'.size
        have HB2 := Lib.hid hb2'
        clear hown2 hb2' HA
        go_wp2_with (at_builtin; refine wpList_append_own _ rfl _ _ 26 rfl W1.heap.size 2 i0 (.int .i64 0) 1 8 Try.underlying26 hi hi0 hi1 hi2 rfl (by decide) _ _ _ rfl (HO2.out.alloc _) ⟨W2.heap.size, 0, none⟩ 1 1 [.int .i64 (ord t k : Int)] rfl rfl (cell_one_new _ _ _) (by simp [Value.oneCell']) (by unfold maxLen; omega) (by omega) (by simp; omega) ?_; intro v' w3 hown3 hgrow3 _)
        refine ⟨?rel, ?measure⟩
        case rel =>
          refine ⟨k + 1, by omega, by go_num, ?_, (HB2.out.alloc hz12 _).grown hgrow3 (by simp; omega) (fun k' hk' => (HO2.out.lt k' hk').1)⟩
          rw [List.range_succ, List.map_append, List.map_append]
          exact hown3
        case measure => simp [intOf]; omega
      · have hk' : k = t.length := by omega
        subst hk'
        go_wp2_with fail
        refine (l01N_any _ t.length c _ hn).mono ?_
        rintro e w' ⟨rfl, rfl⟩
        go_wp2
        obtain ⟨A', c', rfl, hO⟩ := own_ints (HOWN.out.alloc (.cells #[.slice (some ⟨bt, ot, none⟩) t.length c] 29)) (by simp) (by simp; omega) (by simp)
        have hO' := hO (.inr (by simp; exact HG.out.n1))
        go_ret2
        simp only [List.length_map, List.length_range]
        refine ⟨A', c', by rw [HO.out.1, HO.out.2]; simp, hbw.trans ((hb.alloc hzr _).mono (by omega)), ?_⟩
        rw [HO.out.1]
        exact hO'.mono (by omega)

end Go.Proofs.Ytenenlpfpkdplaa
