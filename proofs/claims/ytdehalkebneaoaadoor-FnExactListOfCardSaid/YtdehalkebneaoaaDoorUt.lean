/- The units that homomorphisms lead to. -/
import Derived.Deep.RegionHeld3
import Derived.RangeFuncBox
import Derived.Test.YtdehalkebneaoaaDoorMc
import Derived.Test.YtdehalkebneaoaaDoorOwn
namespace Go.Proofs.YtdehalkebneaoaaDoor
open Go.RowKit

theorem Has.grown {W W' : World} {row : Option Nat} {B : Nat} {e : TypeId} {cs : Array Value} (h : Has W B e cs) (hg : W.grownBy W' row) (hne : ∀ k, row = some k → B ≠ k) : Has W' B e cs :=
  (hg.block B h.lt (fun e' => hne B e'.symm rfl)).trans h

set_option maxRecDepth 100000 in
set_option maxHeartbeats 1000000 in
theorem unitTarget_any (M : Nat) (w : World) (h1 : 2 ≤ M) (h12 : M ≤ 12) :
    Calls Tryd.prog 146 #[.int .i64 (M : Int)] w fun e w' => ∃ A' N c', e = .returned (.agg #[.slice A' N c', .func (.func 169) #[] #[.pointer (some ⟨w.heap.size, 0, none⟩)]]) ∧ Below w.heap.size w w' ∧ Has w' w.heap.size 2 #[.int .i64 (M : Int)] := by
  have hmf : ∀ (fn : Fn) (first cap : Array Value) (w : World), (Instr.makeFunc fn first cap).run Tryd.prog w = .ok (.func fn first cap) w := fun _ _ _ _ => rfl
  have hsf := fun (a : Addr) (c : Array Value) (w : World) => run_store Tryd.prog w a (.func (.func 169) #[] c) .plain rfl
  obtain ⟨i0, hi, hi0, hi1, hi2⟩ := info_parts infoI
  have h0 := ((Has.new w 2 #[.int .i64 (M : Int)]).alloc (.cells #[.slice none 0 0, .nilFunc] 153)).alloc (.cells #[.slice none 0 0, .func (.func 169) #[] #[.pointer (some ⟨w.heap.size, 0, none⟩)]] 153)
  have h1' := (Has.newAt (w := w.alloc (.cells #[.int .i64 (M : Int)] 2)) (e := 153) (cs := #[.slice none 0 0, .nilFunc]) (k := w.heap.size + 1) (by simp)).alloc (.cells #[.slice none 0 0, .func (.func 169) #[] #[.pointer (some ⟨w.heap.size, 0, none⟩)]] 153)
  have h2' := Has.newAt (w := (w.alloc (.cells #[.int .i64 (M : Int)] 2)).alloc (.cells #[.slice none 0 0, .nilFunc] 153)) (e := 153) (cs := #[.slice none 0 0, .func (.func 169) #[] #[.pointer (some ⟨w.heap.size, 0, none⟩)]]) (k := w.heap.size + 1 + 1) (by simp)
  have hb0 : Below w.heap.size w (((w.alloc (.cells #[.int .i64 (M : Int)] 2)).alloc (.cells #[.slice none 0 0, .nilFunc] 153)).alloc (.cells #[.slice none 0 0, .func (.func 169) #[] #[.pointer (some ⟨w.heap.size, 0, none⟩)]] 153)) := (((Below.refl _ _).alloc (Nat.le_refl _) _).alloc (by simp) _).alloc (by simp; omega) _
  have hz0 : ((((w.alloc (.cells #[.int .i64 (M : Int)] 2)).alloc (.cells #[.slice none 0 0, .nilFunc] 153)).alloc (.cells #[.slice none 0 0, .func (.func 169) #[] #[.pointer (some ⟨w.heap.size, 0, none⟩)]] 153))).heap.size = w.heap.size + 1 + 1 + 1 := by simp
  go_enter Tryd.func146, Tryd.ntmps146
  go_wp2_with fail
  generalize (((w.alloc (.cells #[.int .i64 (M : Int)] 2)).alloc (.cells #[.slice none 0 0, .nilFunc] 153)).alloc (.cells #[.slice none 0 0, .func (.func 169) #[] #[.pointer (some ⟨w.heap.size, 0, none⟩)]] 153)) = W at *
  have H0 := Lib.hid h0
  have H1 := Lib.hid h1'
  have H2 := Lib.hid h2'
  have HB0 := Lib.hid hb0
  have HZ0 := Lib.hid hz0
  clear h0 h1' h2' hb0 hz0
  go_loopw [8] (fun i wr => ∃ k : Nat, k ≤ M ∧ i = .int .i64 k ∧ ∃ A' N c' xs, N ≤ k ∧ Hid (Has wr w.heap.size 2 #[.int .i64 (M : Int)]) ∧ Hid (Has wr (w.heap.size + 1) 153 #[.slice none 0 0, .nilFunc]) ∧ Hid (Has wr (w.heap.size + 1 + 1) 153 #[.slice A' N c', .func (.func 169) #[] #[.pointer (some ⟨w.heap.size, 0, none⟩)]]) ∧
    Hid (wr.ownsRow (w.heap.size + 1 + 1 + 1) 2 1 (.slice A' N c') N xs) ∧ Hid (Below w.heap.size w wr) ∧ Hid (w.heap.size + 1 + 1 + 1 ≤ wr.heap.size)) (fun i _ => M - (intOf i).toNat)
  case atStart => exact ⟨0, by omega, rfl, none, 0, 0, [], by omega, H0, H1, H2, Lib.hid ⟨rfl, .inl ⟨rfl, rfl⟩⟩, HB0, Lib.hid (by rw [HZ0.out]; exact Nat.le_refl _)⟩
  case round =>
    obtain ⟨k, hk, rfl, A', N, c', xs, hN, G0, G1, G2, GO, GB, GZ⟩ := hrel
    have hc0 := G0.out.cell 0
    by_cases hlt : k < M
    · obtain ⟨bu, hbu⟩ : ∃ b, unitB (M : Int) (k : Int) = b := ⟨_, rfl⟩
      have hcon := isUnit_any (M : Int) (k : Int) wr (by omega) (by omega)
      rw [hbu] at hcon
      have HCON := Lib.hid hcon
      clear hcon hbu
      go_wp2_with fail
      refine HCON.out.mono ?_
      rintro e w1 ⟨rfl, hd1⟩
      have hb1 := hd1.below wr.heap.size
      have hz1 := hd1.size
      have K0 := Lib.hid (G0.out.below hb1 G0.out.lt)
      have K1 := Lib.hid (G1.out.below hb1 G1.out.lt)
      have K2 := Lib.hid (G2.out.below hb1 G2.out.lt)
      have KO := Lib.hid (own_below GO.out hb1)
      have KB := Lib.hid (GB.out.trans (hb1.mono GB.out.size))
      have KZ := Lib.hid (show w.heap.size + 1 + 1 + 1 ≤ w1.heap.size by rw [hz1]; exact GZ.out)
      clear hd1 hb1 hz1 hc0
      cases bu with
      | false =>
        go_wp2_with fail
        go_roundw
        case rel => exact ⟨k + 1, by omega, by go_num, A', N, c', xs, by omega, K0, K1, K2, KO, KB, KZ⟩
        case measure => simp [intOf]; omega
      | true =>
        have hc2 := K2.out.cell 0
        have hle := KZ.out
        have hlk := KO.out.lt
        have HLK := Lib.hid hlk
        clear hlk
        go_wp2_with (at_builtin; refine wpList_append_own _ rfl _ _ 26 rfl (w.heap.size + 1 + 1 + 1) 2 i0 (.int .i64 0) 1 8 Tryd.underlying26 hi hi0 hi1 hi2 rfl (by decide) _ _ _ rfl (KO.out.alloc _) ⟨w1.heap.size, 0, none⟩ 1 1 [.int .i64 (k : Int)] rfl rfl (cell_one_new _ _ _) (by simp [Value.oneCell']) (by unfold maxLen; omega) (by omega) (by simp; omega) ?_; intro v' w3 hown3 hgrow3 _; have q2 := (K2.out.alloc (.cells #[.int .i64 (k : Int)] 2)).grown hgrow3 (fun k' hk' => by have := (HLK.out k' hk').1; omega); have q2c := q2.cell 0; have q2f := q2.free 0; obtain ⟨g3, cap3, rfl⟩ := ownsRow_succ hown3)
        have r0 := ((K0.out.alloc (.cells #[.int .i64 (k : Int)] 2)).grown hgrow3 (fun k' hk' => by have := (HLK.out k' hk').1; omega)).far (p := ⟨w.heap.size + 1 + 1, 0, none⟩) (by show w.heap.size ≠ w.heap.size + 1 + 1; omega) (.slice (some ⟨g3, 0, none⟩) (N + 1) cap3)
        have r1 := ((K1.out.alloc (.cells #[.int .i64 (k : Int)] 2)).grown hgrow3 (fun k' hk' => by have := (HLK.out k' hk').1; omega)).far (p := ⟨w.heap.size + 1 + 1, 0, none⟩) (by show w.heap.size + 1 ≠ w.heap.size + 1 + 1; omega) (.slice (some ⟨g3, 0, none⟩) (N + 1) cap3)
        have r2 : Has (w3.setCell ⟨w.heap.size + 1 + 1, 0, none⟩ (.slice (some ⟨g3, 0, none⟩) (N + 1) cap3)) (w.heap.size + 1 + 1) 153 #[.slice (some ⟨g3, 0, none⟩) (N + 1) cap3, .func (.func 169) #[] #[.pointer (some ⟨w.heap.size, 0, none⟩)]] := q2.put 0 (.slice (some ⟨g3, 0, none⟩) (N + 1) cap3)
        have rO := hown3.kept (grownBy_setCell' w3 (w.heap.size + 1 + 1) (.slice (some ⟨g3, 0, none⟩) (N + 1) cap3)) (.inr fun e => by have := (hown3.lt _ e).1; omega)
        have rB := ((KB.out.alloc (by omega) (.cells #[.int .i64 (k : Int)] 2)).grown hgrow3 (by simp; omega) (fun k' hk' => by have := (HLK.out k' hk').1; omega)).setCell (p := ⟨w.heap.size + 1 + 1, 0, none⟩) (by show w.heap.size ≤ w.heap.size + 1 + 1; omega) (.slice (some ⟨g3, 0, none⟩) (N + 1) cap3)
        refine ⟨?rel, ?measure⟩
        case rel => exact ⟨k + 1, by omega, by go_num, some ⟨g3, 0, none⟩, N + 1, cap3, _, by omega, r0, r1, r2, rO, rB, r2.lt⟩
        case measure => simp [intOf]; omega
    · have hkk : k = M := by omega
      subst hkk
      have hc2 := G2.out.cell 0
      have hc2' := G2.out.cell 1
      have hc1 := G1.out.cell 0
      have hc1' := G1.out.cell 1
      have hf1 := G1.out.free 0
      have hf1' := G1.out.free 1
      go_wp2_with fail
      have H4 := (G1.out.put 0 (.slice A' N c')).put 1 (.func (.func 169) #[] #[.pointer (some ⟨w.heap.size, 0, none⟩)])
      have c4 := H4.cell 0
      have c4' := H4.cell 1
      refine bodyPost_ret (v := .agg #[.slice A' N c', .func (.func 169) #[] #[.pointer (some ⟨w.heap.size, 0, none⟩)]]) (by simp [results, Tryd.results146, go_sem, c4, c4']) rfl ⟨A', N, c', rfl, ?_, ?_⟩
      · exact (GB.out.setCell (by show w.heap.size ≤ w.heap.size + 1; omega) _).setCell (by show w.heap.size ≤ w.heap.size + 1; omega) _
      · exact (G0.out.far (by show w.heap.size ≠ w.heap.size + 1; omega) _).far (by show w.heap.size ≠ w.heap.size + 1; omega) _

end Go.Proofs.YtdehalkebneaoaaDoor
