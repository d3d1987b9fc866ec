/- Chapter 8: what is given; the specification's contracts of EmbedCochain, ReduceCochain and LiftCochain. -/
import Derived.Test.YtllkaoacfchibaaGreatDoorWf
import Derived.Test.YtllkaoacfchibaaGreatDoorSd
namespace Go.Proofs.YtllkaoacfchibaaGreatDoor
open Go.RowKit

theorem gvC_congr {t : List (List Int)} {m : Int} {us : List Int} {k a b n : Int} {fs : List Int} (h : sqC t m us k = 0 → a = b) : gvC t m us k a n fs = gvC t m us k b n fs := by
  unfold gvC
  split
  · rename_i h0
    rw [h h0]
  · rfl

set_option maxRecDepth 100000 in
set_option maxHeartbeats 8000000 in
theorem l08Given_any (A U Fa : Option Addr) (t : List (List Int)) (m : Int) (us : List Int) (k m' n : Int) (fs : List Int) (c c1 c2 : Nat) (w : World) (hR : RwsW w A t) (hU : IntsW w U us) (hF : IntsW w Fa fs) (hs : SmallT t) (hu : us.length ≤ 1048576) (hf : fs.length ≤ 1048576)
    (hm : sqC t m us k = 0 → ∃ K : Nat, m' = (K : Int) ∧ 2 ≤ K ∧ K ≤ 12 ∧ gmB t (K : Int) (rdL us K) = true) :
    Calls Tryz.prog 41 #[.agg #[.slice A t.length c], .agg #[.int .i64 m, .slice U us.length c1], .int .i64 k, .int .i64 m', .agg #[.int .i64 n, .slice Fa fs.length c2]] w fun e w' => e = .returned (.int .i64 (gvC t m us k m' n fs)) ∧ Ex w w' := by
  have e0 : Ex w (((w.alloc (.cells #[.slice A t.length c] 36)).alloc (.cells #[.int .i64 m, .slice U us.length c1] 38)).alloc (.cells #[.int .i64 n, .slice Fa fs.length c2] 33)) := (((Ex.refl w).alloc _).alloc _).alloc _
  have b0 : Has (((w.alloc (.cells #[.slice A t.length c] 36)).alloc (.cells #[.int .i64 m, .slice U us.length c1] 38)).alloc (.cells #[.int .i64 n, .slice Fa fs.length c2] 33)) (w.heap.size) 36 #[.slice A t.length c] := (((Has.newAt (w := w) (e := 36) (cs := #[.slice A t.length c]) (k := w.heap.size) (by simp)).alloc _).alloc _)
  have b1 : Has (((w.alloc (.cells #[.slice A t.length c] 36)).alloc (.cells #[.int .i64 m, .slice U us.length c1] 38)).alloc (.cells #[.int .i64 n, .slice Fa fs.length c2] 33)) (w.heap.size + 1) 38 #[.int .i64 m, .slice U us.length c1] := ((Has.newAt (w := (w.alloc (.cells #[.slice A t.length c] 36))) (e := 38) (cs := #[.int .i64 m, .slice U us.length c1]) (k := w.heap.size + 1) (by simp)).alloc _)
  have b2 : Has (((w.alloc (.cells #[.slice A t.length c] 36)).alloc (.cells #[.int .i64 m, .slice U us.length c1] 38)).alloc (.cells #[.int .i64 n, .slice Fa fs.length c2] 33)) (w.heap.size + 1 + 1) 33 #[.int .i64 n, .slice Fa fs.length c2] := (Has.newAt (w := ((w.alloc (.cells #[.slice A t.length c] 36)).alloc (.cells #[.int .i64 m, .slice U us.length c1] 38))) (e := 33) (cs := #[.int .i64 n, .slice Fa fs.length c2]) (k := w.heap.size + 1 + 1) (by simp))
  have HC := Lib.hid (l08Code_any A U t m us k c c1 _ (hR.ex e0) (hU.ex e0) hs hu)
  by_cases hz : sqC t m us k = 0
  · obtain ⟨K, rfl, hK2, hK12, hgK⟩ := hm hz
    obtain ⟨M, K', Q, rfl, rfl, hMF, hS, -, -, -⟩ := sqC_f hz
    have hl8 : us.length ≤ 8 := by rw [hMF.len]; exact hMF.g.n8
    have HQ : Hid (gvC t (M : Int) us (K' : Int) (K : Int) n fs = if gmcB t (K : Int) (rdL us K) n fs = true then 0 else 1) := Lib.hid (by rw [gvC, if_pos hz, gmcB, hgK, Bool.true_and])
    rw [hz] at HC
    have HRD := Lib.hid (fun W (he : Ex w W) => l02Reduced_any U us c1 K (M : Int) W (hU.ex he) hl8 (fun i hi => ⟨(hMF.rng i hi).1, by have := (hMF.rng i hi).2; have := hMF.m12; omega⟩) (by omega) hK12)
    have HL3 := Lib.hid (fun W A1 n1 kb (he : Ex w W) (hI : IntsW W A1 (rdL us K)) (hk : Has W kb 33 #[.int .i64 n, .slice Fa fs.length c2]) => l03Code1_ex A A1 Fa t (K : Int) (rdL us K) n fs c n1 c2 kb W (hR.ex he) hI (hF.ex he) hs (by rw [rdL_len]; exact hu) hf hk)
    rw [rdL_len] at HL3
    obtain ⟨z, hzq⟩ : ∃ z : Int, (if gmcB t (K : Int) (rdL us K) n fs = true then 0 else 1) = z := ⟨_, rfl⟩
    rw [hzq] at HQ HL3
    have HCF := Lib.hid (fun (W : World) (he : Ex _ W) => And.intro ((b0.ex he).cell 0) (And.intro ((b1.ex he).cell 0) (And.intro ((b1.ex he).cell 1) (And.intro ((b2.ex he).cell 0) ((b2.ex he).cell 1)))))
    have HE0 := Lib.hid e0
    have k0 := b0.cell 0
    have k1 := b1.cell 0
    have k1' := b1.cell 1
    clear hz hzq hMF hS hgK hm hR hU hF hs hu hf b0 b1 b2 e0
    go_enter Tryz.func41, Tryz.ntmps41
    go_wp2_with fail
    generalize (((w.alloc (.cells #[.slice A t.length c] 36)).alloc (.cells #[.int .i64 (M : Int), .slice U us.length c1] 38)).alloc (.cells #[.int .i64 n, .slice Fa fs.length c2] 33)) = W0 at *
    refine HC.out.mono ?_
    rintro e W1 ⟨rfl, he1⟩
    have HX1 := Lib.hid he1.drew
    have HX0 := Lib.hid he1
    have hC0 := HCF.out _ HX1.out
    clear he1 k0 k1 k1' HC
    go_wp2_with fail
    refine Late.region (C := fun w' => w'.cell? ⟨w.heap.size, 0, none⟩ = some (.slice A t.length c) ∧ w'.cell? ⟨w.heap.size + 1, 0, none⟩ = some (.int .i64 (M : Int)) ∧ w'.cell? ⟨w.heap.size + 1, 1, none⟩ = some (.slice U us.length c1) ∧ w'.cell? ⟨w.heap.size + 1 + 1, 0, none⟩ = some (.int .i64 n) ∧ w'.cell? ⟨w.heap.size + 1 + 1, 1, none⟩ = some (.slice Fa fs.length c2)) (fun j => decide (j < 7)) (by kernel_rfl) hC0 (fun hC => ?_)
    refine Late.take (i := 0) (oi := _) (v := ?_) rfl (by kernel_rfl) (by kernel_rfl) (by kernel_rfl) (by kernel_rfl) (fun _ _ _ h => h) (Or.inl ⟨by rfl, ?_⟩) hC ?_
    rotate_left
    · (intro w hSw; (try dsimp only at hSw); go_simp; first | done | with_reducible rfl)
    simp only [Act.put]
    refine Late.take (i := 1) (oi := _) (v := ?_) rfl (by kernel_rfl) (by kernel_rfl) (by kernel_rfl) (by kernel_rfl) (fun _ _ _ h => h) (Or.inl ⟨by rfl, ?_⟩) hC ?_
    rotate_left
    · (intro w hSw; (try dsimp only at hSw); go_simp; first | done | with_reducible rfl)
    simp only [Act.put]
    refine Late.take (i := 2) (oi := _) (v := ?_) rfl (by kernel_rfl) (by kernel_rfl) (by kernel_rfl) (by kernel_rfl) (fun _ _ _ h => h) (Or.inl ⟨by rfl, ?_⟩) hC ?_
    rotate_left
    · (intro w hSw; (try dsimp only at hSw); go_simp; first | done | with_reducible rfl)
    simp only [Act.put]
    refine Late.take (i := 4) (oi := _) (v := ?_) rfl (by kernel_rfl) (by kernel_rfl) (by kernel_rfl) (by kernel_rfl) (fun _ _ _ h => h) (Or.inl ⟨by rfl, ?_⟩) hC ?_
    rotate_left
    · (intro w hSw; (try dsimp only at hSw); go_simp; first | done | with_reducible rfl)
    simp only [Act.put]
    clear hC hC0
    refine Late.two (i := 3) (j := 5) (oi := _) (oj := _) (by kernel_rfl) rfl rfl (fun K' hK' => ?_) (fun K' hK' => ?_)
    · go_simp
      refine (HRD.out W1.drew (HE0.out.trans HX1.out)).mono ?_
      rintro e W2 ⟨A1, n1, rfl, he2, ho2⟩
      have HX2 := Lib.hid (HX1.out.trans he2)
      have HI2 := Lib.hid ho2.ints
      have hC2 := HCF.out _ HX2.out
      refine hK'.out _ _ (fun _ => hC2) (fun _ => ?_)
      clear hK' K' he2 ho2
      try simp only [Act.put]
      refine Late.one (i := 5) (o := _) (by kernel_rfl) rfl (fun K' hK' => ?_)
      go_simp
      have HX3 := Lib.hid (HX2.out.alloc (.cells #[.int .i64 n, .slice Fa fs.length c2] 33))
      have HI3 := Lib.hid (HI2.out.ex (Ex.new W2 (.cells #[.int .i64 n, .slice Fa fs.length c2] 33)))
      have HB3 := Lib.hid (Has.new W2 33 #[.int .i64 n, .slice Fa fs.length c2])
      have hC3 := HCF.out _ HX3.out
      refine hK'.out _ _ (fun _ => hC3) (fun _ => ?_)
      clear hK' K' hC2
      generalize W2.alloc (.cells #[.int .i64 n, .slice Fa fs.length c2] 33) = W3 at *
      try simp only [Act.put]
      refine Late.one (i := 6) (o := _) (by kernel_rfl) rfl (fun K' hK' => ?_)
      go_simp
      refine (HL3.out W3 A1 n1 W2.heap.size (HE0.out.trans HX3.out) HI3.out HB3.out).mono ?_
      rintro e W4 ⟨rfl, he4⟩
      have HE4 := Lib.hid (HE0.out.trans (HX3.out.trans he4))
      have hC4 := HCF.out _ (HX3.out.trans he4)
      clear he4
      refine hK'.out _ _ (fun _ => hC4) (fun _ => ?_)
      clear hK' K' hC3
      try simp only [Act.put]
      refine Late.one (i := 7) (o := _) (by kernel_rfl) rfl (fun K' hK' => ?_)
      go_simp
      refine hK'.out _ _ (fun h => by cases h) (fun _ => ?_)
      clear hK' K' hC4
      try simp only [Act.put]
      refine Late.done (by kernel_rfl) ?_ _
      go_wp2_with fail
      go_ret
      exact ⟨by rw [HQ.out]; rfl, HE4.out⟩
    · go_simp
      have HX2 := Lib.hid (HX0.out.alloc (.cells #[.int .i64 n, .slice Fa fs.length c2] 33)).drew
      have HB2 : Hid (Has (W1.alloc (.cells #[.int .i64 n, .slice Fa fs.length c2] 33)).drew W1.heap.size 33 #[.int .i64 n, .slice Fa fs.length c2]) := Lib.hid (Has.new W1 33 #[.int .i64 n, .slice Fa fs.length c2])
      have hC2 := HCF.out _ HX2.out
      refine hK'.out _ _ (fun _ => hC2) (fun _ => ?_)
      clear hK' K'
      generalize (W1.alloc (.cells #[.int .i64 n, .slice Fa fs.length c2] 33)).drew = W2 at *
      try simp only [Act.put]
      refine Late.one (i := 3) (o := _) (by kernel_rfl) rfl (fun K' hK' => ?_)
      go_simp
      refine (HRD.out W2 (HE0.out.trans HX2.out)).mono ?_
      rintro e W3 ⟨A1, n1, rfl, he3, ho3⟩
      have HX3 := Lib.hid (HX2.out.trans he3)
      have HI3 := Lib.hid ho3.ints
      have HB3 := Lib.hid (HB2.out.ex he3)
      have hC3 := HCF.out _ HX3.out
      refine hK'.out _ _ (fun _ => hC3) (fun _ => ?_)
      clear hK' K' hC2 he3 ho3
      try simp only [Act.put]
      refine Late.one (i := 6) (o := _) (by kernel_rfl) rfl (fun K' hK' => ?_)
      go_simp
      refine (HL3.out W3 A1 n1 W1.heap.size (HE0.out.trans HX3.out) HI3.out HB3.out).mono ?_
      rintro e W4 ⟨rfl, he4⟩
      have HE4 := Lib.hid (HE0.out.trans (HX3.out.trans he4))
      have hC4 := HCF.out _ (HX3.out.trans he4)
      clear he4
      refine hK'.out _ _ (fun _ => hC4) (fun _ => ?_)
      clear hK' K' hC3
      try simp only [Act.put]
      refine Late.one (i := 7) (o := _) (by kernel_rfl) rfl (fun K' hK' => ?_)
      go_simp
      refine hK'.out _ _ (fun h => by cases h) (fun _ => ?_)
      clear hK' K' hC4
      try simp only [Act.put]
      refine Late.done (by kernel_rfl) ?_ _
      go_wp2_with fail
      go_ret
      exact ⟨by rw [HQ.out]; rfl, HE4.out⟩
  · obtain ⟨z, hzz⟩ : ∃ z, sqC t m us k = z := ⟨_, rfl⟩
    have HQ := Lib.hid (gvC_no (m' := m') (n := n) (fs := fs) hzz (hzz ▸ hz))
    rw [hzz] at HC hz
    have hzb : (z != 0) = true := by simpa using hz
    have HE0 := Lib.hid e0
    have k0 := b0.cell 0
    have k1 := b1.cell 0
    have k1' := b1.cell 1
    clear hz hzz hm hR hU hF hs hu hf b0 b1 b2 e0
    go_enter Tryz.func41, Tryz.ntmps41
    go_wp2_with fail
    generalize (((w.alloc (.cells #[.slice A t.length c] 36)).alloc (.cells #[.int .i64 m, .slice U us.length c1] 38)).alloc (.cells #[.int .i64 n, .slice Fa fs.length c2] 33)) = W0 at *
    refine HC.out.mono ?_
    rintro e W1 ⟨rfl, he1⟩
    have HE1 := Lib.hid (HE0.out.trans he1)
    clear he1 k0 k1 k1'
    go_wp2_with fail
    go_ret
    exact ⟨by rw [HQ.out]; rfl, HE1.out⟩

/-- What is asked of the end of a function that answers a cochain and a code. -/
def CoS (q0 : Int) (y0 : List Int) (q1 : Int) (W : World) (e : Ending) (W' : World) : Prop := SqS q0 y0 q1 W e W'

end Go.Proofs.YtllkaoacfchibaaGreatDoor
