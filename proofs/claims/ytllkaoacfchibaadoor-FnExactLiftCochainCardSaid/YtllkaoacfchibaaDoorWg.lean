/- Chapter 8: what is given; the specification's contracts of EmbedCochain, ReduceCochain and LiftCochain. -/
import Derived.Test.YtllkaoacfchibaaDoorWf
import Derived.Test.YtllkaoacfchibaaDoorSd
namespace Go.Proofs.YtllkaoacfchibaaDoor
open Go.RowKit

theorem gvC_congr {t : List (List Int)} {m : Int} {us : List Int} {k a b n : Int} {fs : List Int} (h : sqC t m us k = 0 → a = b) : gvC t m us k a n fs = gvC t m us k b n fs := by
  unfold gvC
  split
  · rename_i h0
    rw [h h0]
  · rfl

set_option maxRecDepth 100000 in
set_option maxHeartbeats 8000000 in
theorem l08Given_any (A U Fa : Option Addr) (t : List (List Int)) (m : Int) (us : List Int) (k m' n : Int) (fs : List Int) (c c1 c2 : Nat) (w : World) (hR : RwsW w A t) (hU : IntsW w U us) (hF : IntsW w Fa fs) (hs : SmallT t) (hu : us.length ≤ 1048576) (hf : fs.length ≤ 1048576)
    (hm : sqC t m us k = 0 → ∃ K : Nat, m' = (K : Int) ∧ 2 ≤ K ∧ K ≤ 12 ∧ gmB t (K : Int) (rdL us K) = true) :
    Calls Tryd.prog 64 #[.agg #[.slice A t.length c], .agg #[.int .i64 m, .slice U us.length c1], .int .i64 k, .int .i64 m', .agg #[.int .i64 n, .slice Fa fs.length c2]] w fun e w' => e = .returned (.int .i64 (gvC t m us k m' n fs)) ∧ Ex w w' := by
  have e0 : Ex w (((w.alloc (.cells #[.slice A t.length c] 33)).alloc (.cells #[.int .i64 m, .slice U us.length c1] 30)).alloc (.cells #[.int .i64 n, .slice Fa fs.length c2] 44)) := (((Ex.refl w).alloc _).alloc _).alloc _
  have b0 : Has (((w.alloc (.cells #[.slice A t.length c] 33)).alloc (.cells #[.int .i64 m, .slice U us.length c1] 30)).alloc (.cells #[.int .i64 n, .slice Fa fs.length c2] 44)) (w.heap.size) 33 #[.slice A t.length c] := (((Has.newAt (w := w) (e := 33) (cs := #[.slice A t.length c]) (k := w.heap.size) (by simp)).alloc _).alloc _)
  have b1 : Has (((w.alloc (.cells #[.slice A t.length c] 33)).alloc (.cells #[.int .i64 m, .slice U us.length c1] 30)).alloc (.cells #[.int .i64 n, .slice Fa fs.length c2] 44)) (w.heap.size + 1) 30 #[.int .i64 m, .slice U us.length c1] := ((Has.newAt (w := (w.alloc (.cells #[.slice A t.length c] 33))) (e := 30) (cs := #[.int .i64 m, .slice U us.length c1]) (k := w.heap.size + 1) (by simp)).alloc _)
  have b2 : Has (((w.alloc (.cells #[.slice A t.length c] 33)).alloc (.cells #[.int .i64 m, .slice U us.length c1] 30)).alloc (.cells #[.int .i64 n, .slice Fa fs.length c2] 44)) (w.heap.size + 1 + 1) 44 #[.int .i64 n, .slice Fa fs.length c2] := (Has.newAt (w := ((w.alloc (.cells #[.slice A t.length c] 33)).alloc (.cells #[.int .i64 m, .slice U us.length c1] 30))) (e := 44) (cs := #[.int .i64 n, .slice Fa fs.length c2]) (k := w.heap.size + 1 + 1) (by simp))
  have HC := Lib.hid (l08Code_any A U t m us k c c1 _ (hR.ex e0) (hU.ex e0) hs hu)
  by_cases hz : sqC t m us k = 0
  · obtain ⟨K, rfl, hK2, hK12, hgK⟩ := hm hz
    obtain ⟨M, K', Q, rfl, rfl, hMF, hS, -, -, -⟩ := sqC_f hz
    have hl8 : us.length ≤ 8 := by rw [hMF.len]; exact hMF.g.n8
    have HQ : Hid (gvC t (M : Int) us (K' : Int) (K : Int) n fs = if gmcB t (K : Int) (rdL us K) n fs = true then 0 else 1) := Lib.hid (by rw [gvC, if_pos hz, gmcB, hgK, Bool.true_and])
    rw [hz] at HC
    have HRD := Lib.hid (fun W (he : Ex w W) => l02Reduced_any U us c1 K (M : Int) W (hU.ex he) hl8 (fun i hi => ⟨(hMF.rng i hi).1, by have := (hMF.rng i hi).2; have := hMF.m12; omega⟩) (by omega) hK12)
    have HL3 := Lib.hid (fun W A1 n1 kb (he : Ex w W) (hI : IntsW W A1 (rdL us K)) (hk : Has W kb 44 #[.int .i64 n, .slice Fa fs.length c2]) => l03Code1_ex A A1 Fa t (K : Int) (rdL us K) n fs c n1 c2 kb W (hR.ex he) hI (hF.ex he) hs (by rw [rdL_len]; exact hu) hf hk)
    rw [rdL_len] at HL3
    obtain ⟨z, hzq⟩ : ∃ z : Int, (if gmcB t (K : Int) (rdL us K) n fs = true then 0 else 1) = z := ⟨_, rfl⟩
    rw [hzq] at HQ HL3
    have HCF := Lib.hid (fun (W : World) (he : Ex _ W) => And.intro ((b0.ex he).cell 0) (And.intro ((b1.ex he).cell 0) (And.intro ((b1.ex he).cell 1) (And.intro ((b2.ex he).cell 0) ((b2.ex he).cell 1)))))
    have HE0 := Lib.hid e0
    have k0 := b0.cell 0
    have k1 := b1.cell 0
    have k1' := b1.cell 1
    clear hz hzq hMF hS hgK hm hR hU hF hs hu hf b0 b1 b2 e0
    go_enter Tryd.func64, Tryd.ntmps64
    go_wp2_with fail
    generalize (((w.alloc (.cells #[.slice A t.length c] 33)).alloc (.cells #[.int .i64 (M : Int), .slice U us.length c1] 30)).alloc (.cells #[.int .i64 n, .slice Fa fs.length c2] 44)) = W0 at *
    refine HC.out.mono ?_
    rintro e W1 ⟨rfl, he1⟩
    have HX1 := Lib.hid he1.drew
    have HX0 := Lib.hid he1
    have hC0 := HCF.out _ HX1.out
    clear he1 k0 k1 k1' HC
    go_wp2_with fail
    refine Late.region (C := fun w' => w'.cell? ⟨w.heap.size, 0, none⟩ = some (.slice A t.length c) ∧ w'.cell? ⟨w.heap.size + 1, 0, none⟩ = some (.int .i64 (M : Int)) ∧ w'.cell? ⟨w.heap.size + 1, 1, none⟩ = some (.slice U us.length c1) ∧ w'.cell? ⟨w.heap.size + 1 + 1, 0, none⟩ = some (.int .i64 n) ∧ w'.cell? ⟨w.heap.size + 1 + 1, 1, none⟩ = some (.slice Fa fs.length c2)) (fun j => decide (j < 7)) (by kernel_rfl) hC0 (fun hC => ?_)
    refine Late.take (i := 0) (oi := _) (v := ?_) rfl (by kernel_rfl) (by kernel_rfl) (by kernel_rfl) (by kernel_rfl) (fun _ _ _ h => h) (Or.inl ⟨by rfl, ?_⟩) hC ?_
    rotate_left
    · (intro w hSw; (try dsimp only at hSw); go_simp; first | done | with_reducible rfl)
    simp only [Act.put]
    refine Late.take (i := 1) (oi := _) (v := ?_) rfl (by kernel_rfl) (by kernel_rfl) (by kernel_rfl) (by kernel_rfl) (fun _ _ _ h => h) (Or.inl ⟨by rfl, ?_⟩) hC ?_
    rotate_left
    · (intro w hSw; (try dsimp only at hSw); go_simp; first | done | with_reducible rfl)
    simp only [Act.put]
    refine Late.take (i := 2) (oi := _) (v := ?_) rfl (by kernel_rfl) (by kernel_rfl) (by kernel_rfl) (by kernel_rfl) (fun _ _ _ h => h) (Or.inl ⟨by rfl, ?_⟩) hC ?_
    rotate_left
    · (intro w hSw; (try dsimp only at hSw); go_simp; first | done | with_reducible rfl)
    simp only [Act.put]
    refine Late.take (i := 4) (oi := _) (v := ?_) rfl (by kernel_rfl) (by kernel_rfl) (by kernel_rfl) (by kernel_rfl) (fun _ _ _ h => h) (Or.inl ⟨by rfl, ?_⟩) hC ?_
    rotate_left
    · (intro w hSw; (try dsimp only at hSw); go_simp; first | done | with_reducible rfl)
    simp only [Act.put]
    clear hC hC0
    refine Late.two (i := 3) (j := 5) (oi := _) (oj := _) (by kernel_rfl) rfl rfl (fun K' hK' => ?_) (fun K' hK' => ?_)
    · go_simp
      refine (HRD.out W1.drew (HE0.out.trans HX1.out)).mono ?_
      rintro e W2 ⟨A1, n1, rfl, he2, ho2⟩
      have HX2 := Lib.hid (HX1.out.trans he2)
      have HI2 := Lib.hid ho2.ints
      have hC2 := HCF.out _ HX2.out
      refine hK'.out _ _ (fun _ => hC2) (fun _ => ?_)
      clear hK' K' he2 ho2
      try simp only [Act.put]
      refine Late.one (i := 5) (o := _) (by kernel_rfl) rfl (fun K' hK' => ?_)
      go_simp
      have HX3 := Lib.hid (HX2.out.alloc (.cells #[.int .i64 n, .slice Fa fs.length c2] 44))
      have HI3 := Lib.hid (HI2.out.ex (Ex.new W2 (.cells #[.int .i64 n, .slice Fa fs.length c2] 44)))
      have HB3 := Lib.hid (Has.new W2 44 #[.int .i64 n, .slice Fa fs.length c2])
      have hC3 := HCF.out _ HX3.out
      refine hK'.out _ _ (fun _ => hC3) (fun _ => ?_)
      clear hK' K' hC2
      generalize W2.alloc (.cells #[.int .i64 n, .slice Fa fs.length c2] 44) = W3 at *
      try simp only [Act.put]
      refine Late.one (i := 6) (o := _) (by kernel_rfl) rfl (fun K' hK' => ?_)
      go_simp
      refine (HL3.out W3 A1 n1 W2.heap.size (HE0.out.trans HX3.out) HI3.out HB3.out).mono ?_
      rintro e W4 ⟨rfl, he4⟩
      have HE4 := Lib.hid (HE0.out.trans (HX3.out.trans he4))
      have hC4 := HCF.out _ (HX3.out.trans he4)
      clear he4
      refine hK'.out _ _ (fun _ => hC4) (fun _ => ?_)
      clear hK' K' hC3
      try simp only [Act.put]
      refine Late.one (i := 7) (o := _) (by kernel_rfl) rfl (fun K' hK' => ?_)
      go_simp
      refine hK'.out _ _ (fun h => by cases h) (fun _ => ?_)
      clear hK' K' hC4
      try simp only [Act.put]
      refine Late.done (by kernel_rfl) ?_ _
      go_wp2_with fail
      go_ret
      exact ⟨by rw [HQ.out]; rfl, HE4.out⟩
    · go_simp
      have HX2 := Lib.hid (HX0.out.alloc (.cells #[.int .i64 n, .slice Fa fs.length c2] 44)).drew
      have HB2 : Hid (Has (W1.alloc (.cells #[.int .i64 n, .slice Fa fs.length c2] 44)).drew W1.heap.size 44 #[.int .i64 n, .slice Fa fs.length c2]) := Lib.hid (Has.new W1 44 #[.int .i64 n, .slice Fa fs.length c2])
      have hC2 := HCF.out _ HX2.out
      refine hK'.out _ _ (fun _ => hC2) (fun _ => ?_)
      clear hK' K'
      generalize (W1.alloc (.cells #[.int .i64 n, .slice Fa fs.length c2] 44)).drew = W2 at *
      try simp only [Act.put]
      refine Late.one (i := 3) (o := _) (by kernel_rfl) rfl (fun K' hK' => ?_)
      go_simp
      refine (HRD.out W2 (HE0.out.trans HX2.out)).mono ?_
      rintro e W3 ⟨A1, n1, rfl, he3, ho3⟩
      have HX3 := Lib.hid (HX2.out.trans he3)
      have HI3 := Lib.hid ho3.ints
      have HB3 := Lib.hid (HB2.out.ex he3)
      have hC3 := HCF.out _ HX3.out
      refine hK'.out _ _ (fun _ => hC3) (fun _ => ?_)
      clear hK' K' hC2 he3 ho3
      try simp only [Act.put]
      refine Late.one (i := 6) (o := _) (by kernel_rfl) rfl (fun K' hK' => ?_)
      go_simp
      refine (HL3.out W3 A1 n1 W1.heap.size (HE0.out.trans HX3.out) HI3.out HB3.out).mono ?_
      rintro e W4 ⟨rfl, he4⟩
      have HE4 := Lib.hid (HE0.out.trans (HX3.out.trans he4))
      have hC4 := HCF.out _ (HX3.out.trans he4)
      clear he4
      refine hK'.out _ _ (fun _ => hC4) (fun _ => ?_)
      clear hK' K' hC3
      try simp only [Act.put]
      refine Late.one (i := 7) (o := _) (by kernel_rfl) rfl (fun K' hK' => ?_)
      go_simp
      refine hK'.out _ _ (fun h => by cases h) (fun _ => ?_)
      clear hK' K' hC4
      try simp only [Act.put]
      refine Late.done (by kernel_rfl) ?_ _
      go_wp2_with fail
      go_ret
      exact ⟨by rw [HQ.out]; rfl, HE4.out⟩
  · obtain ⟨z, hzz⟩ : ∃ z, sqC t m us k = z := ⟨_, rfl⟩
    have HQ := Lib.hid (gvC_no (m' := m') (n := n) (fs := fs) hzz (hzz ▸ hz))
    rw [hzz] at HC hz
    have hzb : (z != 0) = true := by simpa using hz
    have HE0 := Lib.hid e0
    have k0 := b0.cell 0
    have k1 := b1.cell 0
    have k1' := b1.cell 1
    clear hz hzz hm hR hU hF hs hu hf b0 b1 b2 e0
    go_enter Tryd.func64, Tryd.ntmps64
    go_wp2_with fail
    generalize (((w.alloc (.cells #[.slice A t.length c] 33)).alloc (.cells #[.int .i64 m, .slice U us.length c1] 30)).alloc (.cells #[.int .i64 n, .slice Fa fs.length c2] 44)) = W0 at *
    refine HC.out.mono ?_
    rintro e W1 ⟨rfl, he1⟩
    have HE1 := Lib.hid (HE0.out.trans he1)
    clear he1 k0 k1 k1'
    go_wp2_with fail
    go_ret
    exact ⟨by rw [HQ.out]; rfl, HE1.out⟩

/-- What is asked of the end of a function that answers a cochain and a code. -/
def CoS (q0 : Int) (y0 : List Int) (q1 : Int) (W : World) (e : Ending) (W' : World) : Prop := SqS q0 y0 q1 W e W'

set_option maxRecDepth 100000 in
set_option maxHeartbeats 8000000 in
theorem specEmbedCochain_ex (t0 : List (List Int)) (m1 : Int) (t1 : List Int) (m2 m3 : Int) (t3 : List Int) : ∀ (B0 : Option Addr) (d0 : Nat) (B1 : Option Addr) (d1 : Nat) (B3 : Option Addr) (d3 : Nat) (W : World), RwsW W B0 t0 → IntsW W B1 t1 → IntsW W B3 t3 → SmallT t0 → t1.length ≤ 1048576 → t3.length ≤ 1048576 →
    Calls Tryd.prog 28 #[.agg #[.slice B0 t0.length d0], .agg #[.int .i64 m1, .slice B1 t1.length d1], .int .i64 m2, .agg #[.int .i64 m3, .slice B3 t3.length d3]] W (SqS (qEmbedCochain0 t0 m1 t1 m2 m3 t3) (yEmbedCochain0 t0 m1 t1 m2 m3 t3) (qEmbedCochain1 t0 m1 t1 m2 m3 t3) W) := by
  intro B0 d0 B1 d1 B3 d3 w hR hX hF hs hx hf
  have e0 : Ex w ((((w.alloc (.cells #[.slice B0 t0.length d0] 33)).alloc (.cells #[.int .i64 m1, .slice B1 t1.length d1] 30)).alloc (.cells #[.int .i64 m3, .slice B3 t3.length d3] 44)).alloc (.cells #[.int .i64 0, .slice none 0 0] 44)) := ((((Ex.refl w).alloc _).alloc _).alloc _).alloc _
  have b0 : Has ((((w.alloc (.cells #[.slice B0 t0.length d0] 33)).alloc (.cells #[.int .i64 m1, .slice B1 t1.length d1] 30)).alloc (.cells #[.int .i64 m3, .slice B3 t3.length d3] 44)).alloc (.cells #[.int .i64 0, .slice none 0 0] 44)) (w.heap.size) 33 #[.slice B0 t0.length d0] := ((((Has.newAt (w := w) (e := 33) (cs := #[.slice B0 t0.length d0]) (k := w.heap.size) (by simp)).alloc _).alloc _).alloc _)
  have b1 : Has ((((w.alloc (.cells #[.slice B0 t0.length d0] 33)).alloc (.cells #[.int .i64 m1, .slice B1 t1.length d1] 30)).alloc (.cells #[.int .i64 m3, .slice B3 t3.length d3] 44)).alloc (.cells #[.int .i64 0, .slice none 0 0] 44)) (w.heap.size + 1) 30 #[.int .i64 m1, .slice B1 t1.length d1] := (((Has.newAt (w := (w.alloc (.cells #[.slice B0 t0.length d0] 33))) (e := 30) (cs := #[.int .i64 m1, .slice B1 t1.length d1]) (k := w.heap.size + 1) (by simp)).alloc _).alloc _)
  have b2 : Has ((((w.alloc (.cells #[.slice B0 t0.length d0] 33)).alloc (.cells #[.int .i64 m1, .slice B1 t1.length d1] 30)).alloc (.cells #[.int .i64 m3, .slice B3 t3.length d3] 44)).alloc (.cells #[.int .i64 0, .slice none 0 0] 44)) (w.heap.size + 1 + 1) 44 #[.int .i64 m3, .slice B3 t3.length d3] := ((Has.newAt (w := ((w.alloc (.cells #[.slice B0 t0.length d0] 33)).alloc (.cells #[.int .i64 m1, .slice B1 t1.length d1] 30))) (e := 44) (cs := #[.int .i64 m3, .slice B3 t3.length d3]) (k := w.heap.size + 1 + 1) (by simp)).alloc _)
  have b3 : Has ((((w.alloc (.cells #[.slice B0 t0.length d0] 33)).alloc (.cells #[.int .i64 m1, .slice B1 t1.length d1] 30)).alloc (.cells #[.int .i64 m3, .slice B3 t3.length d3] 44)).alloc (.cells #[.int .i64 0, .slice none 0 0] 44)) (w.heap.size + 1 + 1 + 1) 44 #[.int .i64 0, .slice none 0 0] := (Has.newAt (w := (((w.alloc (.cells #[.slice B0 t0.length d0] 33)).alloc (.cells #[.int .i64 m1, .slice B1 t1.length d1] 30)).alloc (.cells #[.int .i64 m3, .slice B3 t3.length d3] 44))) (e := 44) (cs := #[.int .i64 0, .slice none 0 0]) (k := w.heap.size + 1 + 1 + 1) (by simp))
  have HC := Lib.hid (l08Given_any B0 B1 B3 t0 m1 t1 m2 m2 m3 t3 d0 d1 d3 _ (hR.ex e0) (hX.ex e0) (hF.ex e0) hs hx hf (fun h => by
    obtain ⟨M, K, Q, -, rfl, hMF, hS, -, hgK, -⟩ := sqC_f h
    exact ⟨K, rfl, hS.k2, by have := hS.lt; have := hMF.m12; omega, hgK⟩))
  by_cases hz : gvC t0 m1 t1 m2 m2 m3 t3 = 0
  · obtain ⟨hsq, hco⟩ := gvC_f hz
    obtain ⟨M, K, Q, rfl, rfl, hMF, hS, -, -, -⟩ := sqC_f hsq
    obtain ⟨d, hd, -, -, hl3, hfr⟩ := coc_f hMF.g.n8 hco
    have HQ := Lib.hid (emb_yes hz hS.div)
    rw [hz] at HC
    have hQM : Q ≤ M := by have := hS.div; rw [← this]; exact Nat.div_le_self _ _
    have hm12 := hMF.m12
    have hk2 := hS.k2
    have hq2 := hS.q2
    have hlt := hS.lt
    have hdv : IntKind.i64.wrap ((M : Int) / (K : Int)) = (Q : Int) := by
      rw [show (M : Int) / (K : Int) = (Q : Int) by rw [← hS.div]; rfl]
      exact IntWalk.i64_in _ (by omega)
    have hdt : Int.tdiv (M : Int) (K : Int) = (Q : Int) := by rw [Int.tdiv_eq_ediv_of_nonneg (by omega), ← hS.div]; rfl
    have hwQ : IntKind.i64.wrap (Q : Int) = (Q : Int) := IntWalk.i64_in _ (by omega)
    have hne : ((K : Int) != 0) = true := by simp; omega
    have hne0 : ¬ K = 0 := by omega
    have HTM := Lib.hid (fun W (he : Ex w W) => l08Times_any B3 m3 t3 Q d3 W (hF.ex he) hl3 (fun i hi => ⟨(hfr i hi).1, by have := (hfr i hi).2; omega⟩) (by omega))
    have HL : Hid ((tmL t3 Q).length = t3.length) := Lib.hid tmL_len
    clear hz hsq hco hMF hS hd hl3 hfr hR hX hF hs hx hf
    go_enter Tryd.func28, Tryd.ntmps28
    go_wp2_with fail
    generalize ((((w.alloc (.cells #[.slice B0 t0.length d0] 33)).alloc (.cells #[.int .i64 (M : Int), .slice B1 t1.length d1] 30)).alloc (.cells #[.int .i64 m3, .slice B3 t3.length d3] 44)).alloc (.cells #[.int .i64 0, .slice none 0 0] 44)) = W0 at *
    refine HC.out.mono ?_
    rintro e W1 ⟨rfl, he1⟩
    have HE1 := Lib.hid (e0.trans he1)
    have HB1 := Lib.hid (b1.ex he1)
    have HB2 := Lib.hid (b2.ex he1)
    have HB3 := Lib.hid (b3.ex he1)
    clear b0 b1 b2 b3 e0 he1
    have hC0 := And.intro (HB1.out.cell 0) (And.intro (HB2.out.cell 0) (HB2.out.cell 1))
    go_wp2_with fail
    refine Late.region (C := fun w' => w'.cell? ⟨w.heap.size + 1, 0, none⟩ = some (.int .i64 (M : Int)) ∧ w'.cell? ⟨w.heap.size + 1 + 1, 0, none⟩ = some (.int .i64 m3) ∧ w'.cell? ⟨w.heap.size + 1 + 1, 1, none⟩ = some (.slice B3 t3.length d3)) (fun j => decide (j < 6)) (by kernel_rfl) hC0 (fun hC => ?_)
    refine Late.take (i := 0) (oi := _) (v := ?_) rfl (by kernel_rfl) (by kernel_rfl) (by kernel_rfl) (by kernel_rfl) (fun _ _ _ h => h) (Or.inl ⟨by rfl, ?_⟩) hC ?_
    rotate_left
    · (intro w hSw; (try dsimp only at hSw); go_simp; first | done | with_reducible rfl)
    simp only [Act.put]
    refine Late.take (i := 1) (oi := _) (v := ?_) rfl (by kernel_rfl) (by kernel_rfl) (by kernel_rfl) (by kernel_rfl) (fun _ _ _ h => h) (Or.inl ⟨by rfl, ?_⟩) hC ?_
    rotate_left
    · (intro w hSw; (try dsimp only at hSw); go_simp; first | done | with_reducible rfl)
    simp only [Act.put]
    refine Late.take (i := 2) (oi := _) (v := ?_) rfl (by kernel_rfl) (by kernel_rfl) (by kernel_rfl) (by kernel_rfl) (fun _ _ _ h => h) (Or.inl ⟨by rfl, ?_⟩) hC ?_
    rotate_left
    · (intro w hSw; (try dsimp only at hSw); go_simp; first | done | with_reducible rfl)
    simp only [Act.put]
    refine Late.take (i := 3) (oi := _) (v := ?_) rfl (by kernel_rfl) (by kernel_rfl) (by kernel_rfl) (by kernel_rfl) (fun _ _ _ h => h) (Or.inl ⟨by rfl, ?_⟩) hC ?_
    rotate_left
    · (intro w hSw; (try dsimp only at hSw); go_simp; first | done | with_reducible rfl)
    simp only [Act.put]
    refine Late.take (i := 4) (oi := _) (v := ?_) rfl (by kernel_rfl) (by kernel_rfl) (by kernel_rfl) (by kernel_rfl) (fun _ _ _ h => h) (Or.inl ⟨by rfl, ?_⟩) hC ?_
    rotate_left
    · (intro w hSw; (try dsimp only at hSw); go_simp; first | done | with_reducible rfl)
    simp only [Act.put]
    refine Late.one (i := 5) (o := _) (by kernel_rfl) rfl (fun K' hK' => ?_)
    go_simp
    refine (HTM.out W1.drew HE1.out.drew).mono ?_
    rintro e W8 ⟨CC, n, rfl, he8, hO⟩
    have he18 : Ex W1 W8 := (Ex.refl W1).drew.trans he8
    have HBR := Lib.hid (HB3.out.ex he18)
    have HE2 := Lib.hid (HE1.out.trans he18)
    have HO2 := Lib.hid hO
    have c4 := HBR.out.cell 0
    have c4' := HBR.out.cell 1
    have f4 := HBR.out.free 0
    have f4' := HBR.out.free 1
    have hlb : w.heap.size + 1 + 1 + 1 < W1.drew.heap.size := HB3.out.lt
    have hlw : w.heap.size ≤ W1.drew.heap.size := HE1.out.size
    have hC2 := And.intro ((HB1.out.ex he18).cell 0) (And.intro ((HB2.out.ex he18).cell 0) ((HB2.out.ex he18).cell 1))
    refine hK'.out _ _ (fun _ => hC2) (fun _ => ?_)
    clear hK' K' hC hC0 he8 he18 hO
    try simp only [Act.put]
    refine Late.one (i := 6) (o := _) (by kernel_rfl) rfl (fun K' hK' => ?_)
    go_simp
    refine hK'.out _ _ (fun h => by cases h) (fun _ => ?_)
    clear hK' K' hC2
    try simp only [Act.put]
    refine Late.one (i := 7) (o := _) (by kernel_rfl) rfl (fun K' hK' => ?_)
    go_simp
    refine hK'.out _ _ (fun h => by cases h) (fun _ => ?_)
    clear hK' K'
    try simp only [Act.put]
    refine Late.done (by kernel_rfl) ?_ _
    go_wp2_with fail
    have H4 := HBR.out.put2 (u := .int .i64 m3) (v := .slice CC t3.length n)
    have c4 := H4.cell 0
    have c4' := H4.cell 1
    refine bodyPost_ret (v := .tuple #[.agg #[.int .i64 m3, .slice CC t3.length n], .int .i64 0]) (by simp [results, Tryd.results28, go_sem, c4, c4']) rfl (SqS.of HQ.out (by rw [HL.out]) ((HE2.out.setCell (by show w.heap.size ≤ w.heap.size + 1 + 1 + 1; omega) _).setCell (by show w.heap.size ≤ w.heap.size + 1 + 1 + 1; omega) _) (((HO2.out.above (Only.set _ _ _ _) hlb).above (Only.set _ _ _ _) hlb).mono hlw (by simp) (Nat.le_refl _)))
  · obtain ⟨z, hzz⟩ : ∃ z, gvC t0 m1 t1 m2 m2 m3 t3 = z := ⟨_, rfl⟩
    have HQ := Lib.hid (emb_no hzz (hzz ▸ hz))
    rw [hzz] at HC hz
    have hzb : (z != 0) = true := by simpa using hz
    clear hz hzz hR hX hF hs hx hf
    go_enter Tryd.func28, Tryd.ntmps28
    go_wp2_with fail
    generalize ((((w.alloc (.cells #[.slice B0 t0.length d0] 33)).alloc (.cells #[.int .i64 m1, .slice B1 t1.length d1] 30)).alloc (.cells #[.int .i64 m3, .slice B3 t3.length d3] 44)).alloc (.cells #[.int .i64 0, .slice none 0 0] 44)) = W0 at *
    refine HC.out.mono ?_
    rintro e W1 ⟨rfl, he1⟩
    have HE1 := Lib.hid (e0.trans he1)
    have HBR := Lib.hid (b3.ex he1)
    have c4 := HBR.out.cell 0
    have c4' := HBR.out.cell 1
    have f4 := HBR.out.free 0
    have f4' := HBR.out.free 1
    clear b0 b1 b2 b3 e0 he1
    go_wp2_with fail
    have H4 := HBR.out.put2 (u := .int .i64 0) (v := .slice none 0 0)
    have c4 := H4.cell 0
    have c4' := H4.cell 1
    refine bodyPost_ret (v := .tuple #[.agg #[.int .i64 0, .slice none 0 0], .int .i64 z]) (by simp [results, Tryd.results28, go_sem, c4, c4']) rfl (SqS.err HQ.out rfl ((HE1.out.setCell (by show w.heap.size ≤ w.heap.size + 1 + 1 + 1; omega) _).setCell (by show w.heap.size ≤ w.heap.size + 1 + 1 + 1; omega) _))

set_option maxRecDepth 100000 in
set_option maxHeartbeats 8000000 in
theorem specReduceCochain_ex (t0 : List (List Int)) (m1 : Int) (t1 : List Int) (m2 m3 : Int) (t3 : List Int) : ∀ (B0 : Option Addr) (d0 : Nat) (B1 : Option Addr) (d1 : Nat) (B3 : Option Addr) (d3 : Nat) (W : World), RwsW W B0 t0 → IntsW W B1 t1 → IntsW W B3 t3 → SmallT t0 → t1.length ≤ 1048576 → t3.length ≤ 1048576 →
    Calls Tryd.prog 34 #[.agg #[.slice B0 t0.length d0], .agg #[.int .i64 m1, .slice B1 t1.length d1], .int .i64 m2, .agg #[.int .i64 m3, .slice B3 t3.length d3]] W (SqS (qReduceCochain0 t0 m1 t1 m2 m3 t3) (yReduceCochain0 t0 m1 t1 m2 m3 t3) (qReduceCochain1 t0 m1 t1 m2 m3 t3) W) := by
  intro B0 d0 B1 d1 B3 d3 w hR hX hF hs hx hf
  have e0 : Ex w ((((w.alloc (.cells #[.slice B0 t0.length d0] 33)).alloc (.cells #[.int .i64 m1, .slice B1 t1.length d1] 30)).alloc (.cells #[.int .i64 m3, .slice B3 t3.length d3] 44)).alloc (.cells #[.int .i64 0, .slice none 0 0] 44)) := ((((Ex.refl w).alloc _).alloc _).alloc _).alloc _
  have b0 : Has ((((w.alloc (.cells #[.slice B0 t0.length d0] 33)).alloc (.cells #[.int .i64 m1, .slice B1 t1.length d1] 30)).alloc (.cells #[.int .i64 m3, .slice B3 t3.length d3] 44)).alloc (.cells #[.int .i64 0, .slice none 0 0] 44)) (w.heap.size) 33 #[.slice B0 t0.length d0] := ((((Has.newAt (w := w) (e := 33) (cs := #[.slice B0 t0.length d0]) (k := w.heap.size) (by simp)).alloc _).alloc _).alloc _)
  have b1 : Has ((((w.alloc (.cells #[.slice B0 t0.length d0] 33)).alloc (.cells #[.int .i64 m1, .slice B1 t1.length d1] 30)).alloc (.cells #[.int .i64 m3, .slice B3 t3.length d3] 44)).alloc (.cells #[.int .i64 0, .slice none 0 0] 44)) (w.heap.size + 1) 30 #[.int .i64 m1, .slice B1 t1.length d1] := (((Has.newAt (w := (w.alloc (.cells #[.slice B0 t0.length d0] 33))) (e := 30) (cs := #[.int .i64 m1, .slice B1 t1.length d1]) (k := w.heap.size + 1) (by simp)).alloc _).alloc _)
  have b2 : Has ((((w.alloc (.cells #[.slice B0 t0.length d0] 33)).alloc (.cells #[.int .i64 m1, .slice B1 t1.length d1] 30)).alloc (.cells #[.int .i64 m3, .slice B3 t3.length d3] 44)).alloc (.cells #[.int .i64 0, .slice none 0 0] 44)) (w.heap.size + 1 + 1) 44 #[.int .i64 m3, .slice B3 t3.length d3] := ((Has.newAt (w := ((w.alloc (.cells #[.slice B0 t0.length d0] 33)).alloc (.cells #[.int .i64 m1, .slice B1 t1.length d1] 30))) (e := 44) (cs := #[.int .i64 m3, .slice B3 t3.length d3]) (k := w.heap.size + 1 + 1) (by simp)).alloc _)
  have b3 : Has ((((w.alloc (.cells #[.slice B0 t0.length d0] 33)).alloc (.cells #[.int .i64 m1, .slice B1 t1.length d1] 30)).alloc (.cells #[.int .i64 m3, .slice B3 t3.length d3] 44)).alloc (.cells #[.int .i64 0, .slice none 0 0] 44)) (w.heap.size + 1 + 1 + 1) 44 #[.int .i64 0, .slice none 0 0] := (Has.newAt (w := (((w.alloc (.cells #[.slice B0 t0.length d0] 33)).alloc (.cells #[.int .i64 m1, .slice B1 t1.length d1] 30)).alloc (.cells #[.int .i64 m3, .slice B3 t3.length d3] 44))) (e := 44) (cs := #[.int .i64 0, .slice none 0 0]) (k := w.heap.size + 1 + 1 + 1) (by simp))
  have HC := Lib.hid (l08Code_any B0 B1 t0 m1 t1 m2 d0 d1 _ (hR.ex e0) (hX.ex e0) hs hx)
  have HL3 := Lib.hid (fun W kb (he : Ex w W) (hk : Has W kb 44 #[.int .i64 m3, .slice B3 t3.length d3]) => l03Code1_ex B0 B1 B3 t0 m1 t1 m3 t3 d0 d1 d3 kb W (hR.ex he) (hX.ex he) (hF.ex he) hs hx hf hk)
  by_cases hsq : sqC t0 m1 t1 m2 = 0
  · rw [hsq] at HC
    obtain ⟨M, K, Q, rfl, rfl, hMF, hS, hgM, -, -⟩ := sqC_f hsq
    rw [show gmcB t0 (M : Int) t1 m3 t3 = cocB t0.length (M : Int) m3 t3 by rw [gmcB, hgM, Bool.true_and]] at HL3
    cases hco : cocB t0.length (M : Int) m3 t3 with
    | true =>
      rw [hco] at HL3
      obtain ⟨d, hd, -, -, hl3, hfr⟩ := coc_f hMF.g.n8 hco
      have HQ := Lib.hid (rec_yes (gvC_yes hsq hco) hS.div)
      have hQM : Q ≤ M := by have := hS.div; rw [← this]; exact Nat.div_le_self _ _
      have hm12 := hMF.m12
      have hk2 := hS.k2
      have hq2 := hS.q2
      have hlt := hS.lt
      have hdv : IntKind.i64.wrap ((M : Int) / (K : Int)) = (Q : Int) := by
        rw [show (M : Int) / (K : Int) = (Q : Int) by rw [← hS.div]; rfl]
        exact IntWalk.i64_in _ (by omega)
      have hdt : Int.tdiv (M : Int) (K : Int) = (Q : Int) := by rw [Int.tdiv_eq_ediv_of_nonneg (by omega), ← hS.div]; rfl
      have hwQ : IntKind.i64.wrap (Q : Int) = (Q : Int) := IntWalk.i64_in _ (by omega)
      have hne : ((K : Int) != 0) = true := by simp; omega
      have hne0 : ¬ K = 0 := by omega
      have HTM := Lib.hid (fun W (he : Ex w W) => l08Rests_any B3 m3 t3 Q d3 W (hF.ex he) hl3 (fun i hi => ⟨(hfr i hi).1, by have := (hfr i hi).2; omega⟩) (by omega) (by omega))
      have HL : Hid ((rsL t3 Q).length = t3.length) := Lib.hid rsL_len
      clear hsq hco hMF hS hgM hd hl3 hfr hR hX hF hs hx hf
      go_enter Tryd.func34, Tryd.ntmps34
      go_wp2_with fail
      generalize ((((w.alloc (.cells #[.slice B0 t0.length d0] 33)).alloc (.cells #[.int .i64 (M : Int), .slice B1 t1.length d1] 30)).alloc (.cells #[.int .i64 m3, .slice B3 t3.length d3] 44)).alloc (.cells #[.int .i64 0, .slice none 0 0] 44)) = W0 at *
      refine HC.out.mono ?_
      rintro e W1 ⟨rfl, he1⟩
      have HE1 := Lib.hid (e0.trans he1)
      have HB0 := Lib.hid (b0.ex he1)
      have HB1 := Lib.hid (b1.ex he1)
      have HB2 := Lib.hid (b2.ex he1)
      have HB3 := Lib.hid (b3.ex he1)
      clear b0 b1 b2 b3 e0 he1
      have a0 := HB0.out.cell 0
      have a1 := HB1.out.cell 0
      have a1' := HB1.out.cell 1
      have a2 := HB2.out.cell 0
      have a2' := HB2.out.cell 1
      go_wp2_with fail
      refine (HL3.out _ W1.heap.size (HE1.out.alloc _) (Has.new W1 44 #[.int .i64 m3, .slice B3 t3.length d3])).mono ?_
      rintro e W2 ⟨rfl, he2⟩
      have HX2 := Lib.hid ((Ex.new W1 (.cells #[.int .i64 m3, .slice B3 t3.length d3] 44)).trans he2)
      have HEE := Lib.hid (HE1.out.trans HX2.out)
      replace HB0 := Lib.hid (HB0.out.ex HX2.out)
      replace HB1 := Lib.hid (HB1.out.ex HX2.out)
      replace HB2 := Lib.hid (HB2.out.ex HX2.out)
      replace HB3 := Lib.hid (HB3.out.ex HX2.out)
      clear he2 a0 a1 a1' a2 a2' HX2
      have hC0 := And.intro (HB1.out.cell 0) (And.intro (HB2.out.cell 0) (HB2.out.cell 1))
      go_wp2_with fail
      refine Late.region (C := fun w' => w'.cell? ⟨w.heap.size + 1, 0, none⟩ = some (.int .i64 (M : Int)) ∧ w'.cell? ⟨w.heap.size + 1 + 1, 0, none⟩ = some (.int .i64 m3) ∧ w'.cell? ⟨w.heap.size + 1 + 1, 1, none⟩ = some (.slice B3 t3.length d3)) (fun j => decide (j < 6)) (by kernel_rfl) hC0 (fun hC => ?_)
      refine Late.take (i := 0) (oi := _) (v := ?_) rfl (by kernel_rfl) (by kernel_rfl) (by kernel_rfl) (by kernel_rfl) (fun _ _ _ h => h) (Or.inl ⟨by rfl, ?_⟩) hC ?_
      rotate_left
      · (intro w hSw; (try dsimp only at hSw); go_simp; first | done | with_reducible rfl)
      simp only [Act.put]
      refine Late.take (i := 1) (oi := _) (v := ?_) rfl (by kernel_rfl) (by kernel_rfl) (by kernel_rfl) (by kernel_rfl) (fun _ _ _ h => h) (Or.inl ⟨by rfl, ?_⟩) hC ?_
      rotate_left
      · (intro w hSw; (try dsimp only at hSw); go_simp; first | done | with_reducible rfl)
      simp only [Act.put]
      refine Late.take (i := 2) (oi := _) (v := ?_) rfl (by kernel_rfl) (by kernel_rfl) (by kernel_rfl) (by kernel_rfl) (fun _ _ _ h => h) (Or.inl ⟨by rfl, ?_⟩) hC ?_
      rotate_left
      · (intro w hSw; (try dsimp only at hSw); go_simp; first | done | with_reducible rfl)
      simp only [Act.put]
      refine Late.take (i := 3) (oi := _) (v := ?_) rfl (by kernel_rfl) (by kernel_rfl) (by kernel_rfl) (by kernel_rfl) (fun _ _ _ h => h) (Or.inl ⟨by rfl, ?_⟩) hC ?_
      rotate_left
      · (intro w hSw; (try dsimp only at hSw); go_simp; first | done | with_reducible rfl)
      simp only [Act.put]
      refine Late.take (i := 4) (oi := _) (v := ?_) rfl (by kernel_rfl) (by kernel_rfl) (by kernel_rfl) (by kernel_rfl) (fun _ _ _ h => h) (Or.inl ⟨by rfl, ?_⟩) hC ?_
      rotate_left
      · (intro w hSw; (try dsimp only at hSw); go_simp; first | done | with_reducible rfl)
      simp only [Act.put]
      refine Late.one (i := 5) (o := _) (by kernel_rfl) rfl (fun K' hK' => ?_)
      go_simp
      refine (HTM.out W2.drew HEE.out.drew).mono ?_
      rintro e W8 ⟨CC, n, rfl, he8, hO⟩
      have he18 : Ex W2 W8 := (Ex.refl W2).drew.trans he8
      have HBR := Lib.hid (HB3.out.ex he18)
      have HE2 := Lib.hid (HEE.out.trans he18)
      have HO2 := Lib.hid hO
      have c4 := HBR.out.cell 0
      have c4' := HBR.out.cell 1
      have f4 := HBR.out.free 0
      have f4' := HBR.out.free 1
      have hlb : w.heap.size + 1 + 1 + 1 < W2.drew.heap.size := HB3.out.lt
      have hlw : w.heap.size ≤ W2.drew.heap.size := HEE.out.size
      have hC2 := And.intro ((HB1.out.ex he18).cell 0) (And.intro ((HB2.out.ex he18).cell 0) ((HB2.out.ex he18).cell 1))
      refine hK'.out _ _ (fun _ => hC2) (fun _ => ?_)
      clear hK' K' hC hC0 he8 he18 hO
      try simp only [Act.put]
      refine Late.one (i := 6) (o := _) (by kernel_rfl) rfl (fun K' hK' => ?_)
      go_simp
      refine hK'.out _ _ (fun h => by cases h) (fun _ => ?_)
      clear hK' K' hC2
      try simp only [Act.put]
      refine Late.one (i := 7) (o := _) (by kernel_rfl) rfl (fun K' hK' => ?_)
      go_simp
      refine hK'.out _ _ (fun h => by cases h) (fun _ => ?_)
      clear hK' K'
      try simp only [Act.put]
      refine Late.done (by kernel_rfl) ?_ _
      go_wp2_with fail
      have H4 := HBR.out.put2 (u := .int .i64 m3) (v := .slice CC t3.length n)
      have c4 := H4.cell 0
      have c4' := H4.cell 1
      refine bodyPost_ret (v := .tuple #[.agg #[.int .i64 m3, .slice CC t3.length n], .int .i64 0]) (by simp [results, Tryd.results34, go_sem, c4, c4']) rfl (SqS.of HQ.out (by rw [HL.out]) ((HE2.out.setCell (by show w.heap.size ≤ w.heap.size + 1 + 1 + 1; omega) _).setCell (by show w.heap.size ≤ w.heap.size + 1 + 1 + 1; omega) _) (((HO2.out.above (Only.set _ _ _ _) hlb).above (Only.set _ _ _ _) hlb).mono hlw (by simp) (Nat.le_refl _)))
    | false =>
      rw [hco] at HL3
      have HQ := Lib.hid (rec_no (gvC_out hsq hco) (by decide))
      clear hsq hco hMF hS hgM hR hX hF hs hx hf
      go_enter Tryd.func34, Tryd.ntmps34
      go_wp2_with fail
      generalize ((((w.alloc (.cells #[.slice B0 t0.length d0] 33)).alloc (.cells #[.int .i64 (M : Int), .slice B1 t1.length d1] 30)).alloc (.cells #[.int .i64 m3, .slice B3 t3.length d3] 44)).alloc (.cells #[.int .i64 0, .slice none 0 0] 44)) = W0 at *
      refine HC.out.mono ?_
      rintro e W1 ⟨rfl, he1⟩
      have HE1 := Lib.hid (e0.trans he1)
      have HB0 := Lib.hid (b0.ex he1)
      have HB1 := Lib.hid (b1.ex he1)
      have HB2 := Lib.hid (b2.ex he1)
      have HB3 := Lib.hid (b3.ex he1)
      clear b0 b1 b2 b3 e0 he1
      have a0 := HB0.out.cell 0
      have a1 := HB1.out.cell 0
      have a1' := HB1.out.cell 1
      have a2 := HB2.out.cell 0
      have a2' := HB2.out.cell 1
      go_wp2_with fail
      refine (HL3.out _ W1.heap.size (HE1.out.alloc _) (Has.new W1 44 #[.int .i64 m3, .slice B3 t3.length d3])).mono ?_
      rintro e W2 ⟨rfl, he2⟩
      have HX2 := Lib.hid ((Ex.new W1 (.cells #[.int .i64 m3, .slice B3 t3.length d3] 44)).trans he2)
      have HEE := Lib.hid (HE1.out.trans HX2.out)
      replace HB0 := Lib.hid (HB0.out.ex HX2.out)
      replace HB1 := Lib.hid (HB1.out.ex HX2.out)
      replace HB2 := Lib.hid (HB2.out.ex HX2.out)
      replace HB3 := Lib.hid (HB3.out.ex HX2.out)
      clear he2 a0 a1 a1' a2 a2' HX2
      have HBR := Lib.hid HB3.out
      have c4 := HBR.out.cell 0
      have c4' := HBR.out.cell 1
      have f4 := HBR.out.free 0
      have f4' := HBR.out.free 1
      go_wp2_with fail
      have H4 := HBR.out.put2 (u := .int .i64 0) (v := .slice none 0 0)
      have c4 := H4.cell 0
      have c4' := H4.cell 1
      refine bodyPost_ret (v := .tuple #[.agg #[.int .i64 0, .slice none 0 0], .int .i64 1]) (by simp [results, Tryd.results34, go_sem, c4, c4']) rfl (SqS.err HQ.out rfl ((HEE.out.setCell (by show w.heap.size ≤ w.heap.size + 1 + 1 + 1; omega) _).setCell (by show w.heap.size ≤ w.heap.size + 1 + 1 + 1; omega) _))
  · obtain ⟨z, hzz⟩ : ∃ z, sqC t0 m1 t1 m2 = z := ⟨_, rfl⟩
    have HQ := Lib.hid (rec_no (gvC_no (m' := m1) (n := m3) (fs := t3) hzz (hzz ▸ hsq)) (hzz ▸ hsq))
    rw [hzz] at HC hsq
    have hzb : (z != 0) = true := by simpa using hsq
    clear hsq hzz HL3 hR hX hF hs hx hf
    go_enter Tryd.func34, Tryd.ntmps34
    go_wp2_with fail
    generalize ((((w.alloc (.cells #[.slice B0 t0.length d0] 33)).alloc (.cells #[.int .i64 m1, .slice B1 t1.length d1] 30)).alloc (.cells #[.int .i64 m3, .slice B3 t3.length d3] 44)).alloc (.cells #[.int .i64 0, .slice none 0 0] 44)) = W0 at *
    refine HC.out.mono ?_
    rintro e W1 ⟨rfl, he1⟩
    have HE1 := Lib.hid (e0.trans he1)
    have HB0 := Lib.hid (b0.ex he1)
    have HB1 := Lib.hid (b1.ex he1)
    have HB2 := Lib.hid (b2.ex he1)
    have HB3 := Lib.hid (b3.ex he1)
    clear b0 b1 b2 b3 e0 he1
    have HBR := Lib.hid HB3.out
    have c4 := HBR.out.cell 0
    have c4' := HBR.out.cell 1
    have f4 := HBR.out.free 0
    have f4' := HBR.out.free 1
    go_wp2_with fail
    have H4 := HBR.out.put2 (u := .int .i64 0) (v := .slice none 0 0)
    have c4 := H4.cell 0
    have c4' := H4.cell 1
    refine bodyPost_ret (v := .tuple #[.agg #[.int .i64 0, .slice none 0 0], .int .i64 z]) (by simp [results, Tryd.results34, go_sem, c4, c4']) rfl (SqS.err HQ.out rfl ((HE1.out.setCell (by show w.heap.size ≤ w.heap.size + 1 + 1 + 1; omega) _).setCell (by show w.heap.size ≤ w.heap.size + 1 + 1 + 1; omega) _))

end Go.Proofs.YtllkaoacfchibaaDoor
