/- Chapter 8: LiftCochain, the specification's contract. -/
import Derived.Test.YtllkaoacfchibaaDoorWg
import Derived.Test.YtllkaoacfchibaaDoorWk
namespace Go.Proofs.YtllkaoacfchibaaDoor
open Go.RowKit

set_option maxRecDepth 100000 in
set_option maxHeartbeats 8000000 in
theorem specLiftCochain_ex (t0 : List (List Int)) (m1 : Int) (t1 : List Int) (m2 m3 : Int) (t3 : List Int) : ∀ (B0 : Option Addr) (d0 : Nat) (B1 : Option Addr) (d1 : Nat) (B3 : Option Addr) (d3 : Nat) (W : World), RwsW W B0 t0 → IntsW W B1 t1 → IntsW W B3 t3 → SmallT t0 → t1.length ≤ 1048576 → t3.length ≤ 1048576 →
    Calls Tryd.prog 36 #[.agg #[.slice B0 t0.length d0], .agg #[.int .i64 m1, .slice B1 t1.length d1], .int .i64 m2, .agg #[.int .i64 m3, .slice B3 t3.length d3]] W (SqS (qLiftCochain0 t0 m1 t1 m2 m3 t3) (yLiftCochain0 t0 m1 t1 m2 m3 t3) (qLiftCochain1 t0 m1 t1 m2 m3 t3) W) := by
  intro B0 d0 B1 d1 B3 d3 w hR hX hF hs hx hf
  have e0 : Ex w ((((w.alloc (.cells #[.slice B0 t0.length d0] 33)).alloc (.cells #[.int .i64 m1, .slice B1 t1.length d1] 30)).alloc (.cells #[.int .i64 m3, .slice B3 t3.length d3] 44)).alloc (.cells #[.int .i64 0, .slice none 0 0] 44)) := ((((Ex.refl w).alloc _).alloc _).alloc _).alloc _
  have b0 : Has ((((w.alloc (.cells #[.slice B0 t0.length d0] 33)).alloc (.cells #[.int .i64 m1, .slice B1 t1.length d1] 30)).alloc (.cells #[.int .i64 m3, .slice B3 t3.length d3] 44)).alloc (.cells #[.int .i64 0, .slice none 0 0] 44)) (w.heap.size) 33 #[.slice B0 t0.length d0] := ((((Has.newAt (w := w) (e := 33) (cs := #[.slice B0 t0.length d0]) (k := w.heap.size) (by simp)).alloc _).alloc _).alloc _)
  have b1 : Has ((((w.alloc (.cells #[.slice B0 t0.length d0] 33)).alloc (.cells #[.int .i64 m1, .slice B1 t1.length d1] 30)).alloc (.cells #[.int .i64 m3, .slice B3 t3.length d3] 44)).alloc (.cells #[.int .i64 0, .slice none 0 0] 44)) (w.heap.size + 1) 30 #[.int .i64 m1, .slice B1 t1.length d1] := (((Has.newAt (w := (w.alloc (.cells #[.slice B0 t0.length d0] 33))) (e := 30) (cs := #[.int .i64 m1, .slice B1 t1.length d1]) (k := w.heap.size + 1) (by simp)).alloc _).alloc _)
  have b2 : Has ((((w.alloc (.cells #[.slice B0 t0.length d0] 33)).alloc (.cells #[.int .i64 m1, .slice B1 t1.length d1] 30)).alloc (.cells #[.int .i64 m3, .slice B3 t3.length d3] 44)).alloc (.cells #[.int .i64 0, .slice none 0 0] 44)) (w.heap.size + 1 + 1) 44 #[.int .i64 m3, .slice B3 t3.length d3] := ((Has.newAt (w := ((w.alloc (.cells #[.slice B0 t0.length d0] 33)).alloc (.cells #[.int .i64 m1, .slice B1 t1.length d1] 30))) (e := 44) (cs := #[.int .i64 m3, .slice B3 t3.length d3]) (k := w.heap.size + 1 + 1) (by simp)).alloc _)
  have b3 : Has ((((w.alloc (.cells #[.slice B0 t0.length d0] 33)).alloc (.cells #[.int .i64 m1, .slice B1 t1.length d1] 30)).alloc (.cells #[.int .i64 m3, .slice B3 t3.length d3] 44)).alloc (.cells #[.int .i64 0, .slice none 0 0] 44)) (w.heap.size + 1 + 1 + 1) 44 #[.int .i64 0, .slice none 0 0] := (Has.newAt (w := (((w.alloc (.cells #[.slice B0 t0.length d0] 33)).alloc (.cells #[.int .i64 m1, .slice B1 t1.length d1] 30)).alloc (.cells #[.int .i64 m3, .slice B3 t3.length d3] 44))) (e := 44) (cs := #[.int .i64 0, .slice none 0 0]) (k := w.heap.size + 1 + 1 + 1) (by simp))
  obtain ⟨x, hxx⟩ : ∃ x : Int, (if m2 < 1 then 1 else m2) = x := ⟨_, rfl⟩
  have hx1 : 1 ≤ x := by rw [← hxx]; split <;> omega
  have hne : (x != 0) = true := by simp; omega
  have hne0 : ¬ x = 0 := by omega
  obtain ⟨y, hy⟩ : ∃ y, IntKind.i64.wrap (Int.tdiv m1 x) = y := ⟨_, rfl⟩
  have hyo : sqC t0 m1 t1 m2 = 0 → y = ouN m1 m2 := fun h => by
    obtain ⟨M, K, Q, rfl, rfl, hMF, hS, -⟩ := sqC_f h
    have hk2 := hS.k2
    have hQM : Q ≤ M := by have := hS.div; rw [← this]; exact Nat.div_le_self _ _
    have hm12 := hMF.m12
    have hxk : x = (K : Int) := by rw [← hxx, if_neg (by omega)]
    rw [← hy, hxk, Int.tdiv_eq_ediv_of_nonneg (by omega), show (M : Int) / (K : Int) = (Q : Int) by rw [← hS.div]; rfl, ouN_eq hS]
    exact IntWalk.i64_in _ (by omega)
  have hC := l08Given_any B0 B1 B3 t0 m1 t1 m2 y m3 t3 d0 d1 d3
  have HC := Lib.hid (fun W (he : Ex w W) => hC W (hR.ex he) (hX.ex he) (hF.ex he) hs hx hf (fun h => by
    have hyy := hyo h
    obtain ⟨M, K, Q, rfl, rfl, hMF, hS, -, -, hgQ⟩ := sqC_f h
    have hQM : Q ≤ M := by have := hS.div; rw [← this]; exact Nat.div_le_self _ _
    rw [ouN_eq hS] at hyy
    exact ⟨Q, hyy, hS.q2, by have := hMF.m12; omega, hgQ⟩))
  rw [show gvC t0 m1 t1 m2 y m3 t3 = gvC t0 m1 t1 m2 (ouN m1 m2) m3 t3 from gvC_congr hyo] at HC
  have HCF := Lib.hid (fun (W : World) (he : Ex _ W) => And.intro ((b0.ex he).cell 0) (And.intro ((b1.ex he).cell 0) (And.intro ((b1.ex he).cell 1) (And.intro ((b2.ex he).cell 0) ((b2.ex he).cell 1)))))
  have HE0 := Lib.hid e0
  have HB2 := Lib.hid b2
  have HB3 := Lib.hid b3
  have hlb := b3.lt
  have hlw := e0.size
  have HTM := Lib.hid (fun (hz : gvC t0 m1 t1 m2 (ouN m1 m2) m3 t3 = 0) W (he : Ex w W) => (by
    have hsh : ShortL m3 t3 := by
      obtain ⟨M, K, Q, rfl, rfl, hMF, hS, -⟩ := sqC_f (gvC_f hz).1
      have hQM : Q ≤ M := by have := hS.div; rw [← this]; exact Nat.div_le_self _ _
      exact short_of hz (ouN_eq hS) (by have := hMF.m12; omega)
    have h := l08Times_any B3 m3 t3 1 d3 W (hF.ex he) hsh.1 hsh.2 (by decide)
    rw [tmL_one] at h
    exact h : Calls Tryd.prog 65 #[.agg #[.int .i64 m3, .slice B3 t3.length d3], .int .i64 ((1 : Nat) : Int)] W fun e w' => ∃ C0 n0, e = .returned (.agg #[.int .i64 m3, .slice C0 t3.length n0]) ∧ Ex W w' ∧ OwnL w' W.heap.size w'.heap.size C0 t3))
  have HXX := Lib.hid hxx
  clear hxx hC hyo hR hX hF hs hx hf b0 b1 b2 b3 e0
  go_enter Tryd.func36, Tryd.ntmps36
  go_wp2_with fail
  generalize ((((w.alloc (.cells #[.slice B0 t0.length d0] 33)).alloc (.cells #[.int .i64 m1, .slice B1 t1.length d1] 30)).alloc (.cells #[.int .i64 m3, .slice B3 t3.length d3] 44)).alloc (.cells #[.int .i64 0, .slice none 0 0] 44)) = W0 at *
  have hC0 := HCF.out W0 (Ex.refl _)
  refine Late.region (C := fun w' => w'.cell? ⟨w.heap.size, 0, none⟩ = some (.slice B0 t0.length d0) ∧ w'.cell? ⟨w.heap.size + 1, 0, none⟩ = some (.int .i64 m1) ∧ w'.cell? ⟨w.heap.size + 1, 1, none⟩ = some (.slice B1 t1.length d1) ∧ w'.cell? ⟨w.heap.size + 1 + 1, 0, none⟩ = some (.int .i64 m3) ∧ w'.cell? ⟨w.heap.size + 1 + 1, 1, none⟩ = some (.slice B3 t3.length d3)) (fun j => decide (j < 10)) (by kernel_rfl) hC0 (fun hC => ?_)
  refine Late.take (i := 0) (oi := _) (v := ?_) rfl (by kernel_rfl) (by kernel_rfl) (by kernel_rfl) (by kernel_rfl) (fun _ _ _ h => h) (Or.inl ⟨by rfl, ?_⟩) hC ?_
  rotate_left
  · (intro w hSw; (try dsimp only at hSw); go_simp; first | done | with_reducible rfl)
  simp only [Act.put]
  refine Late.take (i := 1) (oi := _) (v := ?_) rfl (by kernel_rfl) (by kernel_rfl) (by kernel_rfl) (by kernel_rfl) (fun _ _ _ h => h) (Or.inl ⟨by rfl, ?_⟩) hC ?_
  rotate_left
  · (intro w hSw; (try dsimp only at hSw); go_simp; first | done | with_reducible rfl)
  simp only [Act.put]
  refine Late.take (i := 2) (oi := _) (v := ?_) rfl (by kernel_rfl) (by kernel_rfl) (by kernel_rfl) (by kernel_rfl) (fun _ _ _ h => h) (Or.inl ⟨by rfl, ?_⟩) hC ?_
  rotate_left
  · (intro w hSw; (try dsimp only at hSw); go_simp; first | done | with_reducible rfl)
  simp only [Act.put]
  refine Late.take (i := 3) (oi := _) (v := ?_) rfl (by kernel_rfl) (by kernel_rfl) (by kernel_rfl) (by kernel_rfl) (fun _ _ _ h => h) (Or.inl ⟨by rfl, ?_⟩) hC ?_
  rotate_left
  · (intro w hSw; (try dsimp only at hSw); go_simp; first | done | with_reducible rfl)
  simp only [Act.put]
  refine Late.take (i := 4) (oi := _) (v := ?_) rfl (by kernel_rfl) (by kernel_rfl) (by kernel_rfl) (by kernel_rfl) (fun _ _ _ h => h) (Or.inl ⟨by rfl, ?_⟩) hC ?_
  rotate_left
  · (intro w hSw; (try dsimp only at hSw); go_simp; first | done | with_reducible rfl)
  simp only [Act.put]
  refine Late.take (i := 5) (oi := _) (v := ?_) rfl (by kernel_rfl) (by kernel_rfl) (by kernel_rfl) (by kernel_rfl) (fun _ _ _ h => h) (Or.inl ⟨by rfl, ?_⟩) hC ?_
  rotate_left
  · (intro w hSw; (try dsimp only at hSw); go_simp; first | done | with_reducible rfl)
  simp only [Act.put]
  refine Late.take (i := 8) (oi := _) (v := ?_) rfl (by kernel_rfl) (by kernel_rfl) (by kernel_rfl) (by kernel_rfl) (fun _ _ _ h => h) (Or.inl ⟨by rfl, ?_⟩) hC ?_
  rotate_left
  · (intro w hSw; (try dsimp only at hSw); go_simp; first | done | with_reducible rfl)
  simp only [Act.put]
  refine Late.one (i := 6) (o := _) (by kernel_rfl) rfl (fun K' hK' => ?_)
  go_simp
  rw [HXX.out]
  refine hK'.out _ _ (fun _ => hC0) (fun _ => ?_)
  clear hK' K'
  try simp only [Act.put]
  refine Late.one (i := 7) (o := _) (by kernel_rfl) rfl (fun K' hK' => ?_)
  go_simp
  refine hK'.out _ _ (fun _ => hC0) (fun _ => ?_)
  clear hK' K'
  try simp only [Act.put]
  refine Late.one (i := 9) (o := _) (by kernel_rfl) rfl (fun K' hK' => ?_)
  go_simp
  refine (HC.out W0.drew HE0.out.drew).mono ?_
  rintro e W1 ⟨rfl, he1⟩
  have hx01 : Ex W0 W1 := (Ex.refl W0).drew.trans he1
  have hC1 := HCF.out W1 hx01
  have HE1 := Lib.hid (HE0.out.trans hx01)
  have HB21 := Lib.hid (HB2.out.ex hx01)
  have HB31 := Lib.hid (HB3.out.ex hx01)
  have hs1 := hx01.size
  refine hK'.out _ _ (fun _ => hC1) (fun _ => ?_)
  clear hK' K' hC hC0 he1 hx01
  try simp only [Act.put]
  refine Late.one (i := 10) (o := _) (by kernel_rfl) rfl (fun K' hK' => ?_)
  go_simp
  refine hK'.out _ _ (fun h => by cases h) (fun _ => ?_)
  clear hK' K' hC1
  try simp only [Act.put]
  refine Late.done (by kernel_rfl) ?_ _
  by_cases hz : gvC t0 m1 t1 m2 (ouN m1 m2) m3 t3 = 0
  · have HQ := Lib.hid (lif_yes hz)
    have HT := Lib.hid (HTM.out hz W1 HE1.out)
    rw [hz]
    have a0 := HB21.out.cell 0
    have a1 := HB21.out.cell 1
    clear hz HTM
    go_wp2_with fail
    refine HT.out.mono ?_
    rintro e W2 ⟨CC, n, rfl, he2, hO⟩
    have HBR := Lib.hid (HB31.out.ex he2)
    have HE2 := Lib.hid (HE1.out.trans he2)
    have HO := Lib.hid hO
    have c4 := HBR.out.cell 0
    have c4' := HBR.out.cell 1
    have f4 := HBR.out.free 0
    have f4' := HBR.out.free 1
    have hlt : w.heap.size + 1 + 1 + 1 < W1.heap.size := by omega
    clear he2 hO a0 a1 HT
    go_wp2_with fail
    have H4 := HBR.out.put2 (u := .int .i64 m3) (v := .slice CC t3.length n)
    have c4 := H4.cell 0
    have c4' := H4.cell 1
    refine bodyPost_ret (v := .tuple #[.agg #[.int .i64 m3, .slice CC t3.length n], .int .i64 0]) (by simp [results, Tryd.results36, go_sem, c4, c4']) rfl (SqS.of HQ.out rfl ((HE2.out.setCell (by show w.heap.size ≤ w.heap.size + 1 + 1 + 1; omega) _).setCell (by show w.heap.size ≤ w.heap.size + 1 + 1 + 1; omega) _) (((HO.out.above (Only.set _ _ _ _) hlt).above (Only.set _ _ _ _) hlt).mono HE1.out.size (by simp) (Nat.le_refl _)))
  · obtain ⟨z, hzz⟩ : ∃ z, gvC t0 m1 t1 m2 (ouN m1 m2) m3 t3 = z := ⟨_, rfl⟩
    have HQ := Lib.hid (lif_no hzz (hzz ▸ hz))
    rw [hzz] at hz ⊢
    have hzb : (z != 0) = true := by simpa using hz
    have HBR := Lib.hid HB31.out
    have c4 := HBR.out.cell 0
    have c4' := HBR.out.cell 1
    have f4 := HBR.out.free 0
    have f4' := HBR.out.free 1
    clear hz hzz HTM
    go_wp2_with fail
    have H4 := HBR.out.put2 (u := .int .i64 0) (v := .slice none 0 0)
    have c4 := H4.cell 0
    have c4' := H4.cell 1
    refine bodyPost_ret (v := .tuple #[.agg #[.int .i64 0, .slice none 0 0], .int .i64 z]) (by simp [results, Tryd.results36, go_sem, c4, c4']) rfl (SqS.err HQ.out rfl ((HE1.out.setCell (by show w.heap.size ≤ w.heap.size + 1 + 1 + 1; omega) _).setCell (by show w.heap.size ≤ w.heap.size + 1 + 1 + 1; omega) _))

end Go.Proofs.YtllkaoacfchibaaDoor
