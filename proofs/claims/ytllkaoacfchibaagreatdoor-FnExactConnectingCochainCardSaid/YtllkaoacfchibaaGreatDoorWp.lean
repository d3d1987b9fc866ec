/- Chapter 8: ConnectingCochain, the specification's contract. -/
import Derived.Test.YtllkaoacfchibaaGreatDoorWn
import Derived.Test.YtllkaoacfchibaaGreatDoorWk
import Derived.Test.YtllkaoacfchibaaGreatDoorSh
namespace Go.Proofs.YtllkaoacfchibaaGreatDoor
open Go.RowKit

set_option maxRecDepth 100000 in
set_option maxHeartbeats 8000000 in
theorem specConnectingCochain_ex (t0 : List (List Int)) (m1 : Int) (t1 : List Int) (m2 m3 : Int) (t3 : List Int) : ∀ (B0 : Option Addr) (d0 : Nat) (B1 : Option Addr) (d1 : Nat) (B3 : Option Addr) (d3 : Nat) (W : World), RwsW W B0 t0 → IntsW W B1 t1 → IntsW W B3 t3 → SmallT t0 → t1.length ≤ 1048576 → t3.length ≤ 1048576 →
    Calls Tryz.prog 12 #[.agg #[.slice B0 t0.length d0], .agg #[.int .i64 m1, .slice B1 t1.length d1], .int .i64 m2, .agg #[.int .i64 m3, .slice B3 t3.length d3]] W (SqS (qConnectingCochain0 t0 m1 t1 m2 m3 t3) (yConnectingCochain0 t0 m1 t1 m2 m3 t3) (qConnectingCochain1 t0 m1 t1 m2 m3 t3) W) := by
  intro B0 d0 B1 d1 B3 d3 w hR hX hF hs hx hf
  have e0 : Ex w ((((w.alloc (.cells #[.slice B0 t0.length d0] 36)).alloc (.cells #[.int .i64 m1, .slice B1 t1.length d1] 38)).alloc (.cells #[.int .i64 m3, .slice B3 t3.length d3] 33)).alloc (.cells #[.int .i64 0, .slice none 0 0] 33)) := ((((Ex.refl w).alloc _).alloc _).alloc _).alloc _
  have b0 : Has ((((w.alloc (.cells #[.slice B0 t0.length d0] 36)).alloc (.cells #[.int .i64 m1, .slice B1 t1.length d1] 38)).alloc (.cells #[.int .i64 m3, .slice B3 t3.length d3] 33)).alloc (.cells #[.int .i64 0, .slice none 0 0] 33)) (w.heap.size) 36 #[.slice B0 t0.length d0] := ((((Has.newAt (w := w) (e := 36) (cs := #[.slice B0 t0.length d0]) (k := w.heap.size) (by simp)).alloc _).alloc _).alloc _)
  have b1 : Has ((((w.alloc (.cells #[.slice B0 t0.length d0] 36)).alloc (.cells #[.int .i64 m1, .slice B1 t1.length d1] 38)).alloc (.cells #[.int .i64 m3, .slice B3 t3.length d3] 33)).alloc (.cells #[.int .i64 0, .slice none 0 0] 33)) (w.heap.size + 1) 38 #[.int .i64 m1, .slice B1 t1.length d1] := (((Has.newAt (w := (w.alloc (.cells #[.slice B0 t0.length d0] 36))) (e := 38) (cs := #[.int .i64 m1, .slice B1 t1.length d1]) (k := w.heap.size + 1) (by simp)).alloc _).alloc _)
  have b2 : Has ((((w.alloc (.cells #[.slice B0 t0.length d0] 36)).alloc (.cells #[.int .i64 m1, .slice B1 t1.length d1] 38)).alloc (.cells #[.int .i64 m3, .slice B3 t3.length d3] 33)).alloc (.cells #[.int .i64 0, .slice none 0 0] 33)) (w.heap.size + 1 + 1) 33 #[.int .i64 m3, .slice B3 t3.length d3] := ((Has.newAt (w := ((w.alloc (.cells #[.slice B0 t0.length d0] 36)).alloc (.cells #[.int .i64 m1, .slice B1 t1.length d1] 38))) (e := 33) (cs := #[.int .i64 m3, .slice B3 t3.length d3]) (k := w.heap.size + 1 + 1) (by simp)).alloc _)
  have b3 : Has ((((w.alloc (.cells #[.slice B0 t0.length d0] 36)).alloc (.cells #[.int .i64 m1, .slice B1 t1.length d1] 38)).alloc (.cells #[.int .i64 m3, .slice B3 t3.length d3] 33)).alloc (.cells #[.int .i64 0, .slice none 0 0] 33)) (w.heap.size + 1 + 1 + 1) 33 #[.int .i64 0, .slice none 0 0] := (Has.newAt (w := (((w.alloc (.cells #[.slice B0 t0.length d0] 36)).alloc (.cells #[.int .i64 m1, .slice B1 t1.length d1] 38)).alloc (.cells #[.int .i64 m3, .slice B3 t3.length d3] 33))) (e := 33) (cs := #[.int .i64 0, .slice none 0 0]) (k := w.heap.size + 1 + 1 + 1) (by simp))
  obtain ⟨x, hxx⟩ : ∃ x : Int, (if m2 < 1 then 1 else m2) = x := ⟨_, rfl⟩
  have hx1 : 1 ≤ x := by rw [← hxx]; split <;> omega
  have hne : (x != 0) = true := by simp; omega
  have hne0 : ¬ x = 0 := by omega
  obtain ⟨y, hy⟩ : ∃ y, IntKind.i64.wrap (Int.tdiv m1 x) = y := ⟨_, rfl⟩
  have hyo : sqC t0 m1 t1 m2 = 0 → y = ouN m1 m2 := fun h => by
    obtain ⟨M, K, Q, rfl, rfl, hMF, hS, -⟩ := sqC_f h
    have hk2 := hS.k2
    have hQM : Q ≤ M := by have := hS.div; rw [← this]; exact Nat.div_le_self _ _
    have hm12 := hMF.m12
    have hxk : x = (K : Int) := by rw [← hxx, if_neg (by omega)]
    rw [← hy, hxk, Int.tdiv_eq_ediv_of_nonneg (by omega), show (M : Int) / (K : Int) = (Q : Int) by rw [← hS.div]; rfl, ouN_eq hS]
    exact IntWalk.i64_in _ (by omega)
  have hC := l08Given_any B0 B1 B3 t0 m1 t1 m2 y m3 t3 d0 d1 d3
  have HC := Lib.hid (fun W (he : Ex w W) => hC W (hR.ex he) (hX.ex he) (hF.ex he) hs hx hf (fun h => by
    have hyy := hyo h
    obtain ⟨M, K, Q, rfl, rfl, hMF, hS, -, -, hgQ⟩ := sqC_f h
    have hQM : Q ≤ M := by have := hS.div; rw [← this]; exact Nat.div_le_self _ _
    rw [ouN_eq hS] at hyy
    exact ⟨Q, hyy, hS.q2, by have := hMF.m12; omega, hgQ⟩))
  rw [show gvC t0 m1 t1 m2 y m3 t3 = gvC t0 m1 t1 m2 (ouN m1 m2) m3 t3 from gvC_congr hyo] at HC
  have HCF := Lib.hid (fun (W : World) (he : Ex _ W) => And.intro ((b0.ex he).cell 0) (And.intro ((b1.ex he).cell 0) (And.intro ((b1.ex he).cell 1) (And.intro ((b2.ex he).cell 0) ((b2.ex he).cell 1)))))
  have HE0 := Lib.hid e0
  have HB2 := Lib.hid b2
  have HB3 := Lib.hid b3
  have hlb := b3.lt
  have hlw := e0.size
  have HRR := Lib.hid (fun W (he : Ex w W) => hR.ex he)
  have HXI := Lib.hid (fun W (he : Ex w W) => hX.ex he)
  have HFF := Lib.hid (fun W (he : Ex w W) => hF.ex he)
  have HB0 := Lib.hid b0
  have HB1 := Lib.hid b1
  have HXX := Lib.hid hxx
  clear hxx hC hyo hR hX hF hs hx hf b0 b1 b2 b3 e0
  go_enter Tryz.func12, Tryz.ntmps12
  go_wp2_with fail
  generalize ((((w.alloc (.cells #[.slice B0 t0.length d0] 36)).alloc (.cells #[.int .i64 m1, .slice B1 t1.length d1] 38)).alloc (.cells #[.int .i64 m3, .slice B3 t3.length d3] 33)).alloc (.cells #[.int .i64 0, .slice none 0 0] 33)) = W0 at *
  have hC0 := HCF.out W0 (Ex.refl _)
  refine Late.region (C := fun w' => w'.cell? ⟨w.heap.size, 0, none⟩ = some (.slice B0 t0.length d0) ∧ w'.cell? ⟨w.heap.size + 1, 0, none⟩ = some (.int .i64 m1) ∧ w'.cell? ⟨w.heap.size + 1, 1, none⟩ = some (.slice B1 t1.length d1) ∧ w'.cell? ⟨w.heap.size + 1 + 1, 0, none⟩ = some (.int .i64 m3) ∧ w'.cell? ⟨w.heap.size + 1 + 1, 1, none⟩ = some (.slice B3 t3.length d3)) (fun j => decide (j < 10)) (by kernel_rfl) hC0 (fun hC => ?_)
  refine Late.take (i := 0) (oi := ⟨_, _, _, _, _, _⟩) (v := ?_) rfl (by kernel_rfl) (by kernel_rfl) (by kernel_rfl) (by kernel_rfl) (fun _ _ _ h => h) (Or.inl ⟨by rfl, ?_⟩) hC ?_
  rotate_left
  · (intro w hSw; (try dsimp only at hSw); go_simp; first | done | with_reducible rfl)
  simp only [Act.put]
  refine Late.take (i := 1) (oi := ⟨_, _, _, _, _, _⟩) (v := ?_) rfl (by kernel_rfl) (by kernel_rfl) (by kernel_rfl) (by kernel_rfl) (fun _ _ _ h => h) (Or.inl ⟨by rfl, ?_⟩) hC ?_
  rotate_left
  · (intro w hSw; (try dsimp only at hSw); go_simp; first | done | with_reducible rfl)
  simp only [Act.put]
  refine Late.take (i := 2) (oi := ⟨_, _, _, _, _, _⟩) (v := ?_) rfl (by kernel_rfl) (by kernel_rfl) (by kernel_rfl) (by kernel_rfl) (fun _ _ _ h => h) (Or.inl ⟨by rfl, ?_⟩) hC ?_
  rotate_left
  · (intro w hSw; (try dsimp only at hSw); go_simp; first | done | with_reducible rfl)
  simp only [Act.put]
  refine Late.take (i := 3) (oi := ⟨_, _, _, _, _, _⟩) (v := ?_) rfl (by kernel_rfl) (by kernel_rfl) (by kernel_rfl) (by kernel_rfl) (fun _ _ _ h => h) (Or.inl ⟨by rfl, ?_⟩) hC ?_
  rotate_left
  · (intro w hSw; (try dsimp only at hSw); go_simp; first | done | with_reducible rfl)
  simp only [Act.put]
  refine Late.take (i := 4) (oi := ⟨_, _, _, _, _, _⟩) (v := ?_) rfl (by kernel_rfl) (by kernel_rfl) (by kernel_rfl) (by kernel_rfl) (fun _ _ _ h => h) (Or.inl ⟨by rfl, ?_⟩) hC ?_
  rotate_left
  · (intro w hSw; (try dsimp only at hSw); go_simp; first | done | with_reducible rfl)
  simp only [Act.put]
  refine Late.take (i := 5) (oi := ⟨_, _, _, _, _, _⟩) (v := ?_) rfl (by kernel_rfl) (by kernel_rfl) (by kernel_rfl) (by kernel_rfl) (fun _ _ _ h => h) (Or.inl ⟨by rfl, ?_⟩) hC ?_
  rotate_left
  · (intro w hSw; (try dsimp only at hSw); go_simp; first | done | with_reducible rfl)
  simp only [Act.put]
  refine Late.take (i := 8) (oi := ⟨_, _, _, _, _, _⟩) (v := ?_) rfl (by kernel_rfl) (by kernel_rfl) (by kernel_rfl) (by kernel_rfl) (fun _ _ _ h => h) (Or.inl ⟨by rfl, ?_⟩) hC ?_
  rotate_left
  · (intro w hSw; (try dsimp only at hSw); go_simp; first | done | with_reducible rfl)
  simp only [Act.put]
  refine Late.one (i := 6) (o := _) (by kernel_rfl) rfl (fun K' hK' => ?_)
  go_simp
  rw [HXX.out]
  refine hK'.out _ _ (fun _ => hC0) (fun _ => ?_)
  clear hK' K'
  try simp only [Act.put]
  refine Late.one (i := 7) (o := _) (by kernel_rfl) rfl (fun K' hK' => ?_)
  go_simp
  refine hK'.out _ _ (fun _ => hC0) (fun _ => ?_)
  clear hK' K'
  try simp only [Act.put]
  refine Late.one (i := 9) (o := _) (by kernel_rfl) rfl (fun K' hK' => ?_)
  go_simp
  refine (HC.out W0.drew HE0.out.drew).mono ?_
  rintro e W1 ⟨rfl, he1⟩
  have hx01 : Ex W0 W1 := (Ex.refl W0).drew.trans he1
  have hC1 := HCF.out W1 hx01
  have HE1 := Lib.hid (HE0.out.trans hx01)
  have HB01 := Lib.hid (HB0.out.ex hx01)
  have HB11 := Lib.hid (HB1.out.ex hx01)
  have HB21 := Lib.hid (HB2.out.ex hx01)
  have HB31 := Lib.hid (HB3.out.ex hx01)
  have hs1 := hx01.size
  refine hK'.out _ _ (fun _ => hC1) (fun _ => ?_)
  clear hK' K' hC hC0 he1 hx01
  try simp only [Act.put]
  refine Late.one (i := 10) (o := _) (by kernel_rfl) rfl (fun K' hK' => ?_)
  go_simp
  refine hK'.out _ _ (fun h => by cases h) (fun _ => ?_)
  clear hK' K' hC1
  try simp only [Act.put]
  refine Late.done (by kernel_rfl) ?_ _
  have a2 := HB21.out.cell 0
  by_cases hz : gvC t0 m1 t1 m2 (ouN m1 m2) m3 t3 = 0
  · rw [hz]
    obtain ⟨hsq, hco⟩ := gvC_f hz
    obtain ⟨M, K, Q, rfl, rfl, hMF, hS, -, -, hgQ⟩ := sqC_f hsq
    rw [ouN_eq hS] at hco
    obtain ⟨d, rfl, hd3, hlen, h343, hfr⟩ := coc_f hMF.g.n8 hco
    by_cases h2 : 2 < (d : Int)
    · have HQ := Lib.hid (con_no (cnC_deg hz h2) (by decide))
      clear hz hsq hco hMF hS hgQ hlen h343 hfr
      go_wp2_with fail
      refine Late.region (C := fun _ => True) (fun _ => true) (by kernel_rfl) True.intro (fun hC => ?_)
      refine Late.take (i := 0) (oi := ⟨_, _, _, _, _, _⟩) (v := ?_) rfl (by kernel_rfl) (by kernel_rfl) (by kernel_rfl) (by kernel_rfl) (fun _ _ _ h => h) (Or.inl ⟨by kernel_rfl, ?_⟩) hC ?_
      rotate_left
      · (intro w hSw; (try dsimp only at hSw); go_simp; first | done | with_reducible rfl)
      simp only [Act.put]
      refine Late.take (i := 1) (oi := ⟨_, _, _, _, _, _⟩) (v := ?_) rfl (by kernel_rfl) (by kernel_rfl) (by kernel_rfl) (by kernel_rfl) (fun _ _ _ h => h) (Or.inl ⟨by kernel_rfl, ?_⟩) hC ?_
      rotate_left
      · (intro w hSw; (try dsimp only at hSw); go_simp; first | done | with_reducible rfl)
      simp only [Act.put]
      refine Late.take (i := 2) (oi := ⟨_, _, _, _, _, _⟩) (v := ?_) rfl (by kernel_rfl) (by kernel_rfl) (by kernel_rfl) (by kernel_rfl) (fun _ _ _ h => h) (Or.inl ⟨by kernel_rfl, ?_⟩) hC ?_
      rotate_left
      · (intro w hSw; (try dsimp only at hSw); go_simp; first | done | with_reducible rfl)
      simp only [Act.put]
      refine Late.take (i := 3) (oi := ⟨_, _, _, _, _, _⟩) (v := undef) rfl (by kernel_rfl) (by kernel_rfl) (by kernel_rfl) (by kernel_rfl) (fun _ _ _ h => h) (Or.inr ⟨by kernel_rfl, rfl⟩) hC ?_
      simp only [Act.put]
      refine Late.take (i := 4) (oi := ⟨_, _, _, _, _, _⟩) (v := undef) rfl (by kernel_rfl) (by kernel_rfl) (by kernel_rfl) (by kernel_rfl) (fun _ _ _ h => h) (Or.inr ⟨by kernel_rfl, rfl⟩) hC ?_
      simp only [Act.put]
      refine Late.take (i := 5) (oi := ⟨_, _, _, _, _, _⟩) (v := undef) rfl (by kernel_rfl) (by kernel_rfl) (by kernel_rfl) (by kernel_rfl) (fun _ _ _ h => h) (Or.inr ⟨by kernel_rfl, rfl⟩) hC ?_
      simp only [Act.put]
      refine Late.take (i := 6) (oi := ⟨_, _, _, _, _, _⟩) (v := undef) rfl (by kernel_rfl) (by kernel_rfl) (by kernel_rfl) (by kernel_rfl) (fun _ _ _ h => h) (Or.inr ⟨by kernel_rfl, rfl⟩) hC ?_
      simp only [Act.put]
      refine Late.take (i := 7) (oi := ⟨_, _, _, _, _, _⟩) (v := undef) rfl (by kernel_rfl) (by kernel_rfl) (by kernel_rfl) (by kernel_rfl) (fun _ _ _ h => h) (Or.inr ⟨by kernel_rfl, rfl⟩) hC ?_
      simp only [Act.put]
      refine Late.take (i := 8) (oi := ⟨_, _, _, _, _, _⟩) (v := undef) rfl (by kernel_rfl) (by kernel_rfl) (by kernel_rfl) (by kernel_rfl) (fun _ _ _ h => h) (Or.inr ⟨by kernel_rfl, rfl⟩) hC ?_
      simp only [Act.put]
      refine Late.take (i := 9) (oi := ⟨_, _, _, _, _, _⟩) (v := undef) rfl (by kernel_rfl) (by kernel_rfl) (by kernel_rfl) (by kernel_rfl) (fun _ _ _ h => h) (Or.inr ⟨by kernel_rfl, rfl⟩) hC ?_
      simp only [Act.put]
      refine Late.take (i := 10) (oi := ⟨_, _, _, _, _, _⟩) (v := undef) rfl (by kernel_rfl) (by kernel_rfl) (by kernel_rfl) (by kernel_rfl) (fun _ _ _ h => h) (Or.inr ⟨by kernel_rfl, rfl⟩) hC ?_
      simp only [Act.put]
      refine Late.take (i := 11) (oi := ⟨_, _, _, _, _, _⟩) (v := undef) rfl (by kernel_rfl) (by kernel_rfl) (by kernel_rfl) (by kernel_rfl) (fun _ _ _ h => h) (Or.inr ⟨by kernel_rfl, rfl⟩) hC ?_
      simp only [Act.put]
      refine Late.take (i := 12) (oi := ⟨_, _, _, _, _, _⟩) (v := undef) rfl (by kernel_rfl) (by kernel_rfl) (by kernel_rfl) (by kernel_rfl) (fun _ _ _ h => h) (Or.inr ⟨by kernel_rfl, rfl⟩) hC ?_
      simp only [Act.put]
      refine Late.take (i := 13) (oi := ⟨_, _, _, _, _, _⟩) (v := ?_) rfl (by kernel_rfl) (by kernel_rfl) (by kernel_rfl) (by kernel_rfl) (fun _ _ _ h => h) (Or.inl ⟨by kernel_rfl, ?_⟩) hC ?_
      rotate_left
      · (intro w hSw; (try dsimp only at hSw); go_simp; first | done | with_reducible rfl)
      simp only [Act.put]
      refine Late.done (by kernel_rfl) ?_ _
      simp only [List.setIfInBounds_toArray, List.set_cons_zero, List.set_cons_succ]
      have HE2 := Lib.hid HE1.out.drew
      have HB32 := Lib.hid (HB31.out.ex (Ex.refl W1).drew)
      generalize W1.drew = W2 at *
      have HBR := Lib.hid HB32.out
      have c4 := HBR.out.cell 0
      have c4' := HBR.out.cell 1
      have f4 := HBR.out.free 0
      have f4' := HBR.out.free 1
      go_wp2_with fail
      have H4 := HBR.out.put2 (u := .int .i64 0) (v := .slice none 0 0)
      have c4 := H4.cell 0
      have c4' := H4.cell 1
      refine bodyPost_ret (v := .tuple #[.agg #[.int .i64 0, .slice none 0 0], .int .i64 2]) (by simp [results, Tryz.results12, go_sem, c4, c4']) rfl (SqS.err HQ.out rfl ((HE2.out.setCell (by show w.heap.size ≤ w.heap.size + 1 + 1 + 1; omega) _).setCell (by show w.heap.size ≤ w.heap.size + 1 + 1 + 1; omega) _))
    · have h2' : (d : Int) ≤ 2 := by omega
      obtain ⟨Qx, hQx, hMQ⟩ := gmB_f hgQ
      obtain rfl : Q = Qx := by omega
      have hq2 := hS.q2
      have hk2 := hS.k2
      have hQM : Q ≤ M := by have := hS.div; rw [← this]; exact Nat.div_le_self _ _
      have hm12 := hMF.m12
      have hkM := hS.lt
      have hdv : IntKind.i64.wrap ((M : Int) / (K : Int)) = (Q : Int) := by
        rw [show (M : Int) / (K : Int) = (Q : Int) by rw [← hS.div]; rfl]
        exact IntWalk.i64_in _ (by omega)
      have hdt : Int.tdiv (M : Int) (K : Int) = (Q : Int) := by rw [Int.tdiv_eq_ediv_of_nonneg (by omega), ← hS.div]; rfl
      have hwQ : IntKind.i64.wrap (Q : Int) = (Q : Int) := IntWalk.i64_in _ (by omega)
      have hneK : ((K : Int) != 0) = true := by simp; omega
      have hneK0 : ¬ K = 0 := by omega
      have hl8 : t1.length ≤ 8 := by rw [hMF.len]; exact hMF.g.n8
      have HRD := Lib.hid (fun W (he : Ex w W) => l02Reduced_any B1 t1 d1 Q (M : Int) W (HXI.out W he) hl8 (fun i hi => ⟨(hMF.rng i hi).1, by have := (hMF.rng i hi).2; omega⟩) (by omega) (by omega))
      have hlr : (rdL t1 Q).length = t1.length := rdL_len
      have HCY := Lib.hid (fun W A1 n1 (he : Ex w W) (hI : IntsW W A1 (rdL t1 Q)) => l03Cocycle_any B0 A1 B3 t0 Q d (rdL t1 Q) t3 d0 n1 d3 W (HRR.out W he) hI (HFF.out W he) hMQ hd3 hlen hfr)
      rw [hlr] at HCY
      have HCN := Lib.hid (fun W (he : Ex w W) => l08Connect_any B0 B1 B3 t0 M K Q d t1 t3 d0 d1 d3 W (HRR.out W he) (HXI.out W he) (HFF.out W he) hMF hS (by omega) hlen hfr)
      have HSD := Lib.hid hS.div
      have HGV := Lib.hid hz
      clear hz hsq hco hMF hS hgQ hlen h343 hfr hQx hMQ hl8 hlr
      go_wp2_with fail
      have HCF1 := Lib.hid (fun (W : World) (he : Ex W1 W) => And.intro ((HB01.out.ex he).cell 0) (And.intro ((HB11.out.ex he).cell 0) (And.intro ((HB11.out.ex he).cell 1) (And.intro ((HB21.out.ex he).cell 0) ((HB21.out.ex he).cell 1)))))
      have hD0 := HCF1.out W1 (Ex.refl _)
      refine Late.region (C := fun w' => w'.cell? ⟨w.heap.size, 0, none⟩ = some (.slice B0 t0.length d0) ∧ w'.cell? ⟨w.heap.size + 1, 0, none⟩ = some (.int .i64 (M : Int)) ∧ w'.cell? ⟨w.heap.size + 1, 1, none⟩ = some (.slice B1 t1.length d1) ∧ w'.cell? ⟨w.heap.size + 1 + 1, 0, none⟩ = some (.int .i64 (d : Int)) ∧ w'.cell? ⟨w.heap.size + 1 + 1, 1, none⟩ = some (.slice B3 t3.length d3)) (fun j => decide (j < 14)) (by kernel_rfl) hD0 (fun hC => ?_)
      refine Late.take (i := 0) (oi := ⟨_, _, _, _, _, _⟩) (v := ?_) rfl (by kernel_rfl) (by kernel_rfl) (by kernel_rfl) (by kernel_rfl) (fun _ _ _ h => h) (Or.inl ⟨by kernel_rfl, ?_⟩) hC ?_
      rotate_left
      · (intro w hSw; (try dsimp only at hSw); go_simp; first | done | with_reducible rfl)
      simp only [Act.put]
      refine Late.take (i := 1) (oi := ⟨_, _, _, _, _, _⟩) (v := ?_) rfl (by kernel_rfl) (by kernel_rfl) (by kernel_rfl) (by kernel_rfl) (fun _ _ _ h => h) (Or.inl ⟨by kernel_rfl, ?_⟩) hC ?_
      rotate_left
      · (intro w hSw; (try dsimp only at hSw); go_simp; first | done | with_reducible rfl)
      simp only [Act.put]
      refine Late.take (i := 2) (oi := ⟨_, _, _, _, _, _⟩) (v := ?_) rfl (by kernel_rfl) (by kernel_rfl) (by kernel_rfl) (by kernel_rfl) (fun _ _ _ h => h) (Or.inl ⟨by kernel_rfl, ?_⟩) hC ?_
      rotate_left
      · (intro w hSw; (try dsimp only at hSw); go_simp; first | done | with_reducible rfl)
      simp only [Act.put]
      refine Late.take (i := 3) (oi := ⟨_, _, _, _, _, _⟩) (v := ?_) rfl (by kernel_rfl) (by kernel_rfl) (by kernel_rfl) (by kernel_rfl) (fun _ _ _ h => h) (Or.inl ⟨by kernel_rfl, ?_⟩) hC ?_
      rotate_left
      · (intro w hSw; (try dsimp only at hSw); go_simp; first | done | with_reducible rfl)
      simp only [Act.put]
      refine Late.take (i := 4) (oi := ⟨_, _, _, _, _, _⟩) (v := ?_) rfl (by kernel_rfl) (by kernel_rfl) (by kernel_rfl) (by kernel_rfl) (fun _ _ _ h => h) (Or.inl ⟨by kernel_rfl, ?_⟩) hC ?_
      rotate_left
      · (intro w hSw; (try dsimp only at hSw); go_simp; first | done | with_reducible rfl)
      simp only [Act.put]
      refine Late.take (i := 5) (oi := ⟨_, _, _, _, _, _⟩) (v := ?_) rfl (by kernel_rfl) (by kernel_rfl) (by kernel_rfl) (by kernel_rfl) (fun _ _ _ h => h) (Or.inl ⟨by kernel_rfl, ?_⟩) hC ?_
      rotate_left
      · (intro w hSw; (try dsimp only at hSw); go_simp; first | done | with_reducible rfl)
      simp only [Act.put]
      refine Late.take (i := 6) (oi := ⟨_, _, _, _, _, _⟩) (v := ?_) rfl (by kernel_rfl) (by kernel_rfl) (by kernel_rfl) (by kernel_rfl) (fun _ _ _ h => h) (Or.inl ⟨by kernel_rfl, ?_⟩) hC ?_
      rotate_left
      · (intro w hSw; (try dsimp only at hSw); go_simp; first | done | with_reducible rfl)
      simp only [Act.put]
      refine Late.take (i := 7) (oi := ⟨_, _, _, _, _, _⟩) (v := ?_) rfl (by kernel_rfl) (by kernel_rfl) (by kernel_rfl) (by kernel_rfl) (fun _ _ _ h => h) (Or.inl ⟨by kernel_rfl, ?_⟩) hC ?_
      rotate_left
      · (intro w hSw; (try dsimp only at hSw); go_simp; first | done | with_reducible rfl)
      simp only [Act.put]
      refine Late.take (i := 8) (oi := ⟨_, _, _, _, _, _⟩) (v := ?_) rfl (by kernel_rfl) (by kernel_rfl) (by kernel_rfl) (by kernel_rfl) (fun _ _ _ h => h) (Or.inl ⟨by kernel_rfl, ?_⟩) hC ?_
      rotate_left
      · (intro w hSw; (try dsimp only at hSw); go_simp; first | done | with_reducible rfl)
      simp only [Act.put]
      refine Late.take (i := 10) (oi := ⟨_, _, _, _, _, _⟩) (v := ?_) rfl (by kernel_rfl) (by kernel_rfl) (by kernel_rfl) (by kernel_rfl) (fun _ _ _ h => h) (Or.inl ⟨by kernel_rfl, ?_⟩) hC ?_
      rotate_left
      · (intro w hSw; (try dsimp only at hSw); go_simp; first | done | with_reducible rfl)
      simp only [Act.put]
      clear hC hD0
      refine Late.one (i := 9) (o := _) (by kernel_rfl) rfl (fun K' hK' => ?_)
      go_simp
      refine (HRD.out W1.drew HE1.out.drew).mono ?_
      rintro e W2 ⟨A1, n1, rfl, he2, ho2⟩
      have hx2 : Ex W1 W2 := (Ex.refl W1).drew.trans he2
      have HX2 := Lib.hid hx2
      have HI2 := Lib.hid ho2.ints
      have hC2 := HCF1.out W2 hx2
      refine hK'.out _ _ (fun _ => hC2) (fun _ => ?_)
      clear hK' K' hC2 he2 ho2 hx2
      try simp only [Act.put]
      refine Late.one (i := 11) (o := _) (by kernel_rfl) rfl (fun K' hK' => ?_)
      go_simp
      refine (HCY.out W2 A1 n1 (HE1.out.trans HX2.out) HI2.out).mono ?_
      rintro e W3 ⟨rfl, he3⟩
      have HX3 := Lib.hid (HX2.out.trans he3)
      have hC3 := HCF1.out W3 HX3.out
      refine hK'.out _ _ (fun _ => hC3) (fun _ => ?_)
      clear hK' K' he3
      try simp only [Act.put]
      refine Late.one (i := 12) (o := _) (by kernel_rfl) rfl (fun K' hK' => ?_)
      go_simp
      refine hK'.out _ _ (fun _ => hC3) (fun _ => ?_)
      clear hK' K'
      try simp only [Act.put]
      refine Late.one (i := 13) (o := _) (by kernel_rfl) rfl (fun K' hK' => ?_)
      go_simp
      refine hK'.out _ _ (fun _ => hC3) (fun _ => ?_)
      clear hK' K' hC3
      try simp only [Act.put]
      refine Late.done (by kernel_rfl) ?_ _
      have HE3 := Lib.hid (HE1.out.trans HX3.out)
      have HB33 := Lib.hid (HB31.out.ex HX3.out)
      have HB03 := Lib.hid (HB01.out.ex HX3.out)
      have HB13 := Lib.hid (HB11.out.ex HX3.out)
      have HB23 := Lib.hid (HB21.out.ex HX3.out)
      cases hcy : cyB t0 Q d (rdL t1 Q) t3 with
      | false =>
        have HQ := Lib.hid (con_no (cnC_st HGV.out (by omega) HSD.out hcy) (by decide))
        clear hcy
        have HBR := Lib.hid HB33.out
        have c4 := HBR.out.cell 0
        have c4' := HBR.out.cell 1
        have f4 := HBR.out.free 0
        have f4' := HBR.out.free 1
        go_wp2_with fail
        have H4 := HBR.out.put2 (u := .int .i64 0) (v := .slice none 0 0)
        have c4 := H4.cell 0
        have c4' := H4.cell 1
        refine bodyPost_ret (v := .tuple #[.agg #[.int .i64 0, .slice none 0 0], .int .i64 5]) (by simp [results, Tryz.results12, go_sem, c4, c4']) rfl (SqS.err HQ.out rfl ((HE3.out.setCell (by show w.heap.size ≤ w.heap.size + 1 + 1 + 1; omega) _).setCell (by show w.heap.size ≤ w.heap.size + 1 + 1 + 1; omega) _))
      | true =>
        have HQ := Lib.hid (con_yes (cnC_yes HGV.out (by omega) HSD.out hcy) HSD.out)
        have g0 := HB03.out.cell 0
        have g1 := HB13.out.cell 0
        have g1' := HB13.out.cell 1
        have g2 := HB23.out.cell 0
        have g2' := HB23.out.cell 1
        have HCN3 := Lib.hid (HCN.out W3 HE3.out)
        have hs3 := HX3.out.size
        clear hcy HCN
        go_wp2_with fail
        refine HCN3.out.mono ?_
        rintro e W4 ⟨C0, n0, rfl, he4, hO⟩
        obtain ⟨yy, hyy⟩ : ∃ yy, dvL (bdY t0 M d t1 t3) Q = yy := ⟨_, rfl⟩
        rw [hyy] at hO ⊢
        have HYY := Lib.hid hyy
        have HBR := Lib.hid (HB33.out.ex he4)
        have HE4 := Lib.hid (HE3.out.trans he4)
        have HO := Lib.hid hO
        have c4 := HBR.out.cell 0
        have c4' := HBR.out.cell 1
        have f4 := HBR.out.free 0
        have f4' := HBR.out.free 1
        have hlt3 : w.heap.size + 1 + 1 + 1 < W3.heap.size := by omega
        clear he4 hO hyy g0 g1 g1' g2 g2' HCN3
        go_wp2_with fail
        have H4 := HBR.out.put2 (u := .int .i64 ((d : Int) + 1)) (v := .slice C0 yy.length n0)
        have c4 := H4.cell 0
        have c4' := H4.cell 1
        refine bodyPost_ret (v := .tuple #[.agg #[.int .i64 ((d : Int) + 1), .slice C0 yy.length n0], .int .i64 0]) (by simp [results, Tryz.results12, go_sem, c4, c4']) rfl (SqS.of HQ.out (by rw [HYY.out]) ((HE4.out.setCell (by show w.heap.size ≤ w.heap.size + 1 + 1 + 1; omega) _).setCell (by show w.heap.size ≤ w.heap.size + 1 + 1 + 1; omega) _) (by rw [HYY.out]; exact ((HO.out.above (Only.set _ _ _ _) hlt3).above (Only.set _ _ _ _) hlt3).mono HE3.out.size (by simp) (Nat.le_refl _)))
  · obtain ⟨z, hzz⟩ : ∃ z, gvC t0 m1 t1 m2 (ouN m1 m2) m3 t3 = z := ⟨_, rfl⟩
    have HQ := Lib.hid (con_no (cnC_no hzz (hzz ▸ hz)) (hzz ▸ hz))
    rw [hzz] at hz ⊢
    have hzb : (z != 0) = true := by simpa using hz
    have hzb0 : (z == 0) = false := by simpa using hz
    clear hz hzz
    go_wp2_with fail
    refine Late.region (C := fun _ => True) (fun _ => true) (by kernel_rfl) True.intro (fun hC => ?_)
    refine Late.take (i := 0) (oi := ⟨_, _, _, _, _, _⟩) (v := ?_) rfl (by kernel_rfl) (by kernel_rfl) (by kernel_rfl) (by kernel_rfl) (fun _ _ _ h => h) (Or.inl ⟨by kernel_rfl, ?_⟩) hC ?_
    rotate_left
    · (intro w hSw; (try dsimp only at hSw); go_simp; first | done | with_reducible rfl)
    simp only [Act.put]
    refine Late.take (i := 1) (oi := ⟨_, _, _, _, _, _⟩) (v := ?_) rfl (by kernel_rfl) (by kernel_rfl) (by kernel_rfl) (by kernel_rfl) (fun _ _ _ h => h) (Or.inl ⟨by kernel_rfl, ?_⟩) hC ?_
    rotate_left
    · (intro w hSw; (try dsimp only at hSw); go_simp; first | done | with_reducible rfl)
    simp only [Act.put]
    refine Late.take (i := 2) (oi := ⟨_, _, _, _, _, _⟩) (v := ?_) rfl (by kernel_rfl) (by kernel_rfl) (by kernel_rfl) (by kernel_rfl) (fun _ _ _ h => h) (Or.inl ⟨by kernel_rfl, ?_⟩) hC ?_
    rotate_left
    · (intro w hSw; (try dsimp only at hSw); go_simp; first | done | with_reducible rfl)
    simp only [Act.put]
    refine Late.take (i := 3) (oi := ⟨_, _, _, _, _, _⟩) (v := undef) rfl (by kernel_rfl) (by kernel_rfl) (by kernel_rfl) (by kernel_rfl) (fun _ _ _ h => h) (Or.inr ⟨by kernel_rfl, rfl⟩) hC ?_
    simp only [Act.put]
    refine Late.take (i := 4) (oi := ⟨_, _, _, _, _, _⟩) (v := undef) rfl (by kernel_rfl) (by kernel_rfl) (by kernel_rfl) (by kernel_rfl) (fun _ _ _ h => h) (Or.inr ⟨by kernel_rfl, rfl⟩) hC ?_
    simp only [Act.put]
    refine Late.take (i := 5) (oi := ⟨_, _, _, _, _, _⟩) (v := undef) rfl (by kernel_rfl) (by kernel_rfl) (by kernel_rfl) (by kernel_rfl) (fun _ _ _ h => h) (Or.inr ⟨by kernel_rfl, rfl⟩) hC ?_
    simp only [Act.put]
    refine Late.take (i := 6) (oi := ⟨_, _, _, _, _, _⟩) (v := undef) rfl (by kernel_rfl) (by kernel_rfl) (by kernel_rfl) (by kernel_rfl) (fun _ _ _ h => h) (Or.inr ⟨by kernel_rfl, rfl⟩) hC ?_
    simp only [Act.put]
    refine Late.take (i := 7) (oi := ⟨_, _, _, _, _, _⟩) (v := undef) rfl (by kernel_rfl) (by kernel_rfl) (by kernel_rfl) (by kernel_rfl) (fun _ _ _ h => h) (Or.inr ⟨by kernel_rfl, rfl⟩) hC ?_
    simp only [Act.put]
    refine Late.take (i := 8) (oi := ⟨_, _, _, _, _, _⟩) (v := undef) rfl (by kernel_rfl) (by kernel_rfl) (by kernel_rfl) (by kernel_rfl) (fun _ _ _ h => h) (Or.inr ⟨by kernel_rfl, rfl⟩) hC ?_
    simp only [Act.put]
    refine Late.take (i := 9) (oi := ⟨_, _, _, _, _, _⟩) (v := undef) rfl (by kernel_rfl) (by kernel_rfl) (by kernel_rfl) (by kernel_rfl) (fun _ _ _ h => h) (Or.inr ⟨by kernel_rfl, rfl⟩) hC ?_
    simp only [Act.put]
    refine Late.take (i := 10) (oi := ⟨_, _, _, _, _, _⟩) (v := undef) rfl (by kernel_rfl) (by kernel_rfl) (by kernel_rfl) (by kernel_rfl) (fun _ _ _ h => h) (Or.inr ⟨by kernel_rfl, rfl⟩) hC ?_
    simp only [Act.put]
    refine Late.take (i := 11) (oi := ⟨_, _, _, _, _, _⟩) (v := undef) rfl (by kernel_rfl) (by kernel_rfl) (by kernel_rfl) (by kernel_rfl) (fun _ _ _ h => h) (Or.inr ⟨by kernel_rfl, rfl⟩) hC ?_
    simp only [Act.put]
    refine Late.take (i := 12) (oi := ⟨_, _, _, _, _, _⟩) (v := undef) rfl (by kernel_rfl) (by kernel_rfl) (by kernel_rfl) (by kernel_rfl) (fun _ _ _ h => h) (Or.inr ⟨by kernel_rfl, rfl⟩) hC ?_
    simp only [Act.put]
    refine Late.take (i := 13) (oi := ⟨_, _, _, _, _, _⟩) (v := ?_) rfl (by kernel_rfl) (by kernel_rfl) (by kernel_rfl) (by kernel_rfl) (fun _ _ _ h => h) (Or.inl ⟨by kernel_rfl, ?_⟩) hC ?_
    rotate_left
    · (intro w hSw; (try dsimp only at hSw); go_simp; first | done | with_reducible rfl)
    simp only [Act.put]
    refine Late.done (by kernel_rfl) ?_ _
    simp only [List.setIfInBounds_toArray, List.set_cons_zero, List.set_cons_succ]
    have HE2 := Lib.hid HE1.out.drew
    have HB32 := Lib.hid (HB31.out.ex (Ex.refl W1).drew)
    generalize W1.drew = W2 at *
    have HBR := Lib.hid HB32.out
    have c4 := HBR.out.cell 0
    have c4' := HBR.out.cell 1
    have f4 := HBR.out.free 0
    have f4' := HBR.out.free 1
    go_wp2_with fail
    have H4 := HBR.out.put2 (u := .int .i64 0) (v := .slice none 0 0)
    have c4 := H4.cell 0
    have c4' := H4.cell 1
    refine bodyPost_ret (v := .tuple #[.agg #[.int .i64 0, .slice none 0 0], .int .i64 z]) (by simp [results, Tryz.results12, go_sem, c4, c4']) rfl (SqS.err HQ.out rfl ((HE2.out.setCell (by show w.heap.size ≤ w.heap.size + 1 + 1 + 1; omega) _).setCell (by show w.heap.size ≤ w.heap.size + 1 + 1 + 1; omega) _))

end Go.Proofs.YtllkaoacfchibaaGreatDoor
