/- RestrictCochain: the specification's contract. -/
import Derived.Test.YtfnjpbjlikajbaaGreatDoorXb
import Derived.Test.YtfnjpbjlikajbaaGreatDoorUl
import Derived.Test.YtfnjpbjlikajbaaGreatDoorTwo
import Derived.Test.YtfnjpbjlikajbaaGreatDoorInc
namespace Go.Proofs.YtfnjpbjlikajbaaGreatDoor
open Go.RowKit

set_option maxRecDepth 100000 in
set_option maxHeartbeats 8000000 in
theorem specRst_no (t0 : List (List Int)) (m1 : Int) (t1 t2 : List Int) (m3 : Int) (t3 : List Int) (hg : gmcB t0 m1 t1 m3 t3 = false) : ∀ (B0 : Option Addr) (d0 : Nat) (B1 : Option Addr) (d1 : Nat) (B2 : Option Addr) (d2 : Nat) (B3 : Option Addr) (d3 : Nat) (W : World), RwsW W B0 t0 → IntsW W B1 t1 → IntsW W B2 t2 → IntsW W B3 t3 → SmallT t0 → t1.length ≤ 1048576 → t2.length ≤ 1048576 → t3.length ≤ 1048576 →
    Calls Tryz.prog 10 #[.agg #[.slice B0 t0.length d0], .agg #[.int .i64 m1, .slice B1 t1.length d1], .slice B2 t2.length d2, .agg #[.int .i64 m3, .slice B3 t3.length d3]] W (SqS (qRestrictCochain0 t0 m1 t1 t2 m3 t3) (yRestrictCochain0 t0 m1 t1 t2 m3 t3) (qRestrictCochain1 t0 m1 t1 t2 m3 t3) W) := by
  intro B0 d0 B1 d1 B2 d2 B3 d3 w hR hU hX hF hs hu hx hf
  have e0 : Ex w ((((w.alloc (.cells #[.slice B0 t0.length d0] 36)).alloc (.cells #[.int .i64 m1, .slice B1 t1.length d1] 38)).alloc (.cells #[.int .i64 m3, .slice B3 t3.length d3] 33)).alloc (.cells #[.int .i64 0, .slice none 0 0] 33)) := ((((Ex.refl w).alloc _).alloc _).alloc _).alloc _
  have b0 : Has ((((w.alloc (.cells #[.slice B0 t0.length d0] 36)).alloc (.cells #[.int .i64 m1, .slice B1 t1.length d1] 38)).alloc (.cells #[.int .i64 m3, .slice B3 t3.length d3] 33)).alloc (.cells #[.int .i64 0, .slice none 0 0] 33)) (w.heap.size) 36 #[.slice B0 t0.length d0] := ((((Has.newAt (w := w) (e := 36) (cs := #[.slice B0 t0.length d0]) (k := w.heap.size) (by simp)).alloc _).alloc _).alloc _)
  have b1 : Has ((((w.alloc (.cells #[.slice B0 t0.length d0] 36)).alloc (.cells #[.int .i64 m1, .slice B1 t1.length d1] 38)).alloc (.cells #[.int .i64 m3, .slice B3 t3.length d3] 33)).alloc (.cells #[.int .i64 0, .slice none 0 0] 33)) (w.heap.size + 1) 38 #[.int .i64 m1, .slice B1 t1.length d1] := (((Has.newAt (w := (w.alloc (.cells #[.slice B0 t0.length d0] 36))) (e := 38) (cs := #[.int .i64 m1, .slice B1 t1.length d1]) (k := w.heap.size + 1) (by simp)).alloc _).alloc _)
  have b2 : Has ((((w.alloc (.cells #[.slice B0 t0.length d0] 36)).alloc (.cells #[.int .i64 m1, .slice B1 t1.length d1] 38)).alloc (.cells #[.int .i64 m3, .slice B3 t3.length d3] 33)).alloc (.cells #[.int .i64 0, .slice none 0 0] 33)) (w.heap.size + 1 + 1) 33 #[.int .i64 m3, .slice B3 t3.length d3] := ((Has.newAt (w := ((w.alloc (.cells #[.slice B0 t0.length d0] 36)).alloc (.cells #[.int .i64 m1, .slice B1 t1.length d1] 38))) (e := 33) (cs := #[.int .i64 m3, .slice B3 t3.length d3]) (k := w.heap.size + 1 + 1) (by simp)).alloc _)
  have b3 : Has ((((w.alloc (.cells #[.slice B0 t0.length d0] 36)).alloc (.cells #[.int .i64 m1, .slice B1 t1.length d1] 38)).alloc (.cells #[.int .i64 m3, .slice B3 t3.length d3] 33)).alloc (.cells #[.int .i64 0, .slice none 0 0] 33)) (w.heap.size + 1 + 1 + 1) 33 #[.int .i64 0, .slice none 0 0] := (Has.newAt (w := (((w.alloc (.cells #[.slice B0 t0.length d0] 36)).alloc (.cells #[.int .i64 m1, .slice B1 t1.length d1] 38)).alloc (.cells #[.int .i64 m3, .slice B3 t3.length d3] 33))) (e := 33) (cs := #[.int .i64 0, .slice none 0 0]) (k := w.heap.size + 1 + 1 + 1) (by simp))
  have HC := Lib.hid (fun W kb (he : Ex w W) (hk : Has W kb 33 #[.int .i64 m3, .slice B3 t3.length d3]) => l03Code1_ex B0 B1 B3 t0 m1 t1 m3 t3 d0 d1 d3 kb W (hR.ex he) (hU.ex he) (hF.ex he) hs hu hf hk)
  have HSG := Lib.hid (fun W (he : Ex w W) => l07Code_any B0 B2 t0 t2 d0 d2 W (hR.ex he) (hX.ex he) hs hx)
  have HE0 := Lib.hid e0
  have HSZ : Hid (((((w.alloc (.cells #[.slice B0 t0.length d0] 36)).alloc (.cells #[.int .i64 m1, .slice B1 t1.length d1] 38)).alloc (.cells #[.int .i64 m3, .slice B3 t3.length d3] 33)).alloc (.cells #[.int .i64 0, .slice none 0 0] 33)).heap.size = w.heap.size + 1 + 1 + 1 + 1) := Lib.hid (by simp)
  have HB0 := Lib.hid b0
  have HB1 := Lib.hid b1
  have HB2 := Lib.hid b2
  have HB3 := Lib.hid b3
  have k0 := b0.cell 0
  have k1 := b1.cell 0
  have k1' := b1.cell 1
  have k2 := b2.cell 0
  have k2' := b2.cell 1
  have hlb := b3.lt
  have hlw := e0.size
  clear b0 b1 b2 b3 e0
  rw [hg, if_neg Bool.false_ne_true] at HC
  have HQ := Lib.hid (rst_no (rcC_no (xs := t2) hg) (by decide))
  clear hg hR hU hX hF hs hu hx hf HSG
  go_enter Tryz.func10, Tryz.ntmps10
  go_wp2_with fail
  generalize ((((w.alloc (.cells #[.slice B0 t0.length d0] 36)).alloc (.cells #[.int .i64 m1, .slice B1 t1.length d1] 38)).alloc (.cells #[.int .i64 m3, .slice B3 t3.length d3] 33)).alloc (.cells #[.int .i64 0, .slice none 0 0] 33)) = W0 at *
  have hb5 : Has (W0.alloc (.cells #[.int .i64 m3, .slice B3 t3.length d3] 33)) (w.heap.size + 1 + 1 + 1 + 1) 33 #[.int .i64 m3, .slice B3 t3.length d3] := by
    have h := Has.new W0 33 #[.int .i64 m3, .slice B3 t3.length d3]
    rw [HSZ.out] at h
    exact h
  refine (HC.out _ (w.heap.size + 1 + 1 + 1 + 1) (HE0.out.alloc _) hb5).mono ?_
  clear hb5
  rintro e W1 ⟨rfl, he1⟩
  have HX1 := Lib.hid ((Ex.new W0 (.cells #[.int .i64 m3, .slice B3 t3.length d3] 33)).trans he1)
  have HE1 := Lib.hid (HE0.out.trans HX1.out)
  clear he1 k0 k1 k1' k2 k2'
  have HBR := Lib.hid (HB3.out.ex HX1.out)
  have c4 := HBR.out.cell 0
  have c4' := HBR.out.cell 1
  have f4 := HBR.out.free 0
  have f4' := HBR.out.free 1
  go_wp2_with fail
  have H4 := HBR.out.put2 (u := .int .i64 0) (v := .slice none 0 0)
  have c4 := H4.cell 0
  have c4' := H4.cell 1
  refine bodyPost_ret (v := .tuple #[.agg #[.int .i64 0, .slice none 0 0], .int .i64 1]) (by simp [results, Tryz.results10, go_sem, c4, c4']) rfl (SqS.err HQ.out rfl ((HE1.out.setCell (by show w.heap.size ≤ w.heap.size + 1 + 1 + 1; omega) _).setCell (by show w.heap.size ≤ w.heap.size + 1 + 1 + 1; omega) _))

set_option maxRecDepth 100000 in
set_option maxHeartbeats 8000000 in
theorem specRst_on (t0 : List (List Int)) (m1 : Int) (t1 t2 : List Int) (m3 : Int) (t3 : List Int) (hg : gmcB t0 m1 t1 m3 t3 = true) (hz : sgC t0 t2 [] = 0) : ∀ (B0 : Option Addr) (d0 : Nat) (B1 : Option Addr) (d1 : Nat) (B2 : Option Addr) (d2 : Nat) (B3 : Option Addr) (d3 : Nat) (W : World), RwsW W B0 t0 → IntsW W B1 t1 → IntsW W B2 t2 → IntsW W B3 t3 → SmallT t0 → t1.length ≤ 1048576 → t2.length ≤ 1048576 → t3.length ≤ 1048576 →
    Calls Tryz.prog 10 #[.agg #[.slice B0 t0.length d0], .agg #[.int .i64 m1, .slice B1 t1.length d1], .slice B2 t2.length d2, .agg #[.int .i64 m3, .slice B3 t3.length d3]] W (SqS (qRestrictCochain0 t0 m1 t1 t2 m3 t3) (yRestrictCochain0 t0 m1 t1 t2 m3 t3) (qRestrictCochain1 t0 m1 t1 t2 m3 t3) W) := by
  intro B0 d0 B1 d1 B2 d2 B3 d3 w hR hU hX hF hs hu hx hf
  have e0 : Ex w ((((w.alloc (.cells #[.slice B0 t0.length d0] 36)).alloc (.cells #[.int .i64 m1, .slice B1 t1.length d1] 38)).alloc (.cells #[.int .i64 m3, .slice B3 t3.length d3] 33)).alloc (.cells #[.int .i64 0, .slice none 0 0] 33)) := ((((Ex.refl w).alloc _).alloc _).alloc _).alloc _
  have b0 : Has ((((w.alloc (.cells #[.slice B0 t0.length d0] 36)).alloc (.cells #[.int .i64 m1, .slice B1 t1.length d1] 38)).alloc (.cells #[.int .i64 m3, .slice B3 t3.length d3] 33)).alloc (.cells #[.int .i64 0, .slice none 0 0] 33)) (w.heap.size) 36 #[.slice B0 t0.length d0] := ((((Has.newAt (w := w) (e := 36) (cs := #[.slice B0 t0.length d0]) (k := w.heap.size) (by simp)).alloc _).alloc _).alloc _)
  have b1 : Has ((((w.alloc (.cells #[.slice B0 t0.length d0] 36)).alloc (.cells #[.int .i64 m1, .slice B1 t1.length d1] 38)).alloc (.cells #[.int .i64 m3, .slice B3 t3.length d3] 33)).alloc (.cells #[.int .i64 0, .slice none 0 0] 33)) (w.heap.size + 1) 38 #[.int .i64 m1, .slice B1 t1.length d1] := (((Has.newAt (w := (w.alloc (.cells #[.slice B0 t0.length d0] 36))) (e := 38) (cs := #[.int .i64 m1, .slice B1 t1.length d1]) (k := w.heap.size + 1) (by simp)).alloc _).alloc _)
  have b2 : Has ((((w.alloc (.cells #[.slice B0 t0.length d0] 36)).alloc (.cells #[.int .i64 m1, .slice B1 t1.length d1] 38)).alloc (.cells #[.int .i64 m3, .slice B3 t3.length d3] 33)).alloc (.cells #[.int .i64 0, .slice none 0 0] 33)) (w.heap.size + 1 + 1) 33 #[.int .i64 m3, .slice B3 t3.length d3] := ((Has.newAt (w := ((w.alloc (.cells #[.slice B0 t0.length d0] 36)).alloc (.cells #[.int .i64 m1, .slice B1 t1.length d1] 38))) (e := 33) (cs := #[.int .i64 m3, .slice B3 t3.length d3]) (k := w.heap.size + 1 + 1) (by simp)).alloc _)
  have b3 : Has ((((w.alloc (.cells #[.slice B0 t0.length d0] 36)).alloc (.cells #[.int .i64 m1, .slice B1 t1.length d1] 38)).alloc (.cells #[.int .i64 m3, .slice B3 t3.length d3] 33)).alloc (.cells #[.int .i64 0, .slice none 0 0] 33)) (w.heap.size + 1 + 1 + 1) 33 #[.int .i64 0, .slice none 0 0] := (Has.newAt (w := (((w.alloc (.cells #[.slice B0 t0.length d0] 36)).alloc (.cells #[.int .i64 m1, .slice B1 t1.length d1] 38)).alloc (.cells #[.int .i64 m3, .slice B3 t3.length d3] 33))) (e := 33) (cs := #[.int .i64 0, .slice none 0 0]) (k := w.heap.size + 1 + 1 + 1) (by simp))
  have HC := Lib.hid (fun W kb (he : Ex w W) (hk : Has W kb 33 #[.int .i64 m3, .slice B3 t3.length d3]) => l03Code1_ex B0 B1 B3 t0 m1 t1 m3 t3 d0 d1 d3 kb W (hR.ex he) (hU.ex he) (hF.ex he) hs hu hf hk)
  have HSG := Lib.hid (fun W (he : Ex w W) => l07Code_any B0 B2 t0 t2 d0 d2 W (hR.ex he) (hX.ex he) hs hx)
  have HE0 := Lib.hid e0
  have HSZ : Hid (((((w.alloc (.cells #[.slice B0 t0.length d0] 36)).alloc (.cells #[.int .i64 m1, .slice B1 t1.length d1] 38)).alloc (.cells #[.int .i64 m3, .slice B3 t3.length d3] 33)).alloc (.cells #[.int .i64 0, .slice none 0 0] 33)).heap.size = w.heap.size + 1 + 1 + 1 + 1) := Lib.hid (by simp)
  have HB0 := Lib.hid b0
  have HB1 := Lib.hid b1
  have HB2 := Lib.hid b2
  have HB3 := Lib.hid b3
  have k0 := b0.cell 0
  have k1 := b1.cell 0
  have k1' := b1.cell 1
  have k2 := b2.cell 0
  have k2' := b2.cell 1
  have hlb := b3.lt
  have hlw := e0.size
  clear b0 b1 b2 b3 e0
  rw [hg, if_pos rfl] at HC
  have hsx := subX_code hz
  obtain ⟨M, d, hm1, rfl, hMF, hd3, hlen, -, -⟩ := gmc_facts hg
  have HQ := Lib.hid (rst_yes ((rcC_yes hg).trans hz))
  rw [hz] at HSG
  have HGR := Lib.hid (fun W (he : Ex w W) => l07Group_any B0 B2 t0 t2 d0 d2 W (hR.ex he) (hX.ex he) hsx)
  have HPL := Lib.hid (fun W D k (he : Ex w W) => l03Pull_any D B1 B2 B0 B3 t2.length t0.length d m1 t1 t2 t3 k d1 d2 d0 d3 W (hU.ex he) (hX.ex he) (hF.ex he) hsx.len8 hsx.pos hMF.g.n8 hMF.g.n1 hMF.len rfl (fun i hi => hsx.rng hi) hd3 hlen)
  rw [show (grT t0 t2).length = t2.length from grT_len t0 t2] at HGR
  rw [show pbY (fun x => nth t2 x) t3 t2.length t0.length d = pbY (fun x => (xN t2 x : Int)) t3 t2.length t0.length d from pbY_congr (fun x hx' => (hsx.nat hx').1)] at HPL
  have HYL := Lib.hid (pbY_len (fun x => (xN t2 x : Int)) t3 t2.length t0.length d)
  obtain ⟨ys, hys⟩ : ∃ ys, pbY (fun x => (xN t2 x : Int)) t3 t2.length t0.length d = ys := ⟨_, rfl⟩
  obtain ⟨us', hus⟩ : ∃ us', (List.range t2.length).map (fun i => nth t1 (im t2 i)) = us' := ⟨_, rfl⟩
  rw [hys] at HQ HPL HYL
  rw [hus] at HPL
  obtain ⟨p, hp⟩ : ∃ p, t2.length = p := ⟨_, rfl⟩
  have HPP := Lib.hid hp
  obtain ⟨cn, hcn⟩ : ∃ cn, cellsN t2.length d = cn := ⟨_, rfl⟩
  rw [hcn] at HPL HYL
  rw [hp] at HPL HGR HSG ⊢
  clear hys hus hcn hp hz hsx hg hm1 hMF hlen hR hU hX hF hs hu hx hf
  go_enter Tryz.func10, Tryz.ntmps10
  go_wp2_with fail
  generalize ((((w.alloc (.cells #[.slice B0 t0.length d0] 36)).alloc (.cells #[.int .i64 m1, .slice B1 t1.length d1] 38)).alloc (.cells #[.int .i64 (d : Int), .slice B3 t3.length d3] 33)).alloc (.cells #[.int .i64 0, .slice none 0 0] 33)) = W0 at *
  have hb5 : Has (W0.alloc (.cells #[.int .i64 (d : Int), .slice B3 t3.length d3] 33)) (w.heap.size + 1 + 1 + 1 + 1) 33 #[.int .i64 (d : Int), .slice B3 t3.length d3] := by
    have h := Has.new W0 33 #[.int .i64 (d : Int), .slice B3 t3.length d3]
    rw [HSZ.out] at h
    exact h
  refine (HC.out _ (w.heap.size + 1 + 1 + 1 + 1) (HE0.out.alloc _) hb5).mono ?_
  clear hb5
  rintro e W1 ⟨rfl, he1⟩
  have HX1 := Lib.hid ((Ex.new W0 (.cells #[.int .i64 (d : Int), .slice B3 t3.length d3] 33)).trans he1)
  have HE1 := Lib.hid (HE0.out.trans HX1.out)
  clear he1 k0 k1 k1' k2 k2'
  have q0 := (HB0.out.ex HX1.out).cell 0
  go_wp2_with fail
  refine (HSG.out W1 HE1.out).mono ?_
  rintro e W2 ⟨rfl, he2⟩
  have hx2 := HX1.out.trans he2
  have HE2 := Lib.hid (HE0.out.trans hx2)
  have HB02 := Lib.hid (HB0.out.ex hx2)
  have HB12 := Lib.hid (HB1.out.ex hx2)
  have HB22 := Lib.hid (HB2.out.ex hx2)
  have HB32 := Lib.hid (HB3.out.ex hx2)
  have hs2 := hx2.size
  have HCF := Lib.hid (fun (W : World) (he : Ex W2 W) => And.intro ((HB02.out.ex he).cell 0) (And.intro ((HB12.out.ex he).cell 0) (And.intro ((HB12.out.ex he).cell 1) (And.intro ((HB22.out.ex he).cell 0) ((HB22.out.ex he).cell 1)))))
  clear he2 hx2 q0
  go_wp2_with fail
  have hC0 := HCF.out W2 (Ex.refl _)
  refine Late.region (C := fun w' => w'.cell? ⟨w.heap.size, 0, none⟩ = some (.slice B0 t0.length d0) ∧ w'.cell? ⟨w.heap.size + 1, 0, none⟩ = some (.int .i64 m1) ∧ w'.cell? ⟨w.heap.size + 1, 1, none⟩ = some (.slice B1 t1.length d1) ∧ w'.cell? ⟨w.heap.size + 1 + 1, 0, none⟩ = some (.int .i64 (d : Int)) ∧ w'.cell? ⟨w.heap.size + 1 + 1, 1, none⟩ = some (.slice B3 t3.length d3)) (fun _ => true) (by kernel_rfl) hC0 (fun hC => ?_)
  refine Late.take (i := 0) (oi := _) (v := ?_) rfl (by kernel_rfl) (by kernel_rfl) (by kernel_rfl) (by kernel_rfl) (fun _ _ _ h => h) (Or.inl ⟨by rfl, ?_⟩) hC ?_
  rotate_left
  · (intro w hSw; (try dsimp only at hSw); go_simp; first | done | with_reducible rfl)
  simp only [Act.put]
  refine Late.take (i := 1) (oi := _) (v := ?_) rfl (by kernel_rfl) (by kernel_rfl) (by kernel_rfl) (by kernel_rfl) (fun _ _ _ h => h) (Or.inl ⟨by rfl, ?_⟩) hC ?_
  rotate_left
  · (intro w hSw; (try dsimp only at hSw); go_simp; first | done | with_reducible rfl)
  simp only [Act.put]
  refine Late.take (i := 3) (oi := _) (v := ?_) rfl (by kernel_rfl) (by kernel_rfl) (by kernel_rfl) (by kernel_rfl) (fun _ _ _ h => h) (Or.inl ⟨by rfl, ?_⟩) hC ?_
  rotate_left
  · (intro w hSw; (try dsimp only at hSw); go_simp; first | done | with_reducible rfl)
  simp only [Act.put]
  refine Late.take (i := 4) (oi := _) (v := ?_) rfl (by kernel_rfl) (by kernel_rfl) (by kernel_rfl) (by kernel_rfl) (fun _ _ _ h => h) (Or.inl ⟨by rfl, ?_⟩) hC ?_
  rotate_left
  · (intro w hSw; (try dsimp only at hSw); go_simp; first | done | with_reducible rfl)
  simp only [Act.put]
  refine Late.take (i := 5) (oi := _) (v := ?_) rfl (by kernel_rfl) (by kernel_rfl) (by kernel_rfl) (by kernel_rfl) (fun _ _ _ h => h) (Or.inl ⟨by rfl, ?_⟩) hC ?_
  rotate_left
  · (intro w hSw; (try dsimp only at hSw); go_simp; first | done | with_reducible rfl)
  simp only [Act.put]
  refine Late.take (i := 6) (oi := _) (v := ?_) rfl (by kernel_rfl) (by kernel_rfl) (by kernel_rfl) (by kernel_rfl) (fun _ _ _ h => h) (Or.inl ⟨by rfl, ?_⟩) hC ?_
  rotate_left
  · (intro w hSw; (try dsimp only at hSw); go_simp; first | done | with_reducible rfl)
  simp only [Act.put]
  clear hC hC0
  refine late_start (SS := fun (a0 : Act) (ds : Array Bool) (a : Act) (w' : World) => ∃ (v33 v38 v30 v39 v40 v12 v13 : Value) (A0 : Option Addr) (n0 : Nat) (A1 : Option Addr) (n1 : Nat) (lo hi D E : Nat), a = (((((((a0.put (some 33) v33).put (some 38) v38).put (some 30) v30).put (some 39) v39).put (some 40) v40).put (some 12) v12).put (some 13) v13) ∧ (ds.getD 0 true = true ∧ ds.getD 1 true = true ∧ ds.getD 3 true = true ∧ ds.getD 4 true = true ∧ ds.getD 5 true = true ∧ ds.getD 6 true = true) ∧ Ex W2 w' ∧ (ds.getD 2 true = true → ds.getD 7 true = false → ∃ (D : Option Addr) (k : Nat), v33 = .agg #[.slice D p k]) ∧ (ds.getD 7 true = true → v38 = (.tuple #[.agg #[.int .i64 m1, .slice A0 p n0], .agg #[.int .i64 (d : Int), .slice A1 cn n1]] : Value)) ∧ (ds.getD 8 true = true → ds.getD 7 true = true ∧ v30 = (.tuple #[.agg #[.int .i64 m1, .slice A0 p n0], .agg #[.int .i64 (d : Int), .slice A1 cn n1]] : Value)) ∧ (ds.getD 9 true = true → ds.getD 7 true = true ∧ v39 = .agg #[.int .i64 m1, .slice A0 p n0]) ∧ (ds.getD 10 true = true → ds.getD 7 true = true ∧ v40 = .agg #[.int .i64 (d : Int), .slice A1 cn n1]) ∧ (ds.getD 7 true = true → W2.heap.size ≤ lo) ∧ TwoR W2.heap.size 38 33 #[.int .i64 0, .slice none 0 0] #[.int .i64 0, .slice none 0 0] #[.int .i64 m1, .slice A0 p n0] #[.int .i64 (d : Int), .slice A1 cn n1] (fun W lo hi => OwnL W lo hi A0 us' ∧ OwnL W lo hi A1 ys) (ds.getD 7 true) (ds.getD 11 true) (ds.getD 12 true) (ds.getD 13 true) (ds.getD 14 true) v12 v13 lo hi D E w') (by kernel_rfl) ?h0 (by rfl) (by decide) ?hC ?hend ?hstep
  case h0 => exact ⟨undef, undef, undef, undef, undef, undef, undef, none, 0, none, 0, 0, 0, 0, 0, by go_simp, ⟨by decide, by decide, by decide, by decide, by decide, by decide⟩, (Ex.refl W2).drew, fun hb => absurd hb (by decide), fun hb => absurd hb (by decide), fun hb => absurd hb (by decide), fun hb => absurd hb (by decide), fun hb => absurd hb (by decide), fun hb => absurd hb (by decide), TwoR.start⟩
  case hC =>
    rintro ds a w' ⟨v33, v38, v30, v39, v40, v12, v13, A0, n0, A1, n1, lo, hi, D, E, rfl, ⟨hd0, hd1, hd3, hd4, hd5, hd6⟩, hE, hc2, h5, h6, h79, h710, h9, hT⟩
    exact HCF.out w' hE
  case hend =>
    rintro ds a w' ⟨v33, v38, v30, v39, v40, v12, v13, A0, n0, A1, n1, lo, hi, D, E, rfl, ⟨hd0, hd1, hd3, hd4, hd5, hd6⟩, hE, hc2, h5, h6, h79, h710, h9, hT⟩ hall
    have hcall := hall 7 (by decide)
    obtain ⟨rfl, hD1, hD, -⟩ := hT.box0 (hall 11 (by decide))
    obtain ⟨rfl, hE1, hH, -⟩ := hT.box1 (hall 12 (by decide))
    have hR := (hT.res hcall).1
    have hlo := h9 hcall
    rw [hall 13 (by decide)] at hD
    rw [hall 14 (by decide)] at hH
    have HE8 := Lib.hid (HE2.out.trans hE)
    have HX8 := Lib.hid hE
    have HBR := Lib.hid (HB32.out.ex hE)
    have HO := Lib.hid hR.2
    have g0 := hH.cell 0
    have g1 := hH.cell 1
    have c4 := HBR.out.cell 0
    have c4' := HBR.out.cell 1
    have f4 := HBR.out.free 0
    have f4' := HBR.out.free 1
    have hszz := hE.size
    clear hall hT hR hD hH hE hc2 h5 h6 h79 h710 h9 hcall hd0 hd1 hd3 hd4 hd5 hd6
    try simp only [Act.put]
    go_simp
    go_wp2_with fail
    have H4 := HBR.out.put2 (u := .int .i64 (d : Int)) (v := .slice A1 cn n1)
    have c4 := H4.cell 0
    have c4' := H4.cell 1
    refine bodyPost_ret (v := .tuple #[.agg #[.int .i64 (d : Int), .slice A1 cn n1], .int .i64 0]) (by simp [results, Tryz.results10, go_sem, c4, c4']) rfl (SqS.of HQ.out (by rw [HYL.out]) ((HE8.out.setCell (by show w.heap.size ≤ w.heap.size + 1 + 1 + 1; omega) _).setCell (by show w.heap.size ≤ w.heap.size + 1 + 1 + 1; omega) _) (((HO.out.above (Only.set _ _ _ _) (by omega)).above (Only.set _ _ _ _) (by omega)).mono (by omega) (by simpa using HO.out.le) (Nat.le_refl _)))
  case hstep =>
    rintro ds a w' ⟨v33, v38, v30, v39, v40, v12, v13, A0, n0, A1, n1, lo, hi, D, E, rfl, ⟨hd0, hd1, hd3, hd4, hd5, hd6⟩, hE, hc2, h5, h6, h79, h710, h9, hT⟩ j oj hoj hu hall
    have hjn : j < 15 := (Array.getElem?_eq_some_iff.1 hoj).1
    rcases (by omega : j = 0 ∨ j = 1 ∨ j = 3 ∨ j = 4 ∨ j = 5 ∨ j = 6 ∨ j = 2 ∨ j = 7 ∨ j = 8 ∨ j = 9 ∨ j = 10 ∨ j = 11 ∨ j = 12 ∨ j = 13 ∨ j = 14) with rfl | rfl | rfl | rfl | rfl | rfl | rfl | rfl | rfl | rfl | rfl | rfl | rfl | rfl | rfl
    · rw [hd0] at hu; cases hu
    · rw [hd1] at hu; cases hu
    · rw [hd3] at hu; cases hu
    · rw [hd4] at hu; cases hu
    · rw [hd5] at hu; cases hu
    · rw [hd6] at hu; cases hu
    · obtain rfl := Option.some.inj hoj
      clear hall
      refine wpOp_step rfl fun K' hK' => ?_
      have hK := Lib.hid hK'
      clear hK'
      rw [if_pos (by rfl)]
      try simp only [Act.put]
      go_simp
      refine (HGR.out w' (HE2.out.trans hE)).mono ?_
      rintro e w2 ⟨D', k', rfl, hv, -⟩
      refine hK.out _ _ ⟨_, v38, v30, v39, v40, v12, v13, A0, n0, A1, n1, lo, hi, D, E, by go_simp, ⟨bt_keep hd0, bt_keep hd1, bt_keep hd3, bt_keep hd4, bt_keep hd5, bt_keep hd6⟩, hE.trans hv, fun _ _ => ⟨D', k', rfl⟩, fun hb => h5 (bt_old hb (by decide : (7 : Nat) ≠ 2)), fun hb => ⟨bt_keep (h6 (bt_old hb (by decide : (8 : Nat) ≠ 2))).1, (h6 (bt_old hb (by decide : (8 : Nat) ≠ 2))).2⟩, fun hb => ⟨bt_keep (h79 (bt_old hb (by decide : (9 : Nat) ≠ 2))).1, (h79 (bt_old hb (by decide : (9 : Nat) ≠ 2))).2⟩, fun hb => ⟨bt_keep (h710 (bt_old hb (by decide : (10 : Nat) ≠ 2))).1, (h710 (bt_old hb (by decide : (10 : Nat) ≠ 2))).2⟩, fun hb => h9 (bt_old hb (by decide : (7 : Nat) ≠ 2)), ?_⟩
      rw [bt_ne (d := ds) (j := 2) (i := 7) (by decide), bt_ne (d := ds) (j := 2) (i := 11) (by decide), bt_ne (d := ds) (j := 2) (i := 12) (by decide), bt_ne (d := ds) (j := 2) (i := 13) (by decide), bt_ne (d := ds) (j := 2) (i := 14) (by decide)]
      exact hT.ex ((Kept.ownL _ _).and (Kept.ownL _ _)) hv
    · obtain rfl := Option.some.inj hoj
      obtain ⟨D2, k2, rfl⟩ := hc2 (hall ⟨2, .data⟩ (by simp) rfl) hu
      clear hall
      refine wpOp_step rfl fun K' hK' => ?_
      have hK := Lib.hid hK'
      clear hK'
      rw [if_pos (by rfl)]
      try simp only [Act.put]
      go_simp
      refine (HPL.out w' D2 k2 (HE2.out.trans hE)).mono ?_
      rintro e w2 ⟨A0', n0', A1', n1', rfl, hv, ho0, ho1⟩
      refine hK.out _ _ ⟨(.agg #[.slice D2 p k2]), _, v30, v39, v40, v12, v13, A0', n0', A1', n1', w'.heap.size, w2.heap.size, D, E, by go_simp, ⟨bt_keep hd0, bt_keep hd1, bt_keep hd3, bt_keep hd4, bt_keep hd5, bt_keep hd6⟩, hE.trans hv, fun _ hn => absurd hn (by rw [bt_self]; decide), fun _ => rfl, fun hb => absurd (h6 (bt_old hb (by decide : (8 : Nat) ≠ 7))).1 (by rw [hu]; decide), fun hb => absurd (h79 (bt_old hb (by decide : (9 : Nat) ≠ 7))).1 (by rw [hu]; decide), fun hb => absurd (h710 (bt_old hb (by decide : (10 : Nat) ≠ 7))).1 (by rw [hu]; decide), fun _ => hE.size, ?_⟩
      rw [bt_self (d := ds) (j := 7), bt_ne (d := ds) (j := 7) (i := 11) (by decide), bt_ne (d := ds) (j := 7) (i := 12) (by decide), bt_ne (d := ds) (j := 7) (i := 13) (by decide), bt_ne (d := ds) (j := 7) (i := 14) (by decide)]
      rw [hu] at hT; exact hT.call hv ⟨ho0, ho1⟩
    · obtain rfl := Option.some.inj hoj
      have hcall := (hall ⟨7, .data⟩ (by simp) rfl)
      obtain rfl := h5 hcall
      clear hall
      refine wpOp_step rfl fun K' hK' => ?_
      have hK := Lib.hid hK'
      clear hK'
      rw [if_pos (by rfl)]
      try simp only [Act.put]
      go_simp
      refine hK.out _ _ ⟨v33, (.tuple #[.agg #[.int .i64 m1, .slice A0 p n0], .agg #[.int .i64 (d : Int), .slice A1 cn n1]] : Value), (.tuple #[.agg #[.int .i64 m1, .slice A0 p n0], .agg #[.int .i64 (d : Int), .slice A1 cn n1]] : Value), v39, v40, v12, v13, A0, n0, A1, n1, lo, hi, D, E, by go_simp, ⟨bt_keep hd0, bt_keep hd1, bt_keep hd3, bt_keep hd4, bt_keep hd5, bt_keep hd6⟩, hE, fun hb hn => hc2 (bt_old hb (by decide : (2 : Nat) ≠ 8)) (bt_no hn), fun _ => rfl, fun _ => ⟨bt_keep hcall, rfl⟩, fun hb => ⟨bt_keep (h79 (bt_old hb (by decide : (9 : Nat) ≠ 8))).1, (h79 (bt_old hb (by decide : (9 : Nat) ≠ 8))).2⟩, fun hb => ⟨bt_keep (h710 (bt_old hb (by decide : (10 : Nat) ≠ 8))).1, (h710 (bt_old hb (by decide : (10 : Nat) ≠ 8))).2⟩, fun hb => h9 (bt_old hb (by decide : (7 : Nat) ≠ 8)), ?_⟩
      rw [bt_ne (d := ds) (j := 8) (i := 7) (by decide), bt_ne (d := ds) (j := 8) (i := 11) (by decide), bt_ne (d := ds) (j := 8) (i := 12) (by decide), bt_ne (d := ds) (j := 8) (i := 13) (by decide), bt_ne (d := ds) (j := 8) (i := 14) (by decide)]
      exact hT
    · obtain rfl := Option.some.inj hoj
      obtain ⟨hcall, rfl⟩ := h6 (hall ⟨8, .data⟩ (by simp) rfl)
      clear hall
      refine wpOp_step rfl fun K' hK' => ?_
      have hK := Lib.hid hK'
      clear hK'
      rw [if_pos (by rfl)]
      try simp only [Act.put]
      go_simp
      refine hK.out _ _ ⟨v33, v38, (.tuple #[.agg #[.int .i64 m1, .slice A0 p n0], .agg #[.int .i64 (d : Int), .slice A1 cn n1]] : Value), (.agg #[.int .i64 m1, .slice A0 p n0]), v40, v12, v13, A0, n0, A1, n1, lo, hi, D, E, by go_simp, ⟨bt_keep hd0, bt_keep hd1, bt_keep hd3, bt_keep hd4, bt_keep hd5, bt_keep hd6⟩, hE, fun hb hn => hc2 (bt_old hb (by decide : (2 : Nat) ≠ 9)) (bt_no hn), fun hb => h5 (bt_old hb (by decide : (7 : Nat) ≠ 9)), fun _ => ⟨bt_keep hcall, rfl⟩, fun _ => ⟨bt_keep hcall, rfl⟩, fun hb => ⟨bt_keep (h710 (bt_old hb (by decide : (10 : Nat) ≠ 9))).1, (h710 (bt_old hb (by decide : (10 : Nat) ≠ 9))).2⟩, fun hb => h9 (bt_old hb (by decide : (7 : Nat) ≠ 9)), ?_⟩
      rw [bt_ne (d := ds) (j := 9) (i := 7) (by decide), bt_ne (d := ds) (j := 9) (i := 11) (by decide), bt_ne (d := ds) (j := 9) (i := 12) (by decide), bt_ne (d := ds) (j := 9) (i := 13) (by decide), bt_ne (d := ds) (j := 9) (i := 14) (by decide)]
      exact hT
    · obtain rfl := Option.some.inj hoj
      obtain ⟨hcall, rfl⟩ := h6 (hall ⟨8, .data⟩ (by simp) rfl)
      clear hall
      refine wpOp_step rfl fun K' hK' => ?_
      have hK := Lib.hid hK'
      clear hK'
      rw [if_pos (by rfl)]
      try simp only [Act.put]
      go_simp
      refine hK.out _ _ ⟨v33, v38, (.tuple #[.agg #[.int .i64 m1, .slice A0 p n0], .agg #[.int .i64 (d : Int), .slice A1 cn n1]] : Value), v39, (.agg #[.int .i64 (d : Int), .slice A1 cn n1]), v12, v13, A0, n0, A1, n1, lo, hi, D, E, by go_simp, ⟨bt_keep hd0, bt_keep hd1, bt_keep hd3, bt_keep hd4, bt_keep hd5, bt_keep hd6⟩, hE, fun hb hn => hc2 (bt_old hb (by decide : (2 : Nat) ≠ 10)) (bt_no hn), fun hb => h5 (bt_old hb (by decide : (7 : Nat) ≠ 10)), fun _ => ⟨bt_keep hcall, rfl⟩, fun hb => ⟨bt_keep (h79 (bt_old hb (by decide : (9 : Nat) ≠ 10))).1, (h79 (bt_old hb (by decide : (9 : Nat) ≠ 10))).2⟩, fun _ => ⟨bt_keep hcall, rfl⟩, fun hb => h9 (bt_old hb (by decide : (7 : Nat) ≠ 10)), ?_⟩
      rw [bt_ne (d := ds) (j := 10) (i := 7) (by decide), bt_ne (d := ds) (j := 10) (i := 11) (by decide), bt_ne (d := ds) (j := 10) (i := 12) (by decide), bt_ne (d := ds) (j := 10) (i := 13) (by decide), bt_ne (d := ds) (j := 10) (i := 14) (by decide)]
      exact hT
    · obtain rfl := Option.some.inj hoj
      clear hall
      refine wpOp_step rfl fun K' hK' => ?_
      have hK := Lib.hid hK'
      clear hK'
      rw [if_pos (by rfl)]
      try simp only [Act.put]
      go_simp
      refine hK.out _ _ ⟨v33, v38, v30, v39, v40, (.pointer (some ⟨w'.heap.size, 0, none⟩)), v13, A0, n0, A1, n1, lo, hi, w'.heap.size, E, by go_simp, ⟨bt_keep hd0, bt_keep hd1, bt_keep hd3, bt_keep hd4, bt_keep hd5, bt_keep hd6⟩, hE.alloc _, fun hb hn => hc2 (bt_old hb (by decide : (2 : Nat) ≠ 11)) (bt_no hn), fun hb => h5 (bt_old hb (by decide : (7 : Nat) ≠ 11)), fun hb => ⟨bt_keep (h6 (bt_old hb (by decide : (8 : Nat) ≠ 11))).1, (h6 (bt_old hb (by decide : (8 : Nat) ≠ 11))).2⟩, fun hb => ⟨bt_keep (h79 (bt_old hb (by decide : (9 : Nat) ≠ 11))).1, (h79 (bt_old hb (by decide : (9 : Nat) ≠ 11))).2⟩, fun hb => ⟨bt_keep (h710 (bt_old hb (by decide : (10 : Nat) ≠ 11))).1, (h710 (bt_old hb (by decide : (10 : Nat) ≠ 11))).2⟩, fun hb => h9 (bt_old hb (by decide : (7 : Nat) ≠ 11)), ?_⟩
      rw [bt_ne (d := ds) (j := 11) (i := 7) (by decide), bt_self (d := ds) (j := 11), bt_ne (d := ds) (j := 11) (i := 12) (by decide), bt_ne (d := ds) (j := 11) (i := 13) (by decide), bt_ne (d := ds) (j := 11) (i := 14) (by decide)]
      rw [hu] at hT; exact hT.alloc0 ((Kept.ownL _ _).and (Kept.ownL _ _)) hE.size
    · obtain rfl := Option.some.inj hoj
      clear hall
      refine wpOp_step rfl fun K' hK' => ?_
      have hK := Lib.hid hK'
      clear hK'
      rw [if_pos (by rfl)]
      try simp only [Act.put]
      go_simp
      refine hK.out _ _ ⟨v33, v38, v30, v39, v40, v12, (.pointer (some ⟨w'.heap.size, 0, none⟩)), A0, n0, A1, n1, lo, hi, D, w'.heap.size, by go_simp, ⟨bt_keep hd0, bt_keep hd1, bt_keep hd3, bt_keep hd4, bt_keep hd5, bt_keep hd6⟩, hE.alloc _, fun hb hn => hc2 (bt_old hb (by decide : (2 : Nat) ≠ 12)) (bt_no hn), fun hb => h5 (bt_old hb (by decide : (7 : Nat) ≠ 12)), fun hb => ⟨bt_keep (h6 (bt_old hb (by decide : (8 : Nat) ≠ 12))).1, (h6 (bt_old hb (by decide : (8 : Nat) ≠ 12))).2⟩, fun hb => ⟨bt_keep (h79 (bt_old hb (by decide : (9 : Nat) ≠ 12))).1, (h79 (bt_old hb (by decide : (9 : Nat) ≠ 12))).2⟩, fun hb => ⟨bt_keep (h710 (bt_old hb (by decide : (10 : Nat) ≠ 12))).1, (h710 (bt_old hb (by decide : (10 : Nat) ≠ 12))).2⟩, fun hb => h9 (bt_old hb (by decide : (7 : Nat) ≠ 12)), ?_⟩
      rw [bt_ne (d := ds) (j := 12) (i := 7) (by decide), bt_ne (d := ds) (j := 12) (i := 11) (by decide), bt_self (d := ds) (j := 12), bt_ne (d := ds) (j := 12) (i := 13) (by decide), bt_ne (d := ds) (j := 12) (i := 14) (by decide)]
      rw [hu] at hT; exact hT.alloc1 ((Kept.ownL _ _).and (Kept.ownL _ _)) hE.size
    · obtain rfl := Option.some.inj hoj
      obtain ⟨hcall, rfl⟩ := h79 (hall ⟨9, .data⟩ (by simp) rfl)
      have hal := (hall ⟨11, .data⟩ (by simp) rfl)
      obtain ⟨rfl, hDl, hDH, -⟩ := hT.box0 hal
      rw [hu] at hDH
      have hDD : Has w' D 38 #[.int .i64 0, .slice none 0 0] := hDH
      clear hDH
      have k0 := hDD.cell 0
      have f0 := hDD.free 0
      have k1 := hDD.cell 1
      have f1 := hDD.free 1
      clear hall
      refine wpOp_step rfl fun K' hK' => ?_
      have hK := Lib.hid hK'
      clear hK'
      rw [if_pos (by rfl)]
      try simp only [Act.put]
      go_simp
      refine hK.out _ _ ⟨v33, v38, v30, (.agg #[.int .i64 m1, .slice A0 p n0]), v40, (.pointer (some ⟨D, 0, none⟩)), v13, A0, n0, A1, n1, lo, hi, D, E, by go_simp, ⟨bt_keep hd0, bt_keep hd1, bt_keep hd3, bt_keep hd4, bt_keep hd5, bt_keep hd6⟩, ((hE.setCell (p := ⟨D, 0, none⟩) hDl _).setCell (p := ⟨D, 1, none⟩) hDl _), fun _ hn => absurd hn (by rw [bt_keep hcall]; decide), fun hb => h5 (bt_old hb (by decide : (7 : Nat) ≠ 13)), fun hb => ⟨bt_keep (h6 (bt_old hb (by decide : (8 : Nat) ≠ 13))).1, (h6 (bt_old hb (by decide : (8 : Nat) ≠ 13))).2⟩, fun _ => ⟨bt_keep hcall, rfl⟩, fun hb => ⟨bt_keep (h710 (bt_old hb (by decide : (10 : Nat) ≠ 13))).1, (h710 (bt_old hb (by decide : (10 : Nat) ≠ 13))).2⟩, fun hb => h9 (bt_old hb (by decide : (7 : Nat) ≠ 13)), ?_⟩
      rw [bt_ne (d := ds) (j := 13) (i := 7) (by decide), bt_ne (d := ds) (j := 13) (i := 11) (by decide), bt_ne (d := ds) (j := 13) (i := 12) (by decide), bt_self (d := ds) (j := 13), bt_ne (d := ds) (j := 13) (i := 14) (by decide)]
      rw [hcall, hal] at hT ⊢; exact hT.store0 ((Kept.ownL _ _).and (Kept.ownL _ _)) ((Only.set _ D 0 _).trans (Only.set _ D 1 _) (Nat.le_refl _) (Nat.le_refl _)) hDD.put2
    · obtain rfl := Option.some.inj hoj
      obtain ⟨hcall, rfl⟩ := h710 (hall ⟨10, .data⟩ (by simp) rfl)
      have hal := (hall ⟨12, .data⟩ (by simp) rfl)
      obtain ⟨rfl, hDl, hDH, -⟩ := hT.box1 hal
      rw [hu] at hDH
      have hDD : Has w' E 33 #[.int .i64 0, .slice none 0 0] := hDH
      clear hDH
      have k0 := hDD.cell 0
      have f0 := hDD.free 0
      have k1 := hDD.cell 1
      have f1 := hDD.free 1
      clear hall
      refine wpOp_step rfl fun K' hK' => ?_
      have hK := Lib.hid hK'
      clear hK'
      rw [if_pos (by rfl)]
      try simp only [Act.put]
      go_simp
      refine hK.out _ _ ⟨v33, v38, v30, v39, (.agg #[.int .i64 (d : Int), .slice A1 cn n1]), v12, (.pointer (some ⟨E, 0, none⟩)), A0, n0, A1, n1, lo, hi, D, E, by go_simp, ⟨bt_keep hd0, bt_keep hd1, bt_keep hd3, bt_keep hd4, bt_keep hd5, bt_keep hd6⟩, ((hE.setCell (p := ⟨E, 0, none⟩) hDl _).setCell (p := ⟨E, 1, none⟩) hDl _), fun _ hn => absurd hn (by rw [bt_keep hcall]; decide), fun hb => h5 (bt_old hb (by decide : (7 : Nat) ≠ 14)), fun hb => ⟨bt_keep (h6 (bt_old hb (by decide : (8 : Nat) ≠ 14))).1, (h6 (bt_old hb (by decide : (8 : Nat) ≠ 14))).2⟩, fun hb => ⟨bt_keep (h79 (bt_old hb (by decide : (9 : Nat) ≠ 14))).1, (h79 (bt_old hb (by decide : (9 : Nat) ≠ 14))).2⟩, fun _ => ⟨bt_keep hcall, rfl⟩, fun hb => h9 (bt_old hb (by decide : (7 : Nat) ≠ 14)), ?_⟩
      rw [bt_ne (d := ds) (j := 14) (i := 7) (by decide), bt_ne (d := ds) (j := 14) (i := 11) (by decide), bt_ne (d := ds) (j := 14) (i := 12) (by decide), bt_ne (d := ds) (j := 14) (i := 13) (by decide), bt_self (d := ds) (j := 14)]
      rw [hcall, hal] at hT ⊢; exact hT.store1 ((Kept.ownL _ _).and (Kept.ownL _ _)) ((Only.set _ E 0 _).trans (Only.set _ E 1 _) (Nat.le_refl _) (Nat.le_refl _)) hDD.put2

set_option maxRecDepth 100000 in
set_option maxHeartbeats 8000000 in
theorem specRst_off (t0 : List (List Int)) (m1 : Int) (t1 t2 : List Int) (m3 : Int) (t3 : List Int) (hg : gmcB t0 m1 t1 m3 t3 = true) (hz : ¬ sgC t0 t2 [] = 0) : ∀ (B0 : Option Addr) (d0 : Nat) (B1 : Option Addr) (d1 : Nat) (B2 : Option Addr) (d2 : Nat) (B3 : Option Addr) (d3 : Nat) (W : World), RwsW W B0 t0 → IntsW W B1 t1 → IntsW W B2 t2 → IntsW W B3 t3 → SmallT t0 → t1.length ≤ 1048576 → t2.length ≤ 1048576 → t3.length ≤ 1048576 →
    Calls Tryz.prog 10 #[.agg #[.slice B0 t0.length d0], .agg #[.int .i64 m1, .slice B1 t1.length d1], .slice B2 t2.length d2, .agg #[.int .i64 m3, .slice B3 t3.length d3]] W (SqS (qRestrictCochain0 t0 m1 t1 t2 m3 t3) (yRestrictCochain0 t0 m1 t1 t2 m3 t3) (qRestrictCochain1 t0 m1 t1 t2 m3 t3) W) := by
  intro B0 d0 B1 d1 B2 d2 B3 d3 w hR hU hX hF hs hu hx hf
  have e0 : Ex w ((((w.alloc (.cells #[.slice B0 t0.length d0] 36)).alloc (.cells #[.int .i64 m1, .slice B1 t1.length d1] 38)).alloc (.cells #[.int .i64 m3, .slice B3 t3.length d3] 33)).alloc (.cells #[.int .i64 0, .slice none 0 0] 33)) := ((((Ex.refl w).alloc _).alloc _).alloc _).alloc _
  have b0 : Has ((((w.alloc (.cells #[.slice B0 t0.length d0] 36)).alloc (.cells #[.int .i64 m1, .slice B1 t1.length d1] 38)).alloc (.cells #[.int .i64 m3, .slice B3 t3.length d3] 33)).alloc (.cells #[.int .i64 0, .slice none 0 0] 33)) (w.heap.size) 36 #[.slice B0 t0.length d0] := ((((Has.newAt (w := w) (e := 36) (cs := #[.slice B0 t0.length d0]) (k := w.heap.size) (by simp)).alloc _).alloc _).alloc _)
  have b1 : Has ((((w.alloc (.cells #[.slice B0 t0.length d0] 36)).alloc (.cells #[.int .i64 m1, .slice B1 t1.length d1] 38)).alloc (.cells #[.int .i64 m3, .slice B3 t3.length d3] 33)).alloc (.cells #[.int .i64 0, .slice none 0 0] 33)) (w.heap.size + 1) 38 #[.int .i64 m1, .slice B1 t1.length d1] := (((Has.newAt (w := (w.alloc (.cells #[.slice B0 t0.length d0] 36))) (e := 38) (cs := #[.int .i64 m1, .slice B1 t1.length d1]) (k := w.heap.size + 1) (by simp)).alloc _).alloc _)
  have b2 : Has ((((w.alloc (.cells #[.slice B0 t0.length d0] 36)).alloc (.cells #[.int .i64 m1, .slice B1 t1.length d1] 38)).alloc (.cells #[.int .i64 m3, .slice B3 t3.length d3] 33)).alloc (.cells #[.int .i64 0, .slice none 0 0] 33)) (w.heap.size + 1 + 1) 33 #[.int .i64 m3, .slice B3 t3.length d3] := ((Has.newAt (w := ((w.alloc (.cells #[.slice B0 t0.length d0] 36)).alloc (.cells #[.int .i64 m1, .slice B1 t1.length d1] 38))) (e := 33) (cs := #[.int .i64 m3, .slice B3 t3.length d3]) (k := w.heap.size + 1 + 1) (by simp)).alloc _)
  have b3 : Has ((((w.alloc (.cells #[.slice B0 t0.length d0] 36)).alloc (.cells #[.int .i64 m1, .slice B1 t1.length d1] 38)).alloc (.cells #[.int .i64 m3, .slice B3 t3.length d3] 33)).alloc (.cells #[.int .i64 0, .slice none 0 0] 33)) (w.heap.size + 1 + 1 + 1) 33 #[.int .i64 0, .slice none 0 0] := (Has.newAt (w := (((w.alloc (.cells #[.slice B0 t0.length d0] 36)).alloc (.cells #[.int .i64 m1, .slice B1 t1.length d1] 38)).alloc (.cells #[.int .i64 m3, .slice B3 t3.length d3] 33))) (e := 33) (cs := #[.int .i64 0, .slice none 0 0]) (k := w.heap.size + 1 + 1 + 1) (by simp))
  have HC := Lib.hid (fun W kb (he : Ex w W) (hk : Has W kb 33 #[.int .i64 m3, .slice B3 t3.length d3]) => l03Code1_ex B0 B1 B3 t0 m1 t1 m3 t3 d0 d1 d3 kb W (hR.ex he) (hU.ex he) (hF.ex he) hs hu hf hk)
  have HSG := Lib.hid (fun W (he : Ex w W) => l07Code_any B0 B2 t0 t2 d0 d2 W (hR.ex he) (hX.ex he) hs hx)
  have HE0 := Lib.hid e0
  have HSZ : Hid (((((w.alloc (.cells #[.slice B0 t0.length d0] 36)).alloc (.cells #[.int .i64 m1, .slice B1 t1.length d1] 38)).alloc (.cells #[.int .i64 m3, .slice B3 t3.length d3] 33)).alloc (.cells #[.int .i64 0, .slice none 0 0] 33)).heap.size = w.heap.size + 1 + 1 + 1 + 1) := Lib.hid (by simp)
  have HB0 := Lib.hid b0
  have HB1 := Lib.hid b1
  have HB2 := Lib.hid b2
  have HB3 := Lib.hid b3
  have k0 := b0.cell 0
  have k1 := b1.cell 0
  have k1' := b1.cell 1
  have k2 := b2.cell 0
  have k2' := b2.cell 1
  have hlb := b3.lt
  have hlw := e0.size
  clear b0 b1 b2 b3 e0
  rw [hg, if_pos rfl] at HC
  obtain ⟨z, hzz⟩ : ∃ z, sgC t0 t2 [] = z := ⟨_, rfl⟩
  have HQ := Lib.hid (rst_no ((rcC_yes hg).trans hzz) (hzz ▸ hz))
  rw [hzz] at HSG hz
  have hzb : (z != 0) = true := by simpa using hz
  clear hz hzz hg hR hU hX hF hs hu hx hf
  go_enter Tryz.func10, Tryz.ntmps10
  go_wp2_with fail
  generalize ((((w.alloc (.cells #[.slice B0 t0.length d0] 36)).alloc (.cells #[.int .i64 m1, .slice B1 t1.length d1] 38)).alloc (.cells #[.int .i64 m3, .slice B3 t3.length d3] 33)).alloc (.cells #[.int .i64 0, .slice none 0 0] 33)) = W0 at *
  have hb5 : Has (W0.alloc (.cells #[.int .i64 m3, .slice B3 t3.length d3] 33)) (w.heap.size + 1 + 1 + 1 + 1) 33 #[.int .i64 m3, .slice B3 t3.length d3] := by
    have h := Has.new W0 33 #[.int .i64 m3, .slice B3 t3.length d3]
    rw [HSZ.out] at h
    exact h
  refine (HC.out _ (w.heap.size + 1 + 1 + 1 + 1) (HE0.out.alloc _) hb5).mono ?_
  clear hb5
  rintro e W1 ⟨rfl, he1⟩
  have HX1 := Lib.hid ((Ex.new W0 (.cells #[.int .i64 m3, .slice B3 t3.length d3] 33)).trans he1)
  have HE1 := Lib.hid (HE0.out.trans HX1.out)
  clear he1 k0 k1 k1' k2 k2'
  have q0 := (HB0.out.ex HX1.out).cell 0
  go_wp2_with fail
  refine (HSG.out W1 HE1.out).mono ?_
  rintro e W2 ⟨rfl, he2⟩
  have HE2 := Lib.hid (HE1.out.trans he2)
  have HB32 := Lib.hid ((HB3.out.ex HX1.out).ex he2)
  clear he2 q0
  have HBR := Lib.hid HB32.out
  have c4 := HBR.out.cell 0
  have c4' := HBR.out.cell 1
  have f4 := HBR.out.free 0
  have f4' := HBR.out.free 1
  go_wp2_with fail
  have H4 := HBR.out.put2 (u := .int .i64 0) (v := .slice none 0 0)
  have c4 := H4.cell 0
  have c4' := H4.cell 1
  refine bodyPost_ret (v := .tuple #[.agg #[.int .i64 0, .slice none 0 0], .int .i64 z]) (by simp [results, Tryz.results10, go_sem, c4, c4']) rfl (SqS.err HQ.out rfl ((HE2.out.setCell (by show w.heap.size ≤ w.heap.size + 1 + 1 + 1; omega) _).setCell (by show w.heap.size ≤ w.heap.size + 1 + 1 + 1; omega) _))


theorem specRestrictCochain_ex (t0 : List (List Int)) (m1 : Int) (t1 t2 : List Int) (m3 : Int) (t3 : List Int) : ∀ (B0 : Option Addr) (d0 : Nat) (B1 : Option Addr) (d1 : Nat) (B2 : Option Addr) (d2 : Nat) (B3 : Option Addr) (d3 : Nat) (W : World), RwsW W B0 t0 → IntsW W B1 t1 → IntsW W B2 t2 → IntsW W B3 t3 → SmallT t0 → t1.length ≤ 1048576 → t2.length ≤ 1048576 → t3.length ≤ 1048576 →
    Calls Tryz.prog 10 #[.agg #[.slice B0 t0.length d0], .agg #[.int .i64 m1, .slice B1 t1.length d1], .slice B2 t2.length d2, .agg #[.int .i64 m3, .slice B3 t3.length d3]] W (SqS (qRestrictCochain0 t0 m1 t1 t2 m3 t3) (yRestrictCochain0 t0 m1 t1 t2 m3 t3) (qRestrictCochain1 t0 m1 t1 t2 m3 t3) W) := by
  cases hg : gmcB t0 m1 t1 m3 t3 with
  | false => exact specRst_no t0 m1 t1 t2 m3 t3 hg
  | true =>
    by_cases hz : sgC t0 t2 [] = 0
    · exact specRst_on t0 m1 t1 t2 m3 t3 hg hz
    · exact specRst_off t0 m1 t1 t2 m3 t3 hg hz

end Go.Proofs.YtfnjpbjlikajbaaGreatDoor
