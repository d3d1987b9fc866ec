/- Chapter 8: ConnectingCochain, the program's contract. -/
import Derived.Test.YtllkaoacfchibaaGreatDoorWm
import Derived.Test.YtllkaoacfchibaaGreatDoorWk
import Derived.Test.YtllkaoacfchibaaGreatDoorSh
namespace Go.Proofs.YtllkaoacfchibaaGreatDoor
open Go.RowKit

set_option maxRecDepth 100000 in
set_option maxHeartbeats 8000000 in
theorem implConnectingCochain_ex (t0 : List (List Int)) (m1 : Int) (t1 : List Int) (m2 m3 : Int) (t3 : List Int) : ∀ (B0 : Option Addr) (d0 : Nat) (B1 : Option Addr) (d1 : Nat) (B3 : Option Addr) (d3 : Nat) (W : World), RwsW W B0 t0 → IntsW W B1 t1 → IntsW W B3 t3 → SmallT t0 → t1.length ≤ 1048576 → t3.length ≤ 1048576 → ErrD W →
    Calls Tryz.prog 16 #[.agg #[.slice B0 t0.length d0], .agg #[.int .i64 m1, .slice B1 t1.length d1], .int .i64 m2, .agg #[.int .i64 m3, .slice B3 t3.length d3]] W (SqS (qConnectingCochain0 t0 m1 t1 m2 m3 t3) (yConnectingCochain0 t0 m1 t1 m2 m3 t3) (qConnectingCochain1 t0 m1 t1 m2 m3 t3) W) := by
  intro B0 d0 B1 d1 B3 d3 w hR hX hF hs hx hf hE
  have e0 : Ex w ((((w.alloc (.cells #[.slice B0 t0.length d0] 36)).alloc (.cells #[.int .i64 m1, .slice B1 t1.length d1] 38)).alloc (.cells #[.int .i64 m3, .slice B3 t3.length d3] 33)).alloc (.cells #[.int .i64 0, .slice none 0 0] 33)) := ((((Ex.refl w).alloc _).alloc _).alloc _).alloc _
  have b0 : Has ((((w.alloc (.cells #[.slice B0 t0.length d0] 36)).alloc (.cells #[.int .i64 m1, .slice B1 t1.length d1] 38)).alloc (.cells #[.int .i64 m3, .slice B3 t3.length d3] 33)).alloc (.cells #[.int .i64 0, .slice none 0 0] 33)) (w.heap.size) 36 #[.slice B0 t0.length d0] := ((((Has.newAt (w := w) (e := 36) (cs := #[.slice B0 t0.length d0]) (k := w.heap.size) (by simp)).alloc _).alloc _).alloc _)
  have b1 : Has ((((w.alloc (.cells #[.slice B0 t0.length d0] 36)).alloc (.cells #[.int .i64 m1, .slice B1 t1.length d1] 38)).alloc (.cells #[.int .i64 m3, .slice B3 t3.length d3] 33)).alloc (.cells #[.int .i64 0, .slice none 0 0] 33)) (w.heap.size + 1) 38 #[.int .i64 m1, .slice B1 t1.length d1] := (((Has.newAt (w := (w.alloc (.cells #[.slice B0 t0.length d0] 36))) (e := 38) (cs := #[.int .i64 m1, .slice B1 t1.length d1]) (k := w.heap.size + 1) (by simp)).alloc _).alloc _)
  have b2 : Has ((((w.alloc (.cells #[.slice B0 t0.length d0] 36)).alloc (.cells #[.int .i64 m1, .slice B1 t1.length d1] 38)).alloc (.cells #[.int .i64 m3, .slice B3 t3.length d3] 33)).alloc (.cells #[.int .i64 0, .slice none 0 0] 33)) (w.heap.size + 1 + 1) 33 #[.int .i64 m3, .slice B3 t3.length d3] := ((Has.newAt (w := ((w.alloc (.cells #[.slice B0 t0.length d0] 36)).alloc (.cells #[.int .i64 m1, .slice B1 t1.length d1] 38))) (e := 33) (cs := #[.int .i64 m3, .slice B3 t3.length d3]) (k := w.heap.size + 1 + 1) (by simp)).alloc _)
  have b3 : Has ((((w.alloc (.cells #[.slice B0 t0.length d0] 36)).alloc (.cells #[.int .i64 m1, .slice B1 t1.length d1] 38)).alloc (.cells #[.int .i64 m3, .slice B3 t3.length d3] 33)).alloc (.cells #[.int .i64 0, .slice none 0 0] 33)) (w.heap.size + 1 + 1 + 1) 33 #[.int .i64 0, .slice none 0 0] := (Has.newAt (w := (((w.alloc (.cells #[.slice B0 t0.length d0] 36)).alloc (.cells #[.int .i64 m1, .slice B1 t1.length d1] 38)).alloc (.cells #[.int .i64 m3, .slice B3 t3.length d3] 33))) (e := 33) (cs := #[.int .i64 0, .slice none 0 0]) (k := w.heap.size + 1 + 1 + 1) (by simp))
  have hXe : ∀ M K Q : Nat, m1 = (M : Int) → m2 = (K : Int) → SeqF M K Q → M ≤ 12 → ouN m1 m2 = ((fun _ _ Q => Q : Nat → Nat → Nat → Nat) M K Q : Int) ∧ (fun _ _ Q => Q : Nat → Nat → Nat → Nat) M K Q ≤ 12 := fun M K Q h1 h2 hS hM => by
    have hQM : Q ≤ M := by have := hS.div; rw [← this]; exact Nat.div_le_self _ _
    subst h1 h2
    exact ⟨ouN_eq hS, by show Q ≤ 12; omega⟩
  have HC := Lib.hid (mapFor_any (fun A U => RwsW ((((w.alloc (.cells #[.slice B0 t0.length d0] 36)).alloc (.cells #[.int .i64 m1, .slice B1 t1.length d1] 38)).alloc (.cells #[.int .i64 m3, .slice B3 t3.length d3] 33)).alloc (.cells #[.int .i64 0, .slice none 0 0] 33)) A t0 ∧ IntsW ((((w.alloc (.cells #[.slice B0 t0.length d0] 36)).alloc (.cells #[.int .i64 m1, .slice B1 t1.length d1] 38)).alloc (.cells #[.int .i64 m3, .slice B3 t3.length d3] 33)).alloc (.cells #[.int .i64 0, .slice none 0 0] 33)) U t1) 47 _ _ _ _ _ B0 B1 B3 t0 m1 t1 m2 (ouN m1 m2) m3 t3 d0 d1 d3 _ (hR.ex e0) (hX.ex e0) (hF.ex e0) hs hx hf (hE.ex e0) (fun M hm hF => connection_map t0 m1.toNat t1 (by subst hm; exact hF) _) ⟨hR.ex e0, hX.ex e0⟩ hXe)
  have HRR := Lib.hid (fun W (he : Ex w W) => hR.ex he)
  have HFF := Lib.hid (fun W (he : Ex w W) => hF.ex he)
  have HE0 := Lib.hid e0
  have HB0 := Lib.hid b0
  have HB2 := Lib.hid b2
  have HB3 := Lib.hid b3
  have k0 := b0.cell 0
  have k1 := b1.cell 0
  have k1' := b1.cell 1
  have k2 := b2.cell 0
  have k2' := b2.cell 1
  have hlw := e0.size
  have hlb := b3.lt
  clear hR hX hF hs hx hf hE hXe b0 b1 b2 b3 e0
  go_enter Tryz.func16, Tryz.ntmps16
  go_wp2_with fail
  generalize ((((w.alloc (.cells #[.slice B0 t0.length d0] 36)).alloc (.cells #[.int .i64 m1, .slice B1 t1.length d1] 38)).alloc (.cells #[.int .i64 m3, .slice B3 t3.length d3] 33)).alloc (.cells #[.int .i64 0, .slice none 0 0] 33)) = W0 at *
  refine HC.out.mono ?_
  rintro e W2 h
  clear HC
  rcases h with ⟨M, K, Q, AX, nX, Y, AY, lY, nY, more, kf, cap, hgv, rfl, rfl, hMF, hS, rfl, he2, hI, lo, hLD⟩ | ⟨hz, rfl, he2⟩
  · obtain ⟨hsq, hco⟩ := gvC_f hgv
    rw [ouN_eq hS] at hco
    obtain ⟨d, rfl, hd3, hlen, h343, hfr⟩ := coc_f hMF.g.n8 hco
    obtain ⟨M', K', Q', e1, e2, -, hS', -, -, hgQ⟩ := sqC_f hsq
    obtain rfl : M = M' := by omega
    obtain rfl : K = K' := by omega
    obtain rfl : Q = Q' := hS.div.symm.trans hS'.div
    obtain ⟨Qx, hQx, hMQ⟩ := gmB_f hgQ
    obtain rfl : Q = Qx := by omega
    have hsf := fun (a : Addr) (w : World) => run_store Tryz.prog w a (.func (.func kf) #[] cap) .plain rfl
    have hEn := Ex.new W2 (.cells #[.int .i64 (Q : Int), .slice AX (rdL t1 Q).length nX, .int .i64 Y, .slice AY lY nY, .int .i64 more, .func (.func kf) #[] cap] 69)
    have hx9 := he2.trans hEn
    have b9 := Has.new W2 69 #[.int .i64 (Q : Int), .slice AX (rdL t1 Q).length nX, .int .i64 Y, .slice AY lY nY, .int .i64 more, .func (.func kf) #[] cap]
    have HB9 := Lib.hid b9
    have HX9 := Lib.hid hx9
    have HE9 := Lib.hid (HE0.out.trans hx9)
    have HI9 := Lib.hid (hI.ex hEn)
    have HLD := Lib.hid (hLD.goes (Goes.of_ex hEn))
    have q0 := (HB0.out.ex hx9).cell 0
    have q2 := (HB2.out.ex hx9).cell 0
    have q2' := (HB2.out.ex hx9).cell 1
    have HB39 := Lib.hid (HB3.out.ex hx9)
    have hs2 := he2.size
    have hs9 := hEn.size
    have HGV := Lib.hid hgv
    have HSD := Lib.hid hS.div
    have HCY := Lib.hid (fun W (he : Ex w W) (hIW : IntsW W AX (rdL t1 Q)) => isCocycle_any B0 AX B3 t0 Q d (rdL t1 Q) t3 d0 nX d3 W (HRR.out W he) hIW (HFF.out W he) hMQ hd3 hlen hfr)
    have HCN := Lib.hid (fun (h : ¬ 2 < (d : Int)) => (⟨rfl, d, rfl, by omega, hlen, hfr⟩ : M = ((M : Int)).toNat ∧ ConL t0 Q (d : Int) t3))
    have p0 := b9.cell 0
    have p1 := b9.cell 1
    have p5 := b9.cell 5
    clear hgv hsq hco hMF hS hS' hlen h343 hfr e1 e2 hgQ hQx hMQ he2 hI hLD hEn hx9 b9 k0 k1 k1' k2 k2'
    go_upto_region 2 with fail
    generalize W2.alloc (.cells #[.int .i64 (Q : Int), .slice AX (rdL t1 Q).length nX, .int .i64 Y, .slice AY lY nY, .int .i64 more, .func (.func kf) #[] cap] 69) = W9 at *
    by_cases h2 : 2 < (d : Int)
    · have HQ := Lib.hid (con_no (cnC_deg HGV.out h2) (by decide))
      have HBR := Lib.hid HB39.out
      have c4 := HBR.out.cell 0
      have c4' := HBR.out.cell 1
      have f4 := HBR.out.free 0
      have f4' := HBR.out.free 1
      go_wp2_with fail
      go_wp2_with fail
      have H4 := HBR.out.put2 (u := .int .i64 0) (v := .slice none 0 0)
      have c4 := H4.cell 0
      have c4' := H4.cell 1
      refine bodyPost_ret (v := .tuple #[.agg #[.int .i64 0, .slice none 0 0], .int .i64 2]) (by simp [results, Tryz.results16, go_sem, c4, c4']) rfl (SqS.err HQ.out rfl ((HE9.out.setCell (by show w.heap.size ≤ w.heap.size + 1 + 1 + 1; omega) _).setCell (by show w.heap.size ≤ w.heap.size + 1 + 1 + 1; omega) _))
    · go_wp2_with fail
      refine (HCY.out W9 HE9.out HI9.out).mono ?_
      rintro e W10 ⟨rfl, he10⟩
      have HE10 := Lib.hid (HE9.out.trans he10)
      have HB10 := Lib.hid (HB39.out.ex he10)
      have r5 := (HB9.out.ex he10).cell 5
      have r2 := (HB2.out.ex (HX9.out.trans he10)).cell 0
      have r2' := (HB2.out.ex (HX9.out.trans he10)).cell 1
      have hs10 := he10.size
      have c0 := HB10.out.cell 0
      have c0' := HB10.out.cell 1
      have f0 := HB10.out.free 0
      have f0' := HB10.out.free 1
      have HLE := Lib.hid (HLD.out.goes (Goes.of_ex he10))
      clear he10 p0 p1 p5 q0 q2 q2'
      cases hcy : cyB t0 Q d (rdL t1 Q) t3 with
      | false =>
        have HQ := Lib.hid (con_no (cnC_st HGV.out (by omega) HSD.out hcy) (by decide))
        have HBR := Lib.hid HB10.out
        go_wp2_with fail
        go_wp2_with fail
        have H4 := HBR.out.put2 (u := .int .i64 0) (v := .slice none 0 0)
        have c4 := H4.cell 0
        have c4' := H4.cell 1
        refine bodyPost_ret (v := .tuple #[.agg #[.int .i64 0, .slice none 0 0], .int .i64 5]) (by simp [results, Tryz.results16, go_sem, c4, c4']) rfl (SqS.err HQ.out rfl ((HE10.out.setCell (by show w.heap.size ≤ w.heap.size + 1 + 1 + 1; omega) _).setCell (by show w.heap.size ≤ w.heap.size + 1 + 1 + 1; omega) _))
      | true =>
        have HQ := Lib.hid (con_yes (cnC_yes HGV.out (by omega) HSD.out hcy) HSD.out)
        have hegk := HLE.out.1
        have HL := Lib.hid (HLE.out.2 _ (Goes.of_ex (Ex.refl _)) B3 (d : Int) t3 d3 (HFF.out _ HE10.out) (HCN.out (by omega)))
        go_wp2_with fail
        refine HL.out.mono ?_
        rintro e W11 ⟨C0, n0, rfl, he11, hO⟩
        have HYY : Hid (dvL (bdY t0 M ((d : Int)).toNat t1 t3) Q = dvL (bdY t0 M d t1 t3) Q) := Lib.hid (by rw [Int.toNat_natCast])
        obtain ⟨yy, hyy⟩ : ∃ yy, dvL (bdY t0 M d t1 t3) Q = yy := ⟨_, rfl⟩
        have hO' : OwnL W11 W10.heap.size W11.heap.size C0 yy := by rw [← hyy]; exact hO
        have HY2 := Lib.hid hyy
        have HBR := Lib.hid (HB10.out.ex he11)
        have HE11 := Lib.hid (HE10.out.trans he11)
        have HO := Lib.hid hO'
        have hlt : w.heap.size + 1 + 1 + 1 < W10.heap.size := by omega
        have c4 := HBR.out.cell 0
        have c4' := HBR.out.cell 1
        have f4 := HBR.out.free 0
        have f4' := HBR.out.free 1
        rw [show (dvL (bdY t0 M ((d : Int)).toNat t1 t3) Q).length = yy.length by rw [HYY.out, hyy]]
        clear he11 hO hO' hyy hegk r5 r2 r2' HL
        go_wp2_with fail
        have H4 := HBR.out.put2 (u := .int .i64 ((d : Int) + 1)) (v := .slice C0 yy.length n0)
        have c4 := H4.cell 0
        have c4' := H4.cell 1
        refine bodyPost_ret (v := .tuple #[.agg #[.int .i64 ((d : Int) + 1), .slice C0 yy.length n0], .int .i64 0]) (by simp [results, Tryz.results16, go_sem, c4, c4']) rfl (SqS.of HQ.out (by rw [HY2.out]) ((HE11.out.setCell (by show w.heap.size ≤ w.heap.size + 1 + 1 + 1; omega) _).setCell (by show w.heap.size ≤ w.heap.size + 1 + 1 + 1; omega) _) (by rw [HY2.out]; exact ((HO.out.above (Only.set _ _ _ _) hlt).above (Only.set _ _ _ _) hlt).mono HE10.out.size (by simp) (Nat.le_refl _)))
  · obtain ⟨z, hzz⟩ : ∃ z, gvC t0 m1 t1 m2 (ouN m1 m2) m3 t3 = z := ⟨_, rfl⟩
    have HQ := Lib.hid (con_no (cnC_no hzz (hzz ▸ hz)) (hzz ▸ hz))
    rw [hzz] at hz ⊢
    have hzb : (z != 0) = true := by simpa using hz
    have hsn := fun (a : Addr) (w : World) => run_store Tryz.prog w a .nilFunc .plain rfl
    have HE9 := Lib.hid ((HE0.out.trans he2).alloc (.cells #[.int .i64 0, .slice none 0 0, .int .i64 0, .slice none 0 0, .int .i64 0, .nilFunc] 69))
    have HBR := Lib.hid ((HB3.out.ex he2).alloc (.cells #[.int .i64 0, .slice none 0 0, .int .i64 0, .slice none 0 0, .int .i64 0, .nilFunc] 69))
    have c4 := HBR.out.cell 0
    have c4' := HBR.out.cell 1
    have f4 := HBR.out.free 0
    have f4' := HBR.out.free 1
    clear hz hzz he2 k0 k1 k1' k2 k2'
    go_upto_region 2 with fail
    generalize W2.alloc (.cells #[.int .i64 0, .slice none 0 0, .int .i64 0, .slice none 0 0, .int .i64 0, .nilFunc] 69) = W9 at *
    go_wp2_with fail
    go_wp2_with fail
    have H4 := HBR.out.put2 (u := .int .i64 0) (v := .slice none 0 0)
    have c4 := H4.cell 0
    have c4' := H4.cell 1
    refine bodyPost_ret (v := .tuple #[.agg #[.int .i64 0, .slice none 0 0], .int .i64 z]) (by simp [results, Tryz.results16, go_sem, c4, c4']) rfl (SqS.err HQ.out rfl ((HE9.out.setCell (by show w.heap.size ≤ w.heap.size + 1 + 1 + 1; omega) _).setCell (by show w.heap.size ≤ w.heap.size + 1 + 1 + 1; omega) _))

end Go.Proofs.YtllkaoacfchibaaGreatDoor
