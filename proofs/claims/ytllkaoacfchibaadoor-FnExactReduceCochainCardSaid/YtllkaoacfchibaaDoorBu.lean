/- BoundaryOf: the model, the program's contract. -/
import Derived.Test.YtllkaoacfchibaaDoorBt
import Derived.Test.YtllkaoacfchibaaDoorLst
import Derived.Test.YtllkaoacfchibaaDoorFdc
namespace Go.Proofs.YtllkaoacfchibaaDoor
open Go.RowKit

def degB (n : Int) : Bool := decide (n = 3)
noncomputable def qBoundaryOf0 (t : List (List Int)) (m : Int) (us : List Int) (n : Int) (fs : List Int) : Int := if gmcB t m us n fs = true ∧ degB n = false then n + 1 else 0
noncomputable def yBoundaryOf0 (t : List (List Int)) (m : Int) (us : List Int) (n : Int) (fs : List Int) : List Int :=
  if gmcB t m us n fs = true ∧ degB n = false then (List.range (cellsN t.length (n.toNat + 1))).map fun k => bdV t m.toNat us fs (lsL t.length (n.toNat + 1) k) else []
noncomputable def qBoundaryOf1 (t : List (List Int)) (m : Int) (us : List Int) (n : Int) (fs : List Int) : Int := if gmcB t m us n fs = true then (if degB n = true then 2 else 0) else 1
section
variable {t : List (List Int)} {m n : Int} {us fs : List Int}
theorem bo_no (h : gmcB t m us n fs = false) : qBoundaryOf0 t m us n fs = 0 ∧ yBoundaryOf0 t m us n fs = [] ∧ qBoundaryOf1 t m us n fs = 1 := by simp [qBoundaryOf0, yBoundaryOf0, qBoundaryOf1, h]
theorem bo_out (h : gmcB t m us n fs = true) (h2 : degB n = true) : qBoundaryOf0 t m us n fs = 0 ∧ yBoundaryOf0 t m us n fs = [] ∧ qBoundaryOf1 t m us n fs = 2 := by simp [qBoundaryOf0, yBoundaryOf0, qBoundaryOf1, h, h2]
theorem bo_yes {M d : Nat} (h : gmcB t (M : Int) us (d : Int) fs = true) (h2 : degB (d : Int) = false) : qBoundaryOf0 t (M : Int) us (d : Int) fs = (d : Int) + 1 ∧ yBoundaryOf0 t (M : Int) us (d : Int) fs = (List.range (cellsN t.length (d + 1))).map (fun k => bdV t M us fs (lsL t.length (d + 1) k)) ∧ qBoundaryOf1 t (M : Int) us (d : Int) fs = 0 := by
  simp [qBoundaryOf0, yBoundaryOf0, qBoundaryOf1, h, h2]
theorem boundaryOf_small0 (t : List (List Int)) (m : Int) (us : List Int) (n : Int) (fs : List Int) : (yBoundaryOf0 t m us n fs).length ≤ 1048576 := by
  unfold yBoundaryOf0
  split
  · rename_i h
    obtain ⟨M, k, rfl, rfl, hMF, hk3, hlen, h343, hfr⟩ := gmc_facts h.1
    simp only [List.length_map, List.length_range, Int.toNat_natCast]
    have := cellsN_le hMF.g.n8 (show k + 1 ≤ 4 by omega)
    omega
  · simp
theorem cells_p1 {N d k : Nat} (h : k < cellsN N (d + 1)) : 2 ≤ N := by
  rcases Nat.lt_or_ge N 2 with hN | hN
  · rw [cellsN, show N - 1 = 0 by omega, Nat.zero_pow (by omega)] at h
    omega
  · exact hN
end

set_option maxHeartbeats 1000000 in
theorem bdc_ex (Bg Bm Bf : Nat) (A U F L : Option Addr) (t : List (List Int)) (M n k : Nat) (us fs : List Int) (c0 c1 c2 e : Nat) (w : World)
    (hG : Has w Bg 33 #[.slice A t.length c0]) (hM : Has w Bm 30 #[.int .i64 (M : Int), .slice U us.length c1]) (hFc : Has w Bf 44 #[.int .i64 (n : Int), .slice F fs.length c2])
    (hR : RwsW w A t) (hU : IntsW w U us) (hF : IntsW w F fs) (hL : IntsW w L (lsL t.length (n + 1) k)) (hle : n + 1 ≤ e) (hm : ModF t M us) (hn3 : n ≤ 3) (hN2 : 2 ≤ t.length) (hfl : fs.length = cellsN t.length n) (hfr : InR M fs) :
    Calls Tryd.prog 124 #[.slice L (lsL t.length (n + 1) k).length e, .pointer (some ⟨Bg, 0, none⟩), .pointer (some ⟨Bm, 0, none⟩), .pointer (some ⟨Bf, 0, none⟩)] w fun e w' => e = .returned (.int .i64 (bdV t M us fs (lsL t.length (n + 1) k))) ∧ Ex w w' := by
  obtain ⟨bl, ol, rfl, _, _⟩ := hL.ints.at_ (j := 0) (by rw [lsL_len]; omega)
  have HC := Lib.hid (boundaryAt_any A U F bl ol t M n us fs (lsL t.length (n + 1) k) c0 c1 c2 e w hR hU hF hm hL (lsL_in (.inr hN2)) (lsL_len ..) hn3 hle hfl hfr)
  have c0' := hG.cell 0
  have c1' := hM.cell 0
  have c1'' := hM.cell 1
  have c2' := hFc.cell 0
  have c2'' := hFc.cell 1
  clear hG hM hFc hR hU hF hL hm hfl hfr
  rw [lsL_len] at HC ⊢
  go_enter Tryd.func124, Tryd.ntmps124
  go_wp2_with fail
  refine HC.out.mono ?_
  rintro e' w' ⟨rfl, he⟩
  have HE := Lib.hid he
  clear he
  go_wp2_with fail
  go_ret
  exact ⟨rfl, HE.out⟩

set_option maxRecDepth 100000 in
set_option maxHeartbeats 4000000 in
theorem boundaryOf_any (A U F : Option Addr) (t : List (List Int)) (M k : Nat) (us fs : List Int) (d0 d1 d2 : Nat) (w : World) (hR : RwsW w A t) (hU : IntsW w U us) (hF : IntsW w F fs) (hMF : ModF t M us) (hk : k ≤ 2) (hlen : fs.length = cellsN t.length k) (hfr : InR M fs) :
    Calls Tryd.prog 74 #[.agg #[.slice A t.length d0], .agg #[.int .i64 (M : Int), .slice U us.length d1], .agg #[.int .i64 (k : Int), .slice F fs.length d2]] w fun e w' => ∃ A' n', e = .returned (.agg #[.int .i64 ((k : Int) + 1), .slice A' (cellsN t.length (k + 1)) n']) ∧ Ex w w' ∧ OwnL w' w.heap.size w'.heap.size A' ((List.range (cellsN t.length (k + 1))).map fun j => bdV t M us fs (lsL t.length (k + 1) j)) := by
  have e0 : Ex w ((((w.alloc (.cells #[.slice A t.length d0] 33)).alloc (.cells #[.int .i64 (M : Int), .slice U us.length d1] 30)).alloc (.cells #[.int .i64 (k : Int), .slice F fs.length d2] 44)).alloc (.cells #[.int .i64 0, .slice none 0 0] 44)) := ((((Ex.refl w).alloc _).alloc _).alloc _).alloc _
  have b0 : Has ((((w.alloc (.cells #[.slice A t.length d0] 33)).alloc (.cells #[.int .i64 (M : Int), .slice U us.length d1] 30)).alloc (.cells #[.int .i64 (k : Int), .slice F fs.length d2] 44)).alloc (.cells #[.int .i64 0, .slice none 0 0] 44)) (w.heap.size) 33 #[.slice A t.length d0] := ((((Has.newAt (w := w) (e := 33) (cs := #[.slice A t.length d0]) (k := w.heap.size) (by simp)).alloc _).alloc _).alloc _)
  have b1 : Has ((((w.alloc (.cells #[.slice A t.length d0] 33)).alloc (.cells #[.int .i64 (M : Int), .slice U us.length d1] 30)).alloc (.cells #[.int .i64 (k : Int), .slice F fs.length d2] 44)).alloc (.cells #[.int .i64 0, .slice none 0 0] 44)) (w.heap.size + 1) 30 #[.int .i64 (M : Int), .slice U us.length d1] := (((Has.newAt (w := (w.alloc (.cells #[.slice A t.length d0] 33))) (e := 30) (cs := #[.int .i64 (M : Int), .slice U us.length d1]) (k := w.heap.size + 1) (by simp)).alloc _).alloc _)
  have b2 : Has ((((w.alloc (.cells #[.slice A t.length d0] 33)).alloc (.cells #[.int .i64 (M : Int), .slice U us.length d1] 30)).alloc (.cells #[.int .i64 (k : Int), .slice F fs.length d2] 44)).alloc (.cells #[.int .i64 0, .slice none 0 0] 44)) (w.heap.size + 1 + 1) 44 #[.int .i64 (k : Int), .slice F fs.length d2] := ((Has.newAt (w := ((w.alloc (.cells #[.slice A t.length d0] 33)).alloc (.cells #[.int .i64 (M : Int), .slice U us.length d1] 30))) (e := 44) (cs := #[.int .i64 (k : Int), .slice F fs.length d2]) (k := w.heap.size + 1 + 1) (by simp)).alloc _)
  have b3 : Has ((((w.alloc (.cells #[.slice A t.length d0] 33)).alloc (.cells #[.int .i64 (M : Int), .slice U us.length d1] 30)).alloc (.cells #[.int .i64 (k : Int), .slice F fs.length d2] 44)).alloc (.cells #[.int .i64 0, .slice none 0 0] 44)) (w.heap.size + 1 + 1 + 1) 44 #[.int .i64 0, .slice none 0 0] := (Has.newAt (w := (((w.alloc (.cells #[.slice A t.length d0] 33)).alloc (.cells #[.int .i64 (M : Int), .slice U us.length d1] 30)).alloc (.cells #[.int .i64 (k : Int), .slice F fs.length d2] 44))) (e := 44) (cs := #[.int .i64 0, .slice none 0 0]) (k := w.heap.size + 1 + 1 + 1) (by simp))
  have hmf : ∀ (fn : Fn) (first cap : Array Value) (w : World), (Instr.makeFunc fn first cap).run Tryd.prog w = .ok (.func fn first cap) w := fun _ _ _ _ => rfl
  have hN8 := hMF.g.n8
  have hN1 := hMF.g.n1
  have hCW := cochainWith_any A t.length d0 (k + 1) 124 #[.pointer (some ⟨w.heap.size, 0, none⟩), .pointer (some ⟨w.heap.size + 1, 0, none⟩), .pointer (some ⟨w.heap.size + 1 + 1, 0, none⟩)]
      (fun j => bdV t M us fs (lsL t.length (k + 1) j)) ((((w.alloc (.cells #[.slice A t.length d0] 33)).alloc (.cells #[.int .i64 (M : Int), .slice U us.length d1] 30)).alloc (.cells #[.int .i64 (k : Int), .slice F fs.length d2] 44)).alloc (.cells #[.int .i64 0, .slice none 0 0] 44)) hN8 hN1 (by omega) (enters_of Tryd.func124 (by kernel_rfl) rfl)
      (fun W' he' j hj B e hL hc => bdc_ex w.heap.size (w.heap.size + 1) (w.heap.size + 1 + 1) A U F B t M k j us fs d0 d1 d2 e W'
        (b0.ex he') (b1.ex he') (b2.ex he') (hR.ex (e0.trans he')) (hU.ex (e0.trans he')) (hF.ex (e0.trans he')) hL hc hMF (by omega) (cells_p1 hj) hlen hfr)
  have hpc : ((k + 1 : Nat) : Int) = (k : Int) + 1 := by omega
  rw [hpc] at hCW
  have HCW := Lib.hid hCW
  have HV : Hid (((List.range (cellsN t.length (k + 1))).map fun j => bdV t M us fs (lsL t.length (k + 1) j)).length = cellsN t.length (k + 1)) := Lib.hid (by simp)
  obtain ⟨ys, hys⟩ : ∃ ys, ((List.range (cellsN t.length (k + 1))).map fun j => bdV t M us fs (lsL t.length (k + 1) j)) = ys := ⟨_, rfl⟩
  rw [hys] at HV HCW ⊢
  obtain ⟨cn, hcn⟩ : ∃ cn, cellsN t.length (k + 1) = cn := ⟨_, rfl⟩
  rw [hcn] at HV HCW ⊢
  have c0 := b0.cell 0
  have c3 := b2.cell 0
  clear hCW hR hU hF hMF hlen hfr hys hcn hpc
  go_enter Tryd.func74, Tryd.ntmps74
  go_wp2_with fail
  generalize ((((w.alloc (.cells #[.slice A t.length d0] 33)).alloc (.cells #[.int .i64 (M : Int), .slice U us.length d1] 30)).alloc (.cells #[.int .i64 (k : Int), .slice F fs.length d2] 44)).alloc (.cells #[.int .i64 0, .slice none 0 0] 44)) = W0 at *
  refine HCW.out.mono ?_
  rintro e W5 ⟨A', c', rfl, he5, ho5⟩
  have HB5 := Lib.hid (b3.ex he5)
  have c2 := HB5.out.cell 0
  have c2' := HB5.out.cell 1
  have f2 := HB5.out.free 0
  have f2' := HB5.out.free 1
  have hzl := b3.lt
  have hzw := e0.size
  have HE5 := Lib.hid (e0.trans he5)
  have HO5 := Lib.hid ho5
  clear he5 ho5 c0 c3 HCW b0 b1 b2 b3 e0
  go_wp2_with fail
  have H4 := HB5.out.put2 (u := .int .i64 ((k : Int) + 1)) (v := .slice A' cn c')
  have c4 := H4.cell 0
  have c4' := H4.cell 1
  refine bodyPost_ret (v := .agg #[.int .i64 ((k : Int) + 1), .slice A' cn c']) (by simp [results, Tryd.results74, go_sem, c4, c4']) rfl ⟨A', c', rfl, (HE5.out.setCell (by show w.heap.size ≤ w.heap.size + 1 + 1 + 1; omega) _).setCell (by show w.heap.size ≤ w.heap.size + 1 + 1 + 1; omega) _, ?_⟩
  exact ((HO5.out.above (Only.set _ _ _ _) hzl).above (Only.set _ _ _ _) hzl).mono hzw (by simp) (Nat.le_refl _)

set_option maxRecDepth 100000 in
set_option maxHeartbeats 4000000 in
theorem implBoundaryOf_ex (t0 : List (List Int)) (m1 : Int) (t1 : List Int) (m2 : Int) (t2 : List Int) : ∀ (B0 : Option Addr) (d0 : Nat) (B1 : Option Addr) (d1 : Nat) (B2 : Option Addr) (d2 : Nat) (W : World), RwsW W B0 t0 → IntsW W B1 t1 → IntsW W B2 t2 → SmallT t0 → t1.length ≤ 1048576 → t2.length ≤ 1048576 →
    Calls Tryd.prog 39 #[.agg #[.slice B0 t0.length d0], .agg #[.int .i64 m1, .slice B1 t1.length d1], .agg #[.int .i64 m2, .slice B2 t2.length d2]] W fun e W' => ∃ (C0 : Option Addr) (e0 : Nat), e = .returned (.tuple #[.agg #[.int .i64 (qBoundaryOf0 t0 m1 t1 m2 t2), .slice C0 (yBoundaryOf0 t0 m1 t1 m2 t2).length e0], .int .i64 (qBoundaryOf1 t0 m1 t1 m2 t2)]) ∧ Ex W W' ∧ OwnL W' W.heap.size W'.heap.size C0 (yBoundaryOf0 t0 m1 t1 m2 t2) := by
  intro B0 d0 B1 d1 B2 d2 w hR hX hF hs hu hf
  have e0 : Ex w ((((w.alloc (.cells #[.slice B0 t0.length d0] 33)).alloc (.cells #[.int .i64 m1, .slice B1 t1.length d1] 30)).alloc (.cells #[.int .i64 m2, .slice B2 t2.length d2] 44)).alloc (.cells #[.int .i64 0, .slice none 0 0] 44)) := ((((Ex.refl w).alloc _).alloc _).alloc _).alloc _
  have b0 : Has ((((w.alloc (.cells #[.slice B0 t0.length d0] 33)).alloc (.cells #[.int .i64 m1, .slice B1 t1.length d1] 30)).alloc (.cells #[.int .i64 m2, .slice B2 t2.length d2] 44)).alloc (.cells #[.int .i64 0, .slice none 0 0] 44)) (w.heap.size) 33 #[.slice B0 t0.length d0] := ((((Has.newAt (w := w) (e := 33) (cs := #[.slice B0 t0.length d0]) (k := w.heap.size) (by simp)).alloc _).alloc _).alloc _)
  have b1 : Has ((((w.alloc (.cells #[.slice B0 t0.length d0] 33)).alloc (.cells #[.int .i64 m1, .slice B1 t1.length d1] 30)).alloc (.cells #[.int .i64 m2, .slice B2 t2.length d2] 44)).alloc (.cells #[.int .i64 0, .slice none 0 0] 44)) (w.heap.size + 1) 30 #[.int .i64 m1, .slice B1 t1.length d1] := (((Has.newAt (w := (w.alloc (.cells #[.slice B0 t0.length d0] 33))) (e := 30) (cs := #[.int .i64 m1, .slice B1 t1.length d1]) (k := w.heap.size + 1) (by simp)).alloc _).alloc _)
  have b2 : Has ((((w.alloc (.cells #[.slice B0 t0.length d0] 33)).alloc (.cells #[.int .i64 m1, .slice B1 t1.length d1] 30)).alloc (.cells #[.int .i64 m2, .slice B2 t2.length d2] 44)).alloc (.cells #[.int .i64 0, .slice none 0 0] 44)) (w.heap.size + 1 + 1) 44 #[.int .i64 m2, .slice B2 t2.length d2] := ((Has.newAt (w := ((w.alloc (.cells #[.slice B0 t0.length d0] 33)).alloc (.cells #[.int .i64 m1, .slice B1 t1.length d1] 30))) (e := 44) (cs := #[.int .i64 m2, .slice B2 t2.length d2]) (k := w.heap.size + 1 + 1) (by simp)).alloc _)
  have b3 : Has ((((w.alloc (.cells #[.slice B0 t0.length d0] 33)).alloc (.cells #[.int .i64 m1, .slice B1 t1.length d1] 30)).alloc (.cells #[.int .i64 m2, .slice B2 t2.length d2] 44)).alloc (.cells #[.int .i64 0, .slice none 0 0] 44)) (w.heap.size + 1 + 1 + 1) 44 #[.int .i64 0, .slice none 0 0] := (Has.newAt (w := (((w.alloc (.cells #[.slice B0 t0.length d0] 33)).alloc (.cells #[.int .i64 m1, .slice B1 t1.length d1] 30)).alloc (.cells #[.int .i64 m2, .slice B2 t2.length d2] 44))) (e := 44) (cs := #[.int .i64 0, .slice none 0 0]) (k := w.heap.size + 1 + 1 + 1) (by simp))
  have hmf : ∀ (fn : Fn) (first cap : Array Value) (w : World), (Instr.makeFunc fn first cap).run Tryd.prog w = .ok (.func fn first cap) w := fun _ _ _ _ => rfl
  have hC := isCochain_any B0 B1 B2 t0 m1 t1 m2 t2 d0 d1 d2 _ (hR.ex e0) (hX.ex e0) (hF.ex e0) hs hu hf
  rw [show (gmB t0 m1 t1 && cocB t0.length m1 m2 t2) = gmcB t0 m1 t1 m2 t2 from rfl] at hC
  have HC := Lib.hid hC
  clear hC
  cases hg : gmcB t0 m1 t1 m2 t2 with
  | false =>
    rw [hg] at HC
    have HQ := Lib.hid (bo_no hg)
    clear hg hR hX hF
    go_enter Tryd.func39, Tryd.ntmps39
    go_wp2_with fail
    generalize ((((w.alloc (.cells #[.slice B0 t0.length d0] 33)).alloc (.cells #[.int .i64 m1, .slice B1 t1.length d1] 30)).alloc (.cells #[.int .i64 m2, .slice B2 t2.length d2] 44)).alloc (.cells #[.int .i64 0, .slice none 0 0] 44)) = W0 at *
    refine HC.out.mono ?_
    rintro e W1 ⟨rfl, he1⟩
    have HB3 := Lib.hid (b3.ex he1)
    have c2 := HB3.out.cell 0
    have c2' := HB3.out.cell 1
    have f2 := HB3.out.free 0
    have f2' := HB3.out.free 1
    clear b0 b1 b2 b3
    go_wp2_with fail
    have H4 := HB3.out.put2 (u := .int .i64 0) (v := .slice none 0 0)
    have c4 := H4.cell 0
    have c4' := H4.cell 1
    refine bodyPost_ret (v := .tuple #[.agg #[.int .i64 0, .slice none 0 0], .int .i64 1]) (by simp [results, Tryd.results39, go_sem, c4, c4']) rfl ⟨none, 0, by rw [HQ.out.1, HQ.out.2.1, HQ.out.2.2]; rfl, ((e0.trans he1).setCell (by show w.heap.size ≤ w.heap.size + 1 + 1 + 1; omega) _).setCell (by show w.heap.size ≤ w.heap.size + 1 + 1 + 1; omega) _, by rw [HQ.out.2.1]; exact OwnL.nil _ _ _ (Nat.le_refl _)⟩
  | true =>
    rw [hg] at HC
    obtain ⟨M, k, rfl, rfl, hMF, hk3, hlen, h343, hfr⟩ := gmc_facts hg
    have hN8 := hMF.g.n8
    have hN1 := hMF.g.n1
    by_cases hk : k = 3
    · have hkk : ((k : Int) == 3) = true := by simp; omega
      have HQ := Lib.hid (bo_out hg (show degB (k : Int) = true by simp [degB]; omega))
      clear hg hR hX hF hMF hs hu hf hlen hfr hk
      go_enter Tryd.func39, Tryd.ntmps39
      go_wp2_with fail
      generalize ((((w.alloc (.cells #[.slice B0 t0.length d0] 33)).alloc (.cells #[.int .i64 (M : Int), .slice B1 t1.length d1] 30)).alloc (.cells #[.int .i64 (k : Int), .slice B2 t2.length d2] 44)).alloc (.cells #[.int .i64 0, .slice none 0 0] 44)) = W0 at *
      refine HC.out.mono ?_
      rintro e W1 ⟨rfl, he1⟩
      have HB3 := Lib.hid (b3.ex he1)
      have HE1 := Lib.hid (e0.trans he1)
      have c0 := (b2.ex he1).cell 0
      have c2 := HB3.out.cell 0
      have c2' := HB3.out.cell 1
      have f2 := HB3.out.free 0
      have f2' := HB3.out.free 1
      clear b0 b1 b2 b3 e0 he1
      go_wp2_with fail
      have H4 := HB3.out.put2 (u := .int .i64 0) (v := .slice none 0 0)
      have c4 := H4.cell 0
      have c4' := H4.cell 1
      refine bodyPost_ret (v := .tuple #[.agg #[.int .i64 0, .slice none 0 0], .int .i64 2]) (by simp [results, Tryd.results39, go_sem, c4, c4']) rfl ⟨none, 0, by rw [HQ.out.1, HQ.out.2.1, HQ.out.2.2]; rfl, (HE1.out.setCell (by show w.heap.size ≤ w.heap.size + 1 + 1 + 1; omega) _).setCell (by show w.heap.size ≤ w.heap.size + 1 + 1 + 1; omega) _, by rw [HQ.out.2.1]; exact OwnL.nil _ _ _ (Nat.le_refl _)⟩
    · have hkk : ((k : Int) == 3) = false := by simp; omega
      have HQ := Lib.hid (bo_yes hg (show degB (k : Int) = false by simp [degB]; omega))
      have HCW := Lib.hid (fun W (he : Ex w W) => boundaryOf_any B0 B1 B2 t0 M k t1 t2 d0 d1 d2 W (hR.ex he) (hX.ex he) (hF.ex he) hMF (by omega) hlen hfr)
      have HV : Hid (((List.range (cellsN t0.length (k + 1))).map fun j => bdV t0 M t1 t2 (lsL t0.length (k + 1) j)).length = cellsN t0.length (k + 1)) := Lib.hid (by simp)
      obtain ⟨ys, hys⟩ : ∃ ys, ((List.range (cellsN t0.length (k + 1))).map fun j => bdV t0 M t1 t2 (lsL t0.length (k + 1) j)) = ys := ⟨_, rfl⟩
      rw [hys] at HV HQ HCW
      obtain ⟨cn, hcn⟩ : ∃ cn, cellsN t0.length (k + 1) = cn := ⟨_, rfl⟩
      rw [hcn] at HV HCW
      clear hg hR hX hF hMF hs hu hf hlen hfr hk hys hcn
      go_enter Tryd.func39, Tryd.ntmps39
      go_wp2_with fail
      generalize ((((w.alloc (.cells #[.slice B0 t0.length d0] 33)).alloc (.cells #[.int .i64 (M : Int), .slice B1 t1.length d1] 30)).alloc (.cells #[.int .i64 (k : Int), .slice B2 t2.length d2] 44)).alloc (.cells #[.int .i64 0, .slice none 0 0] 44)) = W0 at *
      refine HC.out.mono ?_
      rintro e W1 ⟨rfl, he1⟩
      have c0 := (b0.ex he1).cell 0
      have c1 := (b1.ex he1).cell 0
      have c1' := (b1.ex he1).cell 1
      have c3 := (b2.ex he1).cell 0
      have c3' := (b2.ex he1).cell 1
      have HB3 := Lib.hid (b3.ex he1)
      have HE1 := Lib.hid (e0.trans he1)
      have HCW1 := Lib.hid (HCW.out W1 (e0.trans he1))
      clear b0 b1 b2 b3 e0 he1 HCW
      go_wp2_with fail
      refine HCW1.out.mono ?_
      rintro e W5 ⟨A', c', rfl, he5, ho5⟩
      have HB5 := Lib.hid (HB3.out.ex he5)
      have c2 := HB5.out.cell 0
      have c2' := HB5.out.cell 1
      have f2 := HB5.out.free 0
      have f2' := HB5.out.free 1
      have hzl := HB3.out.lt
      have hzw := HE1.out.size
      have HE5 := Lib.hid (HE1.out.trans he5)
      have HO5 := Lib.hid ho5
      clear he5 ho5 c0 c1 c1' c3 c3' HCW1
      go_wp2_with fail
      have H4 := HB5.out.put2 (u := .int .i64 ((k : Int) + 1)) (v := .slice A' cn c')
      have c4 := H4.cell 0
      have c4' := H4.cell 1
      refine bodyPost_ret (v := .tuple #[.agg #[.int .i64 ((k : Int) + 1), .slice A' cn c'], .int .i64 0]) (by simp [results, Tryd.results39, go_sem, c4, c4']) rfl ⟨A', c', by rw [HQ.out.1, HQ.out.2.1, HQ.out.2.2, HV.out], (HE5.out.setCell (by show w.heap.size ≤ w.heap.size + 1 + 1 + 1; omega) _).setCell (by show w.heap.size ≤ w.heap.size + 1 + 1 + 1; omega) _, ?_⟩
      rw [HQ.out.2.1]
      exact ((HO5.out.above (Only.set _ _ _ _) hzl).above (Only.set _ _ _ _) hzl).mono hzw (by simp) (Nat.le_refl _)

end Go.Proofs.YtllkaoacfchibaaDoor
