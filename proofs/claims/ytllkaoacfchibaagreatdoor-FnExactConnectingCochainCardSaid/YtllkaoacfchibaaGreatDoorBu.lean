/- BoundaryOf: the model, the program's contract. -/
import Derived.Test.YtllkaoacfchibaaGreatDoorBt
import Derived.Test.YtllkaoacfchibaaGreatDoorLst
import Derived.Test.YtllkaoacfchibaaGreatDoorFdc
namespace Go.Proofs.YtllkaoacfchibaaGreatDoor
open Go.RowKit

def degB (n : Int) : Bool := decide (n = 3)
noncomputable def qBoundaryOf0 (t : List (List Int)) (m : Int) (us : List Int) (n : Int) (fs : List Int) : Int := if gmcB t m us n fs = true ∧ degB n = false then n + 1 else 0
noncomputable def yBoundaryOf0 (t : List (List Int)) (m : Int) (us : List Int) (n : Int) (fs : List Int) : List Int :=
  if gmcB t m us n fs = true ∧ degB n = false then (List.range (cellsN t.length (n.toNat + 1))).map fun k => bdV t m.toNat us fs (lsL t.length (n.toNat + 1) k) else []
noncomputable def qBoundaryOf1 (t : List (List Int)) (m : Int) (us : List Int) (n : Int) (fs : List Int) : Int := if gmcB t m us n fs = true then (if degB n = true then 2 else 0) else 1
section
variable {t : List (List Int)} {m n : Int} {us fs : List Int}
theorem bo_no (h : gmcB t m us n fs = false) : qBoundaryOf0 t m us n fs = 0 ∧ yBoundaryOf0 t m us n fs = [] ∧ qBoundaryOf1 t m us n fs = 1 := by simp [qBoundaryOf0, yBoundaryOf0, qBoundaryOf1, h]
theorem bo_out (h : gmcB t m us n fs = true) (h2 : degB n = true) : qBoundaryOf0 t m us n fs = 0 ∧ yBoundaryOf0 t m us n fs = [] ∧ qBoundaryOf1 t m us n fs = 2 := by simp [qBoundaryOf0, yBoundaryOf0, qBoundaryOf1, h, h2]
theorem bo_yes {M d : Nat} (h : gmcB t (M : Int) us (d : Int) fs = true) (h2 : degB (d : Int) = false) : qBoundaryOf0 t (M : Int) us (d : Int) fs = (d : Int) + 1 ∧ yBoundaryOf0 t (M : Int) us (d : Int) fs = (List.range (cellsN t.length (d + 1))).map (fun k => bdV t M us fs (lsL t.length (d + 1) k)) ∧ qBoundaryOf1 t (M : Int) us (d : Int) fs = 0 := by
  simp [qBoundaryOf0, yBoundaryOf0, qBoundaryOf1, h, h2]
theorem boundaryOf_small0 (t : List (List Int)) (m : Int) (us : List Int) (n : Int) (fs : List Int) : (yBoundaryOf0 t m us n fs).length ≤ 1048576 := by
  unfold yBoundaryOf0
  split
  · rename_i h
    obtain ⟨M, k, rfl, rfl, hMF, hk3, hlen, h343, hfr⟩ := gmc_facts h.1
    simp only [List.length_map, List.length_range, Int.toNat_natCast]
    have := cellsN_le hMF.g.n8 (show k + 1 ≤ 4 by omega)
    omega
  · simp
theorem cells_p1 {N d k : Nat} (h : k < cellsN N (d + 1)) : 2 ≤ N := by
  rcases Nat.lt_or_ge N 2 with hN | hN
  · rw [cellsN, show N - 1 = 0 by omega, Nat.zero_pow (by omega)] at h
    omega
  · exact hN
end

set_option maxHeartbeats 1000000 in
theorem bdc_ex (Bg Bm Bf : Nat) (A U F L : Option Addr) (t : List (List Int)) (M n k : Nat) (us fs : List Int) (c0 c1 c2 e : Nat) (w : World)
    (hG : Has w Bg 36 #[.slice A t.length c0]) (hM : Has w Bm 38 #[.int .i64 (M : Int), .slice U us.length c1]) (hFc : Has w Bf 33 #[.int .i64 (n : Int), .slice F fs.length c2])
    (hR : RwsW w A t) (hU : IntsW w U us) (hF : IntsW w F fs) (hL : IntsW w L (lsL t.length (n + 1) k)) (hle : n + 1 ≤ e) (hm : ModF t M us) (hn3 : n ≤ 3) (hN2 : 2 ≤ t.length) (hfl : fs.length = cellsN t.length n) (hfr : InR M fs) :
    Calls Tryz.prog 166 #[.slice L (lsL t.length (n + 1) k).length e, .pointer (some ⟨Bg, 0, none⟩), .pointer (some ⟨Bm, 0, none⟩), .pointer (some ⟨Bf, 0, none⟩)] w fun e w' => e = .returned (.int .i64 (bdV t M us fs (lsL t.length (n + 1) k))) ∧ Ex w w' := by
  obtain ⟨bl, ol, rfl, _, _⟩ := hL.ints.at_ (j := 0) (by rw [lsL_len]; omega)
  have HC := Lib.hid (boundaryAt_any A U F bl ol t M n us fs (lsL t.length (n + 1) k) c0 c1 c2 e w hR hU hF hm hL (lsL_in (.inr hN2)) (lsL_len ..) hn3 hle hfl hfr)
  have c0' := hG.cell 0
  have c1' := hM.cell 0
  have c1'' := hM.cell 1
  have c2' := hFc.cell 0
  have c2'' := hFc.cell 1
  clear hG hM hFc hR hU hF hL hm hfl hfr
  rw [lsL_len] at HC ⊢
  go_enter Tryz.func166, Tryz.ntmps166
  go_wp2_with fail
  refine HC.out.mono ?_
  rintro e' w' ⟨rfl, he⟩
  have HE := Lib.hid he
  clear he
  go_wp2_with fail
  go_ret
  exact ⟨rfl, HE.out⟩

set_option maxRecDepth 100000 in
set_option maxHeartbeats 4000000 in
theorem boundaryOf_any (A U F : Option Addr) (t : List (List Int)) (M k : Nat) (us fs : List Int) (d0 d1 d2 : Nat) (w : World) (hR : RwsW w A t) (hU : IntsW w U us) (hF : IntsW w F fs) (hMF : ModF t M us) (hk : k ≤ 2) (hlen : fs.length = cellsN t.length k) (hfr : InR M fs) :
    Calls Tryz.prog 109 #[.agg #[.slice A t.length d0], .agg #[.int .i64 (M : Int), .slice U us.length d1], .agg #[.int .i64 (k : Int), .slice F fs.length d2]] w fun e w' => ∃ A' n', e = .returned (.agg #[.int .i64 ((k : Int) + 1), .slice A' (cellsN t.length (k + 1)) n']) ∧ Ex w w' ∧ OwnL w' w.heap.size w'.heap.size A' ((List.range (cellsN t.length (k + 1))).map fun j => bdV t M us fs (lsL t.length (k + 1) j)) := by
  have e0 : Ex w ((((w.alloc (.cells #[.slice A t.length d0] 36)).alloc (.cells #[.int .i64 (M : Int), .slice U us.length d1] 38)).alloc (.cells #[.int .i64 (k : Int), .slice F fs.length d2] 33)).alloc (.cells #[.int .i64 0, .slice none 0 0] 33)) := ((((Ex.refl w).alloc _).alloc _).alloc _).alloc _
  have b0 : Has ((((w.alloc (.cells #[.slice A t.length d0] 36)).alloc (.cells #[.int .i64 (M : Int), .slice U us.length d1] 38)).alloc (.cells #[.int .i64 (k : Int), .slice F fs.length d2] 33)).alloc (.cells #[.int .i64 0, .slice none 0 0] 33)) (w.heap.size) 36 #[.slice A t.length d0] := ((((Has.newAt (w := w) (e := 36) (cs := #[.slice A t.length d0]) (k := w.heap.size) (by simp)).alloc _).alloc _).alloc _)
  have b1 : Has ((((w.alloc (.cells #[.slice A t.length d0] 36)).alloc (.cells #[.int .i64 (M : Int), .slice U us.length d1] 38)).alloc (.cells #[.int .i64 (k : Int), .slice F fs.length d2] 33)).alloc (.cells #[.int .i64 0, .slice none 0 0] 33)) (w.heap.size + 1) 38 #[.int .i64 (M : Int), .slice U us.length d1] := (((Has.newAt (w := (w.alloc (.cells #[.slice A t.length d0] 36))) (e := 38) (cs := #[.int .i64 (M : Int), .slice U us.length d1]) (k := w.heap.size + 1) (by simp)).alloc _).alloc _)
  have b2 : Has ((((w.alloc (.cells #[.slice A t.length d0] 36)).alloc (.cells #[.int .i64 (M : Int), .slice U us.length d1] 38)).alloc (.cells #[.int .i64 (k : Int), .slice F fs.length d2] 33)).alloc (.cells #[.int .i64 0, .slice none 0 0] 33)) (w.heap.size + 1 + 1) 33 #[.int .i64 (k : Int), .slice F fs.length d2] := ((Has.newAt (w := ((w.alloc (.cells #[.slice A t.length d0] 36)).alloc (.cells #[.int .i64 (M : Int), .slice U us.length d1] 38))) (e := 33) (cs := #[.int .i64 (k : Int), .slice F fs.length d2]) (k := w.heap.size + 1 + 1) (by simp)).alloc _)
  have b3 : Has ((((w.alloc (.cells #[.slice A t.length d0] 36)).alloc (.cells #[.int .i64 (M : Int), .slice U us.length d1] 38)).alloc (.cells #[.int .i64 (k : Int), .slice F fs.length d2] 33)).alloc (.cells #[.int .i64 0, .slice none 0 0] 33)) (w.heap.size + 1 + 1 + 1) 33 #[.int .i64 0, .slice none 0 0] := (Has.newAt (w := (((w.alloc (.cells #[.slice A t.length d0] 36)).alloc (.cells #[.int .i64 (M : Int), .slice U us.length d1] 38)).alloc (.cells #[.int .i64 (k : Int), .slice F fs.length d2] 33))) (e := 33) (cs := #[.int .i64 0, .slice none 0 0]) (k := w.heap.size + 1 + 1 + 1) (by simp))
  have hmf : ∀ (fn : Fn) (first cap : Array Value) (w : World), (Instr.makeFunc fn first cap).run Tryz.prog w = .ok (.func fn first cap) w := fun _ _ _ _ => rfl
  have hN8 := hMF.g.n8
  have hN1 := hMF.g.n1
  have hCW := cochainWith_any A t.length d0 (k + 1) 166 #[.pointer (some ⟨w.heap.size, 0, none⟩), .pointer (some ⟨w.heap.size + 1, 0, none⟩), .pointer (some ⟨w.heap.size + 1 + 1, 0, none⟩)]
      (fun j => bdV t M us fs (lsL t.length (k + 1) j)) ((((w.alloc (.cells #[.slice A t.length d0] 36)).alloc (.cells #[.int .i64 (M : Int), .slice U us.length d1] 38)).alloc (.cells #[.int .i64 (k : Int), .slice F fs.length d2] 33)).alloc (.cells #[.int .i64 0, .slice none 0 0] 33)) hN8 hN1 (by omega) (enters_of Tryz.func166 (by kernel_rfl) rfl)
      (fun W' he' j hj B e hL hc => bdc_ex w.heap.size (w.heap.size + 1) (w.heap.size + 1 + 1) A U F B t M k j us fs d0 d1 d2 e W'
        (b0.ex he') (b1.ex he') (b2.ex he') (hR.ex (e0.trans he')) (hU.ex (e0.trans he')) (hF.ex (e0.trans he')) hL hc hMF (by omega) (cells_p1 hj) hlen hfr)
  have hpc : ((k + 1 : Nat) : Int) = (k : Int) + 1 := by omega
  rw [hpc] at hCW
  have HCW := Lib.hid hCW
  have HV : Hid (((List.range (cellsN t.length (k + 1))).map fun j => bdV t M us fs (lsL t.length (k + 1) j)).length = cellsN t.length (k + 1)) := Lib.hid (by simp)
  obtain ⟨ys, hys⟩ : ∃ ys, ((List.range (cellsN t.length (k + 1))).map fun j => bdV t M us fs (lsL t.length (k + 1) j)) = ys := ⟨_, rfl⟩
  rw [hys] at HV HCW ⊢
  obtain ⟨cn, hcn⟩ : ∃ cn, cellsN t.length (k + 1) = cn := ⟨_, rfl⟩
  rw [hcn] at HV HCW ⊢
  have c0 := b0.cell 0
  have c3 := b2.cell 0
  clear hCW hR hU hF hMF hlen hfr hys hcn hpc
  go_enter Tryz.func109, Tryz.ntmps109
  go_wp2_with fail
  generalize ((((w.alloc (.cells #[.slice A t.length d0] 36)).alloc (.cells #[.int .i64 (M : Int), .slice U us.length d1] 38)).alloc (.cells #[.int .i64 (k : Int), .slice F fs.length d2] 33)).alloc (.cells #[.int .i64 0, .slice none 0 0] 33)) = W0 at *
  refine HCW.out.mono ?_
  rintro e W5 ⟨A', c', rfl, he5, ho5⟩
  have HB5 := Lib.hid (b3.ex he5)
  have c2 := HB5.out.cell 0
  have c2' := HB5.out.cell 1
  have f2 := HB5.out.free 0
  have f2' := HB5.out.free 1
  have hzl := b3.lt
  have hzw := e0.size
  have HE5 := Lib.hid (e0.trans he5)
  have HO5 := Lib.hid ho5
  clear he5 ho5 c0 c3 HCW b0 b1 b2 b3 e0
  go_wp2_with fail
  have H4 := HB5.out.put2 (u := .int .i64 ((k : Int) + 1)) (v := .slice A' cn c')
  have c4 := H4.cell 0
  have c4' := H4.cell 1
  refine bodyPost_ret (v := .agg #[.int .i64 ((k : Int) + 1), .slice A' cn c']) (by simp [results, Tryz.results109, go_sem, c4, c4']) rfl ⟨A', c', rfl, (HE5.out.setCell (by show w.heap.size ≤ w.heap.size + 1 + 1 + 1; omega) _).setCell (by show w.heap.size ≤ w.heap.size + 1 + 1 + 1; omega) _, ?_⟩
  exact ((HO5.out.above (Only.set _ _ _ _) hzl).above (Only.set _ _ _ _) hzl).mono hzw (by simp) (Nat.le_refl _)

end Go.Proofs.YtllkaoacfchibaaGreatDoor
