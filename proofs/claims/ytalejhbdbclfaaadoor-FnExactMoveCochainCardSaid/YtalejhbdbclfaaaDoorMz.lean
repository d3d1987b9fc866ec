/- MoveCochain: the model's contract. -/
import Derived.Test.YtalejhbdbclfaaaDoorMy
namespace Go.Proofs.YtalejhbdbclfaaaDoor
open Go.RowKit

theorem l01Elements1_ex (A : Option Addr) (t : List (List Int)) (d kb : Nat) (a : Int) (w : World) (hR : RwsW w A t) (hs : SmallT t) (hg : IsGrp t) (hK : Has w kb 2 #[.int .i64 a]) :
    Calls Tryd.prog 75 #[.agg #[.slice A t.length d], .slice (some ⟨kb, 0, none⟩) 1 1] w fun e w' => e = .returned (.int .i64 (if movB t.length a = true then 0 else 2)) ∧ Ex w w' := by
  have hX : IntsW w (some ⟨kb, 0, none⟩) [a] := .inr ⟨kb, 0, rfl, hK.lt, fun j hj => by
    obtain rfl : j = 0 := by simp at hj; exact hj
    exact hK.cell 0⟩
  refine (l01Elements_any A (some ⟨kb, 0, none⟩) t [a] d 1 _ _ w hR.rws hX.ints (Nat.le_refl _) (Nat.le_refl _) hs.1 hs.2 (by simp)).mono fun e w' ⟨h1, h2⟩ => ⟨?_, h2⟩
  rw [h1]
  congr 2
  have hin : InR t.length [a] ↔ (0 ≤ a ∧ a < t.length) := ⟨fun h => h 0 (by simp), fun h i hi => by
    obtain rfl : i = 0 := by simp at hi; exact hi
    exact h⟩
  by_cases h : 0 ≤ a ∧ a < t.length
  · rw [elemR, if_pos hg, if_pos (hin.2 h), if_pos (by simp [movB, h])]
  · rw [elemR, if_pos hg, if_neg (fun k => h (hin.1 k)), if_neg (by simp [movB]; omega)]

set_option maxRecDepth 100000 in
set_option maxHeartbeats 4000000 in
theorem specMoveCochain_ex (t0 : List (List Int)) (m1 : Int) (t1 : List Int) (m2 : Int) (t2 : List Int) (m3 : Int) : ∀ (B0 : Option Addr) (d0 : Nat) (B1 : Option Addr) (d1 : Nat) (B2 : Option Addr) (d2 : Nat) (W : World), RwsW W B0 t0 → IntsW W B1 t1 → IntsW W B2 t2 → SmallT t0 → t1.length ≤ 1048576 → t2.length ≤ 1048576 →
    Calls Tryd.prog 42 #[.agg #[.slice B0 t0.length d0], .agg #[.int .i64 m1, .slice B1 t1.length d1], .agg #[.int .i64 m2, .slice B2 t2.length d2], .int .i64 m3] W fun e W' => ∃ (C0 : Option Addr) (e0 : Nat), e = .returned (.tuple #[.agg #[.int .i64 (qMoveCochain0 t0 m1 t1 m2 t2 m3), .slice C0 (yMoveCochain0 t0 m1 t1 m2 t2 m3).length e0], .int .i64 (qMoveCochain1 t0 m1 t1 m2 t2 m3)]) ∧ Ex W W' ∧ OwnL W' W.heap.size W'.heap.size C0 (yMoveCochain0 t0 m1 t1 m2 t2 m3) := by
  intro B0 d0 B1 d1 B2 d2 w hR hX hF hs hu hf
  have e0 : Ex w (((((w.alloc (.cells #[.slice B0 t0.length d0] 27)).alloc (.cells #[.int .i64 m1, .slice B1 t1.length d1] 40)).alloc (.cells #[.int .i64 m2, .slice B2 t2.length d2] 57)).alloc (.cells #[.int .i64 0, .slice none 0 0] 57)).alloc (.cells #[.int .i64 m2, .slice B2 t2.length d2] 57)) := (((((Ex.refl w).alloc _).alloc _).alloc _).alloc _).alloc _
  have b0 : Has (((((w.alloc (.cells #[.slice B0 t0.length d0] 27)).alloc (.cells #[.int .i64 m1, .slice B1 t1.length d1] 40)).alloc (.cells #[.int .i64 m2, .slice B2 t2.length d2] 57)).alloc (.cells #[.int .i64 0, .slice none 0 0] 57)).alloc (.cells #[.int .i64 m2, .slice B2 t2.length d2] 57)) (w.heap.size) 27 #[.slice B0 t0.length d0] := (((((Has.newAt (w := w) (e := 27) (cs := #[.slice B0 t0.length d0]) (k := w.heap.size) (by simp)).alloc _).alloc _).alloc _).alloc _)
  have b1 : Has (((((w.alloc (.cells #[.slice B0 t0.length d0] 27)).alloc (.cells #[.int .i64 m1, .slice B1 t1.length d1] 40)).alloc (.cells #[.int .i64 m2, .slice B2 t2.length d2] 57)).alloc (.cells #[.int .i64 0, .slice none 0 0] 57)).alloc (.cells #[.int .i64 m2, .slice B2 t2.length d2] 57)) (w.heap.size + 1) 40 #[.int .i64 m1, .slice B1 t1.length d1] := ((((Has.newAt (w := (w.alloc (.cells #[.slice B0 t0.length d0] 27))) (e := 40) (cs := #[.int .i64 m1, .slice B1 t1.length d1]) (k := w.heap.size + 1) (by simp)).alloc _).alloc _).alloc _)
  have b2 : Has (((((w.alloc (.cells #[.slice B0 t0.length d0] 27)).alloc (.cells #[.int .i64 m1, .slice B1 t1.length d1] 40)).alloc (.cells #[.int .i64 m2, .slice B2 t2.length d2] 57)).alloc (.cells #[.int .i64 0, .slice none 0 0] 57)).alloc (.cells #[.int .i64 m2, .slice B2 t2.length d2] 57)) (w.heap.size + 1 + 1) 57 #[.int .i64 m2, .slice B2 t2.length d2] := (((Has.newAt (w := ((w.alloc (.cells #[.slice B0 t0.length d0] 27)).alloc (.cells #[.int .i64 m1, .slice B1 t1.length d1] 40))) (e := 57) (cs := #[.int .i64 m2, .slice B2 t2.length d2]) (k := w.heap.size + 1 + 1) (by simp)).alloc _).alloc _)
  have b3 : Has (((((w.alloc (.cells #[.slice B0 t0.length d0] 27)).alloc (.cells #[.int .i64 m1, .slice B1 t1.length d1] 40)).alloc (.cells #[.int .i64 m2, .slice B2 t2.length d2] 57)).alloc (.cells #[.int .i64 0, .slice none 0 0] 57)).alloc (.cells #[.int .i64 m2, .slice B2 t2.length d2] 57)) (w.heap.size + 1 + 1 + 1) 57 #[.int .i64 0, .slice none 0 0] := ((Has.newAt (w := (((w.alloc (.cells #[.slice B0 t0.length d0] 27)).alloc (.cells #[.int .i64 m1, .slice B1 t1.length d1] 40)).alloc (.cells #[.int .i64 m2, .slice B2 t2.length d2] 57))) (e := 57) (cs := #[.int .i64 0, .slice none 0 0]) (k := w.heap.size + 1 + 1 + 1) (by simp)).alloc _)
  have b4 : Has (((((w.alloc (.cells #[.slice B0 t0.length d0] 27)).alloc (.cells #[.int .i64 m1, .slice B1 t1.length d1] 40)).alloc (.cells #[.int .i64 m2, .slice B2 t2.length d2] 57)).alloc (.cells #[.int .i64 0, .slice none 0 0] 57)).alloc (.cells #[.int .i64 m2, .slice B2 t2.length d2] 57)) (w.heap.size + 1 + 1 + 1 + 1) 57 #[.int .i64 m2, .slice B2 t2.length d2] := (Has.newAt (w := ((((w.alloc (.cells #[.slice B0 t0.length d0] 27)).alloc (.cells #[.int .i64 m1, .slice B1 t1.length d1] 40)).alloc (.cells #[.int .i64 m2, .slice B2 t2.length d2] 57)).alloc (.cells #[.int .i64 0, .slice none 0 0] 57))) (e := 57) (cs := #[.int .i64 m2, .slice B2 t2.length d2]) (k := w.heap.size + 1 + 1 + 1 + 1) (by simp))
  have HC := Lib.hid (l03Code1_ex B0 B1 B2 t0 m1 t1 m2 t2 d0 d1 d2 (w.heap.size + 1 + 1 + 1 + 1) _ (hR.ex e0) (hX.ex e0) (hF.ex e0) hs hu hf b4)
  cases hg : gmcB t0 m1 t1 m2 t2 with
  | false =>
    rw [hg] at HC
    have HQ := Lib.hid (mv_no (c := m3) hg)
    clear hg hR hX hF
    go_enter Tryd.func42, Tryd.ntmps42
    go_wp2_with fail
    generalize (((((w.alloc (.cells #[.slice B0 t0.length d0] 27)).alloc (.cells #[.int .i64 m1, .slice B1 t1.length d1] 40)).alloc (.cells #[.int .i64 m2, .slice B2 t2.length d2] 57)).alloc (.cells #[.int .i64 0, .slice none 0 0] 57)).alloc (.cells #[.int .i64 m2, .slice B2 t2.length d2] 57)) = W0 at *
    refine HC.out.mono ?_
    rintro e W1 ⟨rfl, he1⟩
    have HB3 := Lib.hid (b3.ex he1)
    have c2 := HB3.out.cell 0
    have c2' := HB3.out.cell 1
    have f2 := HB3.out.free 0
    have f2' := HB3.out.free 1
    clear b0 b1 b2 b3 b4
    go_wp2_with fail
    have H4 := HB3.out.put2 (u := .int .i64 0) (v := .slice none 0 0)
    have c4 := H4.cell 0
    have c4' := H4.cell 1
    refine bodyPost_ret (v := .tuple #[.agg #[.int .i64 0, .slice none 0 0], .int .i64 1]) (by simp [results, Tryd.results42, go_sem, c4, c4']) rfl ⟨none, 0, by rw [HQ.out.1, HQ.out.2.1, HQ.out.2.2]; rfl, ((e0.trans he1).setCell (by show w.heap.size ≤ w.heap.size + 1 + 1 + 1; omega) _).setCell (by show w.heap.size ≤ w.heap.size + 1 + 1 + 1; omega) _, by rw [HQ.out.2.1]; exact OwnL.nil _ _ _ (Nat.le_refl _)⟩
  | true =>
    rw [hg] at HC
    obtain ⟨M, k, rfl, rfl, hMF, hk3, hlen, h343, hfr⟩ := gmc_facts hg
    have HEL := Lib.hid (fun kb W (he : Ex w W) => l01Elements1_ex B0 t0 d0 kb m3 W (hR.ex he) hs hMF.g)
    cases hmb : movB t0.length m3 with
    | false =>
      have HQ := Lib.hid (mv_out hg hmb)
      rw [hmb] at HEL
      clear hg hR hX hF hMF hs hu hf hlen hfr hmb
      go_enter Tryd.func42, Tryd.ntmps42
      go_wp2_with fail
      generalize (((((w.alloc (.cells #[.slice B0 t0.length d0] 27)).alloc (.cells #[.int .i64 (M : Int), .slice B1 t1.length d1] 40)).alloc (.cells #[.int .i64 (k : Int), .slice B2 t2.length d2] 57)).alloc (.cells #[.int .i64 0, .slice none 0 0] 57)).alloc (.cells #[.int .i64 (k : Int), .slice B2 t2.length d2] 57)) = W0 at *
      refine HC.out.mono ?_
      rintro e W1 ⟨rfl, he1⟩
      have HE1 := Lib.hid (e0.trans he1)
      have HB3 := Lib.hid (b3.ex he1)
      have c0 := (b0.ex he1).cell 0
      clear b0 b1 b2 b3 b4 e0 he1
      go_wp2_with fail
      refine (HEL.out W1.heap.size _ (HE1.out.alloc _) (Has.new _ _ _)).mono ?_
      rintro e W2 ⟨rfl, he2⟩
      have HE2 := Lib.hid ((HE1.out.alloc _).trans he2)
      have HB3 := Lib.hid ((HB3.out.alloc _).ex he2)
      have c2 := HB3.out.cell 0
      have c2' := HB3.out.cell 1
      have f2 := HB3.out.free 0
      have f2' := HB3.out.free 1
      clear he2 c0 HEL
      go_wp2_with fail
      have H4 := HB3.out.put2 (u := .int .i64 0) (v := .slice none 0 0)
      have c4 := H4.cell 0
      have c4' := H4.cell 1
      refine bodyPost_ret (v := .tuple #[.agg #[.int .i64 0, .slice none 0 0], .int .i64 2]) (by simp [results, Tryd.results42, go_sem, c4, c4']) rfl ⟨none, 0, by rw [HQ.out.1, HQ.out.2.1, HQ.out.2.2]; rfl, (HE2.out.setCell (by show w.heap.size ≤ w.heap.size + 1 + 1 + 1; omega) _).setCell (by show w.heap.size ≤ w.heap.size + 1 + 1 + 1; omega) _, by rw [HQ.out.2.1]; exact OwnL.nil _ _ _ (Nat.le_refl _)⟩
    | true =>
      have hm3 : 0 ≤ m3 ∧ m3 < t0.length := of_decide_eq_true hmb
      obtain ⟨a, rfl⟩ : ∃ a : Nat, m3 = (a : Int) := ⟨m3.toNat, by omega⟩
      have ha : a < t0.length := by omega
      have HQ := Lib.hid (mv_yes hg hmb)
      rw [hmb] at HEL
      have HMV := Lib.hid (fun W (he : Ex w W) => l03Move_any B0 B1 B2 t0 M k a t1 t2 d0 d1 d2 W (hR.ex he) (hX.ex he) (hF.ex he) hMF ha hk3 hlen hfr)
      have HV : Hid (((List.range (cellsN t0.length k)).map fun j => movV t0 M t1 t2 k j (iv t0 a) a).length = cellsN t0.length k) := Lib.hid (by simp)
      obtain ⟨ys, hys⟩ : ∃ ys, ((List.range (cellsN t0.length k)).map fun j => movV t0 M t1 t2 k j (iv t0 a) a) = ys := ⟨_, rfl⟩
      rw [hys] at HV HQ HMV
      obtain ⟨cn, hcn⟩ : ∃ cn, cellsN t0.length k = cn := ⟨_, rfl⟩
      rw [hcn] at HV HMV
      clear hg hR hX hF hMF hs hu hf hlen hfr hmb hm3 hys hcn
      go_enter Tryd.func42, Tryd.ntmps42
      go_wp2_with fail
      generalize (((((w.alloc (.cells #[.slice B0 t0.length d0] 27)).alloc (.cells #[.int .i64 (M : Int), .slice B1 t1.length d1] 40)).alloc (.cells #[.int .i64 (k : Int), .slice B2 t2.length d2] 57)).alloc (.cells #[.int .i64 0, .slice none 0 0] 57)).alloc (.cells #[.int .i64 (k : Int), .slice B2 t2.length d2] 57)) = W0 at *
      refine HC.out.mono ?_
      rintro e W1 ⟨rfl, he1⟩
      have HE1 := Lib.hid (e0.trans he1)
      have HB0 := Lib.hid (b0.ex he1)
      have HB1 := Lib.hid (b1.ex he1)
      have HB2 := Lib.hid (b2.ex he1)
      have HB3 := Lib.hid (b3.ex he1)
      have c0 := HB0.out.cell 0
      clear b0 b1 b2 b3 b4 e0 he1
      go_wp2_with fail
      refine (HEL.out W1.heap.size _ (HE1.out.alloc _) (Has.new _ _ _)).mono ?_
      rintro e W2 ⟨rfl, he2⟩
      have hx2 : Ex W1 W2 := ((Ex.refl W1).alloc _).trans he2
      have HE2 := Lib.hid (HE1.out.trans hx2)
      have d0' := (HB0.out.ex hx2).cell 0
      have d1' := (HB1.out.ex hx2).cell 0
      have d1'' := (HB1.out.ex hx2).cell 1
      have d2' := (HB2.out.ex hx2).cell 0
      have d2'' := (HB2.out.ex hx2).cell 1
      have HB32 := Lib.hid (HB3.out.ex hx2)
      clear he2 c0 HEL hx2
      go_wp2_with fail
      refine (HMV.out W2 HE2.out).mono ?_
      rintro e W3 ⟨A3, n3, rfl, he3, ho3⟩
      have HB4 := Lib.hid (HB32.out.ex he3)
      have c2 := HB4.out.cell 0
      have c2' := HB4.out.cell 1
      have f2 := HB4.out.free 0
      have f2' := HB4.out.free 1
      have hzl := HB32.out.lt
      have HE3 := Lib.hid (HE2.out.trans he3)
      have HO3 := Lib.hid ho3
      clear he3 ho3 d0' d1' d1'' d2' d2''
      go_wp2_with fail
      have H4 := HB4.out.put2 (u := .int .i64 (k : Int)) (v := .slice A3 cn n3)
      have c4 := H4.cell 0
      have c4' := H4.cell 1
      refine bodyPost_ret (v := .tuple #[.agg #[.int .i64 (k : Int), .slice A3 cn n3], .int .i64 0]) (by simp [results, Tryd.results42, go_sem, c4, c4']) rfl ⟨A3, n3, by rw [HQ.out.1, HQ.out.2.1, HQ.out.2.2, HV.out], (HE3.out.setCell (by show w.heap.size ≤ w.heap.size + 1 + 1 + 1; omega) _).setCell (by show w.heap.size ≤ w.heap.size + 1 + 1 + 1; omega) _, ?_⟩
      rw [HQ.out.2.1]
      exact ((HO3.out.above (Only.set _ _ _ _) hzl).above (Only.set _ _ _ _) hzl).mono HE2.out.size (by simp) (Nat.le_refl _)

end Go.Proofs.YtalejhbdbclfaaaDoor
