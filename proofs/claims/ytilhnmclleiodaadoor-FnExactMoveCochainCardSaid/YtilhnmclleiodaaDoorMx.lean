/- MoveCochain: the model, the program's contract. -/
import Derived.Test.YtilhnmclleiodaaDoorMvt
import Derived.Test.YtilhnmclleiodaaDoorFdc
import Derived.Test.YtilhnmclleiodaaDoorBa
namespace Go.Proofs.YtilhnmclleiodaaDoor
open Go.RowKit

def movB (N : Nat) (c : Int) : Bool := decide (0 ≤ c ∧ c < N)
noncomputable def qMoveCochain0 (t : List (List Int)) (m : Int) (us : List Int) (n : Int) (fs : List Int) (c : Int) : Int := if gmcB t m us n fs = true ∧ movB t.length c = true then n else 0
noncomputable def yMoveCochain0 (t : List (List Int)) (m : Int) (us : List Int) (n : Int) (fs : List Int) (c : Int) : List Int :=
  if gmcB t m us n fs = true ∧ movB t.length c = true then (List.range (cellsN t.length n.toNat)).map fun k => movV t m.toNat us fs n.toNat k (iv t c.toNat) c.toNat else []
noncomputable def qMoveCochain1 (t : List (List Int)) (m : Int) (us : List Int) (n : Int) (fs : List Int) (c : Int) : Int := if gmcB t m us n fs = true then (if movB t.length c = true then 0 else 2) else 1
section
variable {t : List (List Int)} {m n c : Int} {us fs : List Int}
theorem mv_no (h : gmcB t m us n fs = false) : qMoveCochain0 t m us n fs c = 0 ∧ yMoveCochain0 t m us n fs c = [] ∧ qMoveCochain1 t m us n fs c = 1 := by simp [qMoveCochain0, yMoveCochain0, qMoveCochain1, h]
theorem mv_out (h : gmcB t m us n fs = true) (h2 : movB t.length c = false) : qMoveCochain0 t m us n fs c = 0 ∧ yMoveCochain0 t m us n fs c = [] ∧ qMoveCochain1 t m us n fs c = 2 := by simp [qMoveCochain0, yMoveCochain0, qMoveCochain1, h, h2]
theorem mv_yes {M d a : Nat} (h : gmcB t (M : Int) us (d : Int) fs = true) (h2 : movB t.length (a : Int) = true) : qMoveCochain0 t (M : Int) us (d : Int) fs (a : Int) = (d : Int) ∧ yMoveCochain0 t (M : Int) us (d : Int) fs (a : Int) = (List.range (cellsN t.length d)).map (fun k => movV t M us fs d k (iv t a) a) ∧ qMoveCochain1 t (M : Int) us (d : Int) fs (a : Int) = 0 := by
  simp [qMoveCochain0, yMoveCochain0, qMoveCochain1, h, h2]
theorem moveCochain_small0 (t : List (List Int)) (m : Int) (us : List Int) (n : Int) (fs : List Int) (c : Int) : (yMoveCochain0 t m us n fs c).length ≤ 1048576 := by
  unfold yMoveCochain0
  split
  · rename_i h
    obtain ⟨M, k, rfl, rfl, hMF, hk3, hlen, h343, hfr⟩ := gmc_facts h.1
    simp only [List.length_map, List.length_range, Int.toNat_natCast]
    have := cellsN_le hMF.g.n8 (show k ≤ 4 by omega)
    omega
  · simp
theorem cells_pos {N d k : Nat} (h : k < cellsN N d) : d = 0 ∨ 2 ≤ N := by
  rcases Nat.eq_zero_or_pos d with h0 | h0
  · exact .inl h0
  · right
    rcases Nat.lt_or_ge N 2 with hN | hN
    · rw [cellsN, show N - 1 = 0 by omega, Nat.zero_pow h0] at h
      omega
    · exact hN
end

set_option maxRecDepth 100000 in
set_option maxHeartbeats 4000000 in
theorem implMoveCochain_ex (t0 : List (List Int)) (m1 : Int) (t1 : List Int) (m2 : Int) (t2 : List Int) (m3 : Int) : ∀ (B0 : Option Addr) (d0 : Nat) (B1 : Option Addr) (d1 : Nat) (B2 : Option Addr) (d2 : Nat) (W : World), RwsW W B0 t0 → IntsW W B1 t1 → IntsW W B2 t2 → SmallT t0 → t1.length ≤ 1048576 → t2.length ≤ 1048576 →
    Calls Tryd.prog 44 #[.agg #[.slice B0 t0.length d0], .agg #[.int .i64 m1, .slice B1 t1.length d1], .agg #[.int .i64 m2, .slice B2 t2.length d2], .int .i64 m3] W fun e W' => ∃ (C0 : Option Addr) (e0 : Nat), e = .returned (.tuple #[.agg #[.int .i64 (qMoveCochain0 t0 m1 t1 m2 t2 m3), .slice C0 (yMoveCochain0 t0 m1 t1 m2 t2 m3).length e0], .int .i64 (qMoveCochain1 t0 m1 t1 m2 t2 m3)]) ∧ Ex W W' ∧ OwnL W' W.heap.size W'.heap.size C0 (yMoveCochain0 t0 m1 t1 m2 t2 m3) := by
  intro B0 d0 B1 d1 B2 d2 w hR hX hF hs hu hf
  have e0 : Ex w (((((w.alloc (.cells #[.slice B0 t0.length d0] 31)).alloc (.cells #[.int .i64 m1, .slice B1 t1.length d1] 28)).alloc (.cells #[.int .i64 m2, .slice B2 t2.length d2] 43)).alloc (.cells #[.int .i64 m3] 2)).alloc (.cells #[.int .i64 0, .slice none 0 0] 43)) := (((((Ex.refl w).alloc _).alloc _).alloc _).alloc _).alloc _
  have b0 : Has (((((w.alloc (.cells #[.slice B0 t0.length d0] 31)).alloc (.cells #[.int .i64 m1, .slice B1 t1.length d1] 28)).alloc (.cells #[.int .i64 m2, .slice B2 t2.length d2] 43)).alloc (.cells #[.int .i64 m3] 2)).alloc (.cells #[.int .i64 0, .slice none 0 0] 43)) (w.heap.size) 31 #[.slice B0 t0.length d0] := (((((Has.newAt (w := w) (e := 31) (cs := #[.slice B0 t0.length d0]) (k := w.heap.size) (by simp)).alloc _).alloc _).alloc _).alloc _)
  have b1 : Has (((((w.alloc (.cells #[.slice B0 t0.length d0] 31)).alloc (.cells #[.int .i64 m1, .slice B1 t1.length d1] 28)).alloc (.cells #[.int .i64 m2, .slice B2 t2.length d2] 43)).alloc (.cells #[.int .i64 m3] 2)).alloc (.cells #[.int .i64 0, .slice none 0 0] 43)) (w.heap.size + 1) 28 #[.int .i64 m1, .slice B1 t1.length d1] := ((((Has.newAt (w := (w.alloc (.cells #[.slice B0 t0.length d0] 31))) (e := 28) (cs := #[.int .i64 m1, .slice B1 t1.length d1]) (k := w.heap.size + 1) (by simp)).alloc _).alloc _).alloc _)
  have b2 : Has (((((w.alloc (.cells #[.slice B0 t0.length d0] 31)).alloc (.cells #[.int .i64 m1, .slice B1 t1.length d1] 28)).alloc (.cells #[.int .i64 m2, .slice B2 t2.length d2] 43)).alloc (.cells #[.int .i64 m3] 2)).alloc (.cells #[.int .i64 0, .slice none 0 0] 43)) (w.heap.size + 1 + 1) 43 #[.int .i64 m2, .slice B2 t2.length d2] := (((Has.newAt (w := ((w.alloc (.cells #[.slice B0 t0.length d0] 31)).alloc (.cells #[.int .i64 m1, .slice B1 t1.length d1] 28))) (e := 43) (cs := #[.int .i64 m2, .slice B2 t2.length d2]) (k := w.heap.size + 1 + 1) (by simp)).alloc _).alloc _)
  have b3 : Has (((((w.alloc (.cells #[.slice B0 t0.length d0] 31)).alloc (.cells #[.int .i64 m1, .slice B1 t1.length d1] 28)).alloc (.cells #[.int .i64 m2, .slice B2 t2.length d2] 43)).alloc (.cells #[.int .i64 m3] 2)).alloc (.cells #[.int .i64 0, .slice none 0 0] 43)) (w.heap.size + 1 + 1 + 1) 2 #[.int .i64 m3] := ((Has.newAt (w := (((w.alloc (.cells #[.slice B0 t0.length d0] 31)).alloc (.cells #[.int .i64 m1, .slice B1 t1.length d1] 28)).alloc (.cells #[.int .i64 m2, .slice B2 t2.length d2] 43))) (e := 2) (cs := #[.int .i64 m3]) (k := w.heap.size + 1 + 1 + 1) (by simp)).alloc _)
  have b4 : Has (((((w.alloc (.cells #[.slice B0 t0.length d0] 31)).alloc (.cells #[.int .i64 m1, .slice B1 t1.length d1] 28)).alloc (.cells #[.int .i64 m2, .slice B2 t2.length d2] 43)).alloc (.cells #[.int .i64 m3] 2)).alloc (.cells #[.int .i64 0, .slice none 0 0] 43)) (w.heap.size + 1 + 1 + 1 + 1) 43 #[.int .i64 0, .slice none 0 0] := (Has.newAt (w := ((((w.alloc (.cells #[.slice B0 t0.length d0] 31)).alloc (.cells #[.int .i64 m1, .slice B1 t1.length d1] 28)).alloc (.cells #[.int .i64 m2, .slice B2 t2.length d2] 43)).alloc (.cells #[.int .i64 m3] 2))) (e := 43) (cs := #[.int .i64 0, .slice none 0 0]) (k := w.heap.size + 1 + 1 + 1 + 1) (by simp))
  have hmf : ∀ (fn : Fn) (first cap : Array Value) (w : World), (Instr.makeFunc fn first cap).run Tryd.prog w = .ok (.func fn first cap) w := fun _ _ _ _ => rfl
  have hC := isCochain_any B0 B1 B2 t0 m1 t1 m2 t2 d0 d1 d2 _ (hR.ex e0) (hX.ex e0) (hF.ex e0) hs hu hf
  rw [show (gmB t0 m1 t1 && cocB t0.length m1 m2 t2) = gmcB t0 m1 t1 m2 t2 from rfl] at hC
  have HC := Lib.hid hC
  have hN6 := hs.1
  clear hC
  cases hg : gmcB t0 m1 t1 m2 t2 with
  | false =>
    rw [hg] at HC
    have HQ := Lib.hid (mv_no (c := m3) hg)
    clear hg hR hX hF
    go_enter Tryd.func44, Tryd.ntmps44
    go_wp2_with fail
    generalize (((((w.alloc (.cells #[.slice B0 t0.length d0] 31)).alloc (.cells #[.int .i64 m1, .slice B1 t1.length d1] 28)).alloc (.cells #[.int .i64 m2, .slice B2 t2.length d2] 43)).alloc (.cells #[.int .i64 m3] 2)).alloc (.cells #[.int .i64 0, .slice none 0 0] 43)) = W0 at *
    refine HC.out.mono ?_
    rintro e W1 ⟨rfl, he1⟩
    have HB4 := Lib.hid (b4.ex he1)
    have c2 := HB4.out.cell 0
    have c2' := HB4.out.cell 1
    have f2 := HB4.out.free 0
    have f2' := HB4.out.free 1
    clear b0 b1 b2 b3 b4
    go_wp2_with fail
    have H4 := HB4.out.put2 (u := .int .i64 0) (v := .slice none 0 0)
    have c4 := H4.cell 0
    have c4' := H4.cell 1
    refine bodyPost_ret (v := .tuple #[.agg #[.int .i64 0, .slice none 0 0], .int .i64 1]) (by simp [results, Tryd.results44, go_sem, c4, c4']) rfl ⟨none, 0, by rw [HQ.out.1, HQ.out.2.1, HQ.out.2.2]; rfl, ((e0.trans he1).setCell (by show w.heap.size ≤ w.heap.size + 1 + 1 + 1 + 1; omega) _).setCell (by show w.heap.size ≤ w.heap.size + 1 + 1 + 1 + 1; omega) _, by rw [HQ.out.2.1]; exact OwnL.nil _ _ _ (Nat.le_refl _)⟩
  | true =>
    rw [hg] at HC
    obtain ⟨M, k, rfl, rfl, hMF, hk3, hlen, h343, hfr⟩ := gmc_facts hg
    have hN8 := hMF.g.n8
    have hN1 := hMF.g.n1
    have HIS := Lib.hid (fun W => isElement_any B0 t0.length d0 m3 W (by omega))
    cases hmb : movB t0.length m3 with
    | false =>
      have HQ := Lib.hid (mv_out hg hmb)
      rw [show decide (0 ≤ m3 ∧ m3 < t0.length) = false from hmb] at HIS
      clear hg hR hX hF hMF hs hu hf hlen hfr hmb
      go_enter Tryd.func44, Tryd.ntmps44
      go_wp2_with fail
      generalize (((((w.alloc (.cells #[.slice B0 t0.length d0] 31)).alloc (.cells #[.int .i64 (M : Int), .slice B1 t1.length d1] 28)).alloc (.cells #[.int .i64 (k : Int), .slice B2 t2.length d2] 43)).alloc (.cells #[.int .i64 m3] 2)).alloc (.cells #[.int .i64 0, .slice none 0 0] 43)) = W0 at *
      refine HC.out.mono ?_
      rintro e W1 ⟨rfl, he1⟩
      have HE1 := Lib.hid (e0.trans he1)
      have HB1 := Lib.hid (b4.ex he1)
      have c0 := (b0.ex he1).cell 0
      have c3 := (b3.ex he1).cell 0
      clear b0 b1 b2 b3 b4 e0 he1
      go_wp2_with fail
      refine (HIS.out _).mono ?_
      rintro e W2 ⟨rfl, he2⟩
      have HE2 := Lib.hid (HE1.out.trans he2)
      have HB4 := Lib.hid (HB1.out.ex he2)
      have c2 := HB4.out.cell 0
      have c2' := HB4.out.cell 1
      have f2 := HB4.out.free 0
      have f2' := HB4.out.free 1
      clear he2 c0 c3
      go_wp2_with fail
      have H4 := HB4.out.put2 (u := .int .i64 0) (v := .slice none 0 0)
      have c4 := H4.cell 0
      have c4' := H4.cell 1
      refine bodyPost_ret (v := .tuple #[.agg #[.int .i64 0, .slice none 0 0], .int .i64 2]) (by simp [results, Tryd.results44, go_sem, c4, c4']) rfl ⟨none, 0, by rw [HQ.out.1, HQ.out.2.1, HQ.out.2.2]; rfl, (HE2.out.setCell (by show w.heap.size ≤ w.heap.size + 1 + 1 + 1 + 1; omega) _).setCell (by show w.heap.size ≤ w.heap.size + 1 + 1 + 1 + 1; omega) _, by rw [HQ.out.2.1]; exact OwnL.nil _ _ _ (Nat.le_refl _)⟩
    | true =>
      have hm3 : 0 ≤ m3 ∧ m3 < t0.length := of_decide_eq_true hmb
      obtain ⟨a, rfl⟩ : ∃ a : Nat, m3 = (a : Int) := ⟨m3.toNat, by omega⟩
      have ha : a < t0.length := by omega
      have hib := (iv_spec hMF.g ha).1
      have HQ := Lib.hid (mv_yes hg hmb)
      rw [show decide (0 ≤ (a : Int) ∧ (a : Int) < t0.length) = true from hmb] at HIS
      have HIV := Lib.hid (fun W (he : Ex w W) => inverseOf_any B0 t0 d0 a W (hR.ex he) hMF.g ha)
      have HCW := Lib.hid (fun (Bb : Nat) W (he : Ex _ W) (hb : Has W Bb 2 #[.int .i64 (iv t0 a : Int)]) =>
        cochainWith_any B0 t0.length d0 k 95 #[.pointer (some ⟨w.heap.size, 0, none⟩), .pointer (some ⟨Bb, 0, none⟩), .pointer (some ⟨w.heap.size + 1, 0, none⟩), .pointer (some ⟨w.heap.size + 1 + 1 + 1, 0, none⟩), .pointer (some ⟨w.heap.size + 1 + 1, 0, none⟩)]
          (fun j => movV t0 M t1 t2 k j (iv t0 a) a) W hN8 hN1 (by omega) (enters_of Tryd.func95 (by kernel_rfl) rfl)
          (fun W' he' j hj B e hL _ => mvc_ex w.heap.size Bb (w.heap.size + 1) (w.heap.size + 1 + 1 + 1) (w.heap.size + 1 + 1) B0 B1 B2 B t0 M k j (iv t0 a) a t1 t2 d0 d1 d2 e W'
            (b0.ex (he.trans he')) (hb.ex he') (b1.ex (he.trans he')) (b3.ex (he.trans he')) (b2.ex (he.trans he')) (hR.ex (e0.trans (he.trans he'))) (hX.ex (e0.trans (he.trans he'))) (hF.ex (e0.trans (he.trans he'))) hL hMF hib ha (by omega) (cells_pos hj) hlen hfr))
      obtain ⟨b, hbe⟩ : ∃ b, iv t0 a = b := ⟨_, rfl⟩
      rw [hbe] at HIV HCW HQ
      have HV : Hid (((List.range (cellsN t0.length k)).map fun j => movV t0 M t1 t2 k j b a).length = cellsN t0.length k) := Lib.hid (by simp)
      clear hg hR hX hF hMF hs hu hf hlen hfr hmb hm3 ha hib hbe
      go_enter Tryd.func44, Tryd.ntmps44
      go_wp2_with fail
      generalize (((((w.alloc (.cells #[.slice B0 t0.length d0] 31)).alloc (.cells #[.int .i64 (M : Int), .slice B1 t1.length d1] 28)).alloc (.cells #[.int .i64 (k : Int), .slice B2 t2.length d2] 43)).alloc (.cells #[.int .i64 (a : Int)] 2)).alloc (.cells #[.int .i64 0, .slice none 0 0] 43)) = W0 at *
      refine HC.out.mono ?_
      rintro e W1 ⟨rfl, he1⟩
      have c0 := (b0.ex he1).cell 0
      have c3 := (b3.ex he1).cell 0
      go_wp2_with fail
      refine (HIS.out _).mono ?_
      rintro e W2 ⟨rfl, he2⟩
      have he02 := he1.trans he2
      have c02 := (b0.ex he02).cell 0
      have c32 := (b3.ex he02).cell 0
      go_wp2_with fail
      refine (HIV.out _ (e0.trans he02)).mono ?_
      rintro e W3 ⟨rfl, he3⟩
      have he03 := he02.trans he3
      obtain ⟨D, hD⟩ : ∃ D, W3.heap.size = D := ⟨_, rfl⟩
      have HDD := Lib.hid hD
      have he4 := he03.alloc (.cells #[.int .i64 (b : Int)] 2)
      have hbb := Has.newAt (w := W3) (e := 2) (cs := #[.int .i64 (b : Int)]) hD
      have HCW4 := Lib.hid (HCW.out D _ he4 hbb)
      have HB4 := Lib.hid (b4.ex he4)
      have c04 := (b0.ex he4).cell 0
      have c24 := (b2.ex he4).cell 0
      have HE4 := Lib.hid (e0.trans he4)
      clear HCW b0 b1 b2 b3 b4 e0 he1 he2 he3 he02 he03 he4 hbb c0 c3 c02 c32
      go_wp2_with fail
      refine HCW4.out.mono ?_
      rintro e W5 ⟨A', c', rfl, he5, ho5⟩
      have HB5 := Lib.hid (HB4.out.ex he5)
      have c2 := HB5.out.cell 0
      have c2' := HB5.out.cell 1
      have f2 := HB5.out.free 0
      have f2' := HB5.out.free 1
      have hzl := HB4.out.lt
      have hzw := HE4.out.size
      have HE5 := Lib.hid (HE4.out.trans he5)
      have HO5 := Lib.hid ho5
      clear he5 ho5 c04 c24 HCW4 HB4
      go_wp2_with fail
      have H4 := HB5.out.put2 (u := .int .i64 (k : Int)) (v := .slice A' (cellsN t0.length k) c')
      have c4 := H4.cell 0
      have c4' := H4.cell 1
      refine bodyPost_ret (v := .tuple #[.agg #[.int .i64 (k : Int), .slice A' (cellsN t0.length k) c'], .int .i64 0]) (by simp [results, Tryd.results44, go_sem, c4, c4']) rfl ⟨A', c', by rw [HQ.out.1, HQ.out.2.1, HQ.out.2.2, HV.out], (HE5.out.setCell (by show w.heap.size ≤ w.heap.size + 1 + 1 + 1 + 1; omega) _).setCell (by show w.heap.size ≤ w.heap.size + 1 + 1 + 1 + 1; omega) _, ?_⟩
      rw [HQ.out.2.1]
      exact ((HO5.out.above (Only.set _ _ _ _) hzl).above (Only.set _ _ _ _) hzl).mono hzw (by simp) (Nat.le_refl _)

end Go.Proofs.YtilhnmclleiodaaDoor
