/- RestrictCochain: the model, and the program's contract. -/
import Derived.Test.YtfnjpbjlikajbaaGreatDoorXa
import Derived.Test.YtfnjpbjlikajbaaGreatDoorUs
import Derived.Test.YtfnjpbjlikajbaaGreatDoorRdc
namespace Go.Proofs.YtfnjpbjlikajbaaGreatDoor
open Go.RowKit

noncomputable def rcC (t : List (List Int)) (m : Int) (us xs : List Int) (n : Int) (fs : List Int) : Int := if gmcB t m us n fs = true then sgC t xs [] else 1
noncomputable def qRestrictCochain0 (t : List (List Int)) (m : Int) (us xs : List Int) (n : Int) (fs : List Int) : Int := if rcC t m us xs n fs = 0 then n else 0
noncomputable def yRestrictCochain0 (t : List (List Int)) (m : Int) (us xs : List Int) (n : Int) (fs : List Int) : List Int := if rcC t m us xs n fs = 0 then pbY (fun x => (xN xs x : Int)) fs xs.length t.length n.toNat else []
noncomputable def qRestrictCochain1 (t : List (List Int)) (m : Int) (us xs : List Int) (n : Int) (fs : List Int) : Int := rcC t m us xs n fs
section
variable {t : List (List Int)} {m n : Int} {us xs fs : List Int}
theorem rst_no {z : Int} (h : rcC t m us xs n fs = z) (hz : z ≠ 0) : qRestrictCochain0 t m us xs n fs = 0 ∧ yRestrictCochain0 t m us xs n fs = [] ∧ qRestrictCochain1 t m us xs n fs = z := by simp [qRestrictCochain0, yRestrictCochain0, qRestrictCochain1, h, hz]
theorem rst_yes {d : Nat} (h : rcC t m us xs (d : Int) fs = 0) : qRestrictCochain0 t m us xs (d : Int) fs = (d : Int) ∧ yRestrictCochain0 t m us xs (d : Int) fs = pbY (fun x => (xN xs x : Int)) fs xs.length t.length d ∧ qRestrictCochain1 t m us xs (d : Int) fs = 0 := by
  simp only [qRestrictCochain0, yRestrictCochain0, qRestrictCochain1, h, if_true, Int.toNat_natCast, and_self]
theorem rcC_no (h : gmcB t m us n fs = false) : rcC t m us xs n fs = 1 := by simp [rcC, h]
theorem rcC_yes (h : gmcB t m us n fs = true) : rcC t m us xs n fs = sgC t xs [] := by simp [rcC, h]
theorem rcC_f (h : rcC t m us xs n fs = 0) : gmcB t m us n fs = true ∧ SubX t xs := by
  unfold rcC at h
  split at h
  · rename_i hg
    exact ⟨hg, subX_code h⟩
  · cases h
theorem restrictCochain_small0 (t : List (List Int)) (m : Int) (us xs : List Int) (n : Int) (fs : List Int) : (yRestrictCochain0 t m us xs n fs).length ≤ 1048576 := by
  unfold yRestrictCochain0
  split
  · rename_i h
    obtain ⟨hg, hs⟩ := rcC_f h
    obtain ⟨M, k, rfl, rfl, hMF, hk3, -⟩ := gmc_facts hg
    rw [pbY_len, Int.toNat_natCast]
    have := cellsN_le hs.len8 (show k ≤ 4 by omega)
    omega
  · simp
end

set_option maxHeartbeats 1000000 in
theorem incTarget_any (P A L : Option Addr) (p pc n c k c' : Nat) (w : World) :
    Calls Tryz.prog 164 #[.agg #[.slice P p pc, .slice A n c, .slice L k c']] w fun e w' => e = .returned (.agg #[.slice A n c]) ∧ Ex w w' := by
  have e0 : Ex w ((w.alloc (.cells #[.slice P p pc, .slice A n c, .slice L k c'] 67)).alloc (.cells #[.slice none 0 0] 36)) := ((Ex.refl w).alloc _).alloc _
  have b0 : Has ((w.alloc (.cells #[.slice P p pc, .slice A n c, .slice L k c'] 67)).alloc (.cells #[.slice none 0 0] 36)) (w.heap.size) 67 #[.slice P p pc, .slice A n c, .slice L k c'] := ((Has.newAt (w := w) (e := 67) (cs := #[.slice P p pc, .slice A n c, .slice L k c']) (k := w.heap.size) (by simp)).alloc _)
  have b1 : Has ((w.alloc (.cells #[.slice P p pc, .slice A n c, .slice L k c'] 67)).alloc (.cells #[.slice none 0 0] 36)) (w.heap.size + 1) 36 #[.slice none 0 0] := (Has.newAt (w := (w.alloc (.cells #[.slice P p pc, .slice A n c, .slice L k c'] 67))) (e := 36) (cs := #[.slice none 0 0]) (k := w.heap.size + 1) (by simp))
  have c0 := b0.cell 1
  clear b0 b1 e0
  go_enter Tryz.func164, Tryz.ntmps164
  go_wp2_with fail
  exact bodyPost_ret (v := .agg #[.slice A n c]) (by simp [results, Tryz.results164, go_sem]) rfl ⟨rfl, ((Ex.refl w).alloc _).alloc _⟩
theorem meth_target (n : Nat) (v : Value) (w : World) : (method (n + 1) 67 v "loop.example/g01363/impl.target").run Tryz.prog w = .ok (164, v) w := by kernel_rfl

/-- Cochains along an inclusion. -/
theorem incAlong_any (P A L F : Option Addr) (pc c c' c1 d : Nat) (t : List (List Int)) (xs fs : List Int) (w : World) (h : SubX t xs) (hX : IntsW w L xs) (hF : IntsW w F fs) (hd : d ≤ 3) (hfl : fs.length = cellsN t.length d) :
    Calls Tryz.prog 41 #[.iface 67 (.agg #[.slice P xs.length pc, .slice A t.length c, .slice L xs.length c']), .agg #[.int .i64 (d : Int), .slice F fs.length c1]] w fun e w' => ∃ A5 n5, e = .returned (.agg #[.int .i64 (d : Int), .slice A5 (cellsN xs.length d) n5]) ∧ Ex w w' ∧ OwnL w' w.heap.size w'.heap.size A5 (pbY (fun x => (xN xs x : Int)) fs xs.length t.length d) :=
  cochainAlong_any 67 (.agg #[.slice P xs.length pc, .slice A t.length c, .slice L xs.length c']) 163 164 162 P A F xs.length t.length d (fun x => (xN xs x : Int)) fs pc c c1 w
    (fun w => meth_source 281 _ w) (fun w => meth_target 281 _ w) (fun w => meth_image 281 _ w)
    (enters_of Tryz.func163 (by kernel_rfl) rfl) (enters_of Tryz.func164 (by kernel_rfl) rfl) (enters_of Tryz.func162 (by kernel_rfl) rfl)
    (fun W _ => incSource_any P A L xs.length pc t.length c xs.length c' W) (fun W _ => incTarget_any P A L xs.length pc t.length c xs.length c' W)
    (fun W he x hx => by
      have hi := incImage_any P A L xs.length pc t.length c c' x xs W (hX.ex he) hx h.len8
      rw [(h.nat hx).1] at hi
      exact hi)
    hF h.len8 h.pos h.g.n8 h.g.n1 hd (fun x hx => by have := (h.nat hx).2; omega) hfl

set_option maxRecDepth 100000 in
set_option maxHeartbeats 8000000 in
theorem implRestrictCochain_ex (t0 : List (List Int)) (m1 : Int) (t1 t2 : List Int) (m3 : Int) (t3 : List Int) : ∀ (B0 : Option Addr) (d0 : Nat) (B1 : Option Addr) (d1 : Nat) (B2 : Option Addr) (d2 : Nat) (B3 : Option Addr) (d3 : Nat) (W : World), RwsW W B0 t0 → IntsW W B1 t1 → IntsW W B2 t2 → IntsW W B3 t3 → SmallT t0 → t1.length ≤ 1048576 → t2.length ≤ 1048576 → t3.length ≤ 1048576 → TabL W →
    Calls Tryz.prog 15 #[.agg #[.slice B0 t0.length d0], .agg #[.int .i64 m1, .slice B1 t1.length d1], .slice B2 t2.length d2, .agg #[.int .i64 m3, .slice B3 t3.length d3]] W (SqS (qRestrictCochain0 t0 m1 t1 t2 m3 t3) (yRestrictCochain0 t0 m1 t1 t2 m3 t3) (qRestrictCochain1 t0 m1 t1 t2 m3 t3) W) := by
  intro B0 d0 B1 d1 B2 d2 B3 d3 w hR hU hX hF hs hu hx hf hT
  have e0 : Ex w ((((w.alloc (.cells #[.slice B0 t0.length d0] 36)).alloc (.cells #[.int .i64 m1, .slice B1 t1.length d1] 38)).alloc (.cells #[.int .i64 m3, .slice B3 t3.length d3] 33)).alloc (.cells #[.int .i64 0, .slice none 0 0] 33)) := ((((Ex.refl w).alloc _).alloc _).alloc _).alloc _
  have b0 : Has ((((w.alloc (.cells #[.slice B0 t0.length d0] 36)).alloc (.cells #[.int .i64 m1, .slice B1 t1.length d1] 38)).alloc (.cells #[.int .i64 m3, .slice B3 t3.length d3] 33)).alloc (.cells #[.int .i64 0, .slice none 0 0] 33)) (w.heap.size) 36 #[.slice B0 t0.length d0] := ((((Has.newAt (w := w) (e := 36) (cs := #[.slice B0 t0.length d0]) (k := w.heap.size) (by simp)).alloc _).alloc _).alloc _)
  have b1 : Has ((((w.alloc (.cells #[.slice B0 t0.length d0] 36)).alloc (.cells #[.int .i64 m1, .slice B1 t1.length d1] 38)).alloc (.cells #[.int .i64 m3, .slice B3 t3.length d3] 33)).alloc (.cells #[.int .i64 0, .slice none 0 0] 33)) (w.heap.size + 1) 38 #[.int .i64 m1, .slice B1 t1.length d1] := (((Has.newAt (w := (w.alloc (.cells #[.slice B0 t0.length d0] 36))) (e := 38) (cs := #[.int .i64 m1, .slice B1 t1.length d1]) (k := w.heap.size + 1) (by simp)).alloc _).alloc _)
  have b2 : Has ((((w.alloc (.cells #[.slice B0 t0.length d0] 36)).alloc (.cells #[.int .i64 m1, .slice B1 t1.length d1] 38)).alloc (.cells #[.int .i64 m3, .slice B3 t3.length d3] 33)).alloc (.cells #[.int .i64 0, .slice none 0 0] 33)) (w.heap.size + 1 + 1) 33 #[.int .i64 m3, .slice B3 t3.length d3] := ((Has.newAt (w := ((w.alloc (.cells #[.slice B0 t0.length d0] 36)).alloc (.cells #[.int .i64 m1, .slice B1 t1.length d1] 38))) (e := 33) (cs := #[.int .i64 m3, .slice B3 t3.length d3]) (k := w.heap.size + 1 + 1) (by simp)).alloc _)
  have b3 : Has ((((w.alloc (.cells #[.slice B0 t0.length d0] 36)).alloc (.cells #[.int .i64 m1, .slice B1 t1.length d1] 38)).alloc (.cells #[.int .i64 m3, .slice B3 t3.length d3] 33)).alloc (.cells #[.int .i64 0, .slice none 0 0] 33)) (w.heap.size + 1 + 1 + 1) 33 #[.int .i64 0, .slice none 0 0] := (Has.newAt (w := (((w.alloc (.cells #[.slice B0 t0.length d0] 36)).alloc (.cells #[.int .i64 m1, .slice B1 t1.length d1] 38)).alloc (.cells #[.int .i64 m3, .slice B3 t3.length d3] 33))) (e := 33) (cs := #[.int .i64 0, .slice none 0 0]) (k := w.heap.size + 1 + 1 + 1) (by simp))
  have hC := isCochain_any B0 B1 B3 t0 m1 t1 m3 t3 d0 d1 d3 _ (hR.ex e0) (hU.ex e0) (hF.ex e0) hs hu hf
  rw [show (gmB t0 m1 t1 && cocB t0.length m1 m3 t3) = gmcB t0 m1 t1 m3 t3 from rfl] at hC
  have HC := Lib.hid hC
  clear hC
  have k0 := b0.cell 0
  have k1 := b1.cell 0
  have k1' := b1.cell 1
  have k2 := b2.cell 0
  have k2' := b2.cell 1
  cases hg : gmcB t0 m1 t1 m3 t3 with
  | false =>
    rw [hg] at HC
    have HQ := Lib.hid (rst_no (rcC_no (xs := t2) hg) (by decide))
    clear hg hR hU hX hF hs hu hx hf hT
    go_enter Tryz.func15, Tryz.ntmps15
    go_wp2_with fail
    generalize ((((w.alloc (.cells #[.slice B0 t0.length d0] 36)).alloc (.cells #[.int .i64 m1, .slice B1 t1.length d1] 38)).alloc (.cells #[.int .i64 m3, .slice B3 t3.length d3] 33)).alloc (.cells #[.int .i64 0, .slice none 0 0] 33)) = W0 at *
    refine HC.out.mono ?_
    rintro e W1 ⟨rfl, he1⟩
    have HE1 := Lib.hid (e0.trans he1)
    have HBR := Lib.hid (b3.ex he1)
    have c4 := HBR.out.cell 0
    have c4' := HBR.out.cell 1
    have f4 := HBR.out.free 0
    have f4' := HBR.out.free 1
    clear b0 b1 b2 b3 e0 he1 k0 k1 k1' k2 k2'
    go_wp2_with fail
    have H4 := HBR.out.put2 (u := .int .i64 0) (v := .slice none 0 0)
    have c4 := H4.cell 0
    have c4' := H4.cell 1
    refine bodyPost_ret (v := .tuple #[.agg #[.int .i64 0, .slice none 0 0], .int .i64 1]) (by simp [results, Tryz.results15, go_sem, c4, c4']) rfl (SqS.err HQ.out rfl ((HE1.out.setCell (by show w.heap.size ≤ w.heap.size + 1 + 1 + 1; omega) _).setCell (by show w.heap.size ≤ w.heap.size + 1 + 1 + 1; omega) _))
  | true =>
    rw [hg] at HC
    have HSG := Lib.hid (fun W (he : Ex w W) => subgroupCode_any B0 B2 none t0 t2 [] d0 d2 0 W (hR.ex he) (hX.ex he) (.inl rfl) hs hx (by simp) (hT.ex he))
    simp only [List.length_nil] at HSG
    by_cases hz : sgC t0 t2 [] = 0
    · have hsx := subX_code hz
      obtain ⟨M, d, rfl, rfl, hMF, hd3, hlen, -, -⟩ := gmc_facts hg
      have HQ := Lib.hid (rst_yes ((rcC_yes hg).trans hz))
      rw [hz] at HSG
      have HIN := Lib.hid (fun W (he : Ex w W) => inclusionOf_any B0 B2 t0 t2 d0 d2 W (hR.ex he) (hX.ex he) hsx)
      have HCA := Lib.hid (fun W R (he : Ex w W) => incAlong_any (some ⟨R, 0, none⟩) B0 B2 B3 t2.length d0 d2 d3 d t0 t2 t3 W hsx (hX.ex he) (hF.ex he) hd3 hlen)
      have HYL := Lib.hid (pbY_len (fun x => (xN t2 x : Int)) t3 t2.length t0.length d)
      obtain ⟨ys, hys⟩ : ∃ ys, pbY (fun x => (xN t2 x : Int)) t3 t2.length t0.length d = ys := ⟨_, rfl⟩
      rw [hys] at HQ HCA HYL
      rw [← HYL.out] at HCA
      clear hys hz hsx hg hMF hlen hR hU hX hF hs hu hx hf hT
      go_enter Tryz.func15, Tryz.ntmps15
      go_wp2_with fail
      generalize ((((w.alloc (.cells #[.slice B0 t0.length d0] 36)).alloc (.cells #[.int .i64 (M : Int), .slice B1 t1.length d1] 38)).alloc (.cells #[.int .i64 (d : Int), .slice B3 t3.length d3] 33)).alloc (.cells #[.int .i64 0, .slice none 0 0] 33)) = W0 at *
      refine HC.out.mono ?_
      rintro e W1 ⟨rfl, he1⟩
      have HE1 := Lib.hid (e0.trans he1)
      have HB0 := Lib.hid (b0.ex he1)
      have HB2 := Lib.hid (b2.ex he1)
      have HB3 := Lib.hid (b3.ex he1)
      have q0 := HB0.out.cell 0
      clear b0 b1 b2 b3 e0 he1 k0 k1 k1' k2 k2'
      go_wp2_with fail
      refine (HSG.out W1 HE1.out).mono ?_
      rintro e W2 ⟨rfl, he2⟩
      have HE2 := Lib.hid (HE1.out.trans he2).drew
      have HB02 := Lib.hid (HB0.out.ex he2)
      have HB22 := Lib.hid (HB2.out.ex he2)
      have HB32 := Lib.hid (HB3.out.ex he2)
      have hC0 := And.intro (HB02.out.cell 0) (And.intro (HB22.out.cell 0) (HB22.out.cell 1))
      clear he2 q0
      go_wp2_with fail
      refine Late.region (C := fun w' => w'.cell? ⟨w.heap.size, 0, none⟩ = some (.slice B0 t0.length d0) ∧ w'.cell? ⟨w.heap.size + 1 + 1, 0, none⟩ = some (.int .i64 (d : Int)) ∧ w'.cell? ⟨w.heap.size + 1 + 1, 1, none⟩ = some (.slice B3 t3.length d3)) (fun j => decide (j < 6)) (by kernel_rfl) hC0 (fun hC => ?_)
      refine Late.take (i := 0) (oi := _) (v := ?_) rfl (by kernel_rfl) (by kernel_rfl) (by kernel_rfl) (by kernel_rfl) (fun _ _ _ h => h) (Or.inl ⟨by rfl, ?_⟩) hC ?_
      rotate_left
      · (intro w hSw; (try dsimp only at hSw); go_simp; first | done | with_reducible rfl)
      simp only [Act.put]
      refine Late.take (i := 1) (oi := _) (v := ?_) rfl (by kernel_rfl) (by kernel_rfl) (by kernel_rfl) (by kernel_rfl) (fun _ _ _ h => h) (Or.inl ⟨by rfl, ?_⟩) hC ?_
      rotate_left
      · (intro w hSw; (try dsimp only at hSw); go_simp; first | done | with_reducible rfl)
      simp only [Act.put]
      refine Late.take (i := 4) (oi := _) (v := ?_) rfl (by kernel_rfl) (by kernel_rfl) (by kernel_rfl) (by kernel_rfl) (fun _ _ _ h => h) (Or.inl ⟨by rfl, ?_⟩) hC ?_
      rotate_left
      · (intro w hSw; (try dsimp only at hSw); go_simp; first | done | with_reducible rfl)
      simp only [Act.put]
      clear hC hC0
      refine Late.one (i := 2) (o := _) (by kernel_rfl) rfl (fun K' hK' => ?_)
      go_simp
      refine (HIN.out W2.drew HE2.out).mono ?_
      rintro e W3 ⟨G, R, rfl, he3, -, -, -, -⟩
      have HE3 := Lib.hid (HE2.out.trans he3)
      have he3' : Ex W2 W3 := (Ex.refl W2).drew.trans he3
      have HB33 := Lib.hid (HB32.out.ex he3')
      have HB03 := Lib.hid (HB02.out.ex he3')
      have HB23 := Lib.hid (HB22.out.ex he3')
      have hC3 := And.intro (HB03.out.cell 0) (And.intro (HB23.out.cell 0) (HB23.out.cell 1))
      refine hK'.out _ _ (fun _ => hC3) (fun _ => ?_)
      clear hK' K' he3 he3'
      try simp only [Act.put]
      refine Late.one (i := 3) (o := _) (by kernel_rfl) rfl (fun K' hK' => ?_)
      go_simp
      refine hK'.out _ _ (fun _ => hC3) (fun _ => ?_)
      clear hK' K' hC3
      try simp only [Act.put]
      refine Late.one (i := 5) (o := _) (by kernel_rfl) rfl (fun K' hK' => ?_)
      go_simp
      refine (HCA.out W3 R HE3.out).mono ?_
      rintro e W4 ⟨CC, n, rfl, he4, hO⟩
      have HE4 := Lib.hid (HE3.out.trans he4)
      have HBR := Lib.hid (HB33.out.ex he4)
      have c4 := HBR.out.cell 0
      have c4' := HBR.out.cell 1
      have f4 := HBR.out.free 0
      have f4' := HBR.out.free 1
      have hlt := HB33.out.lt
      have hlw := HE3.out.size
      have HO := Lib.hid hO
      have hC4 := And.intro ((HB03.out.ex he4).cell 0) (And.intro ((HB23.out.ex he4).cell 0) ((HB23.out.ex he4).cell 1))
      refine hK'.out _ _ (fun _ => hC4) (fun _ => ?_)
      clear hK' K' hC4 he4 hO
      try simp only [Act.put]
      refine Late.one (i := 6) (o := _) (by kernel_rfl) rfl (fun K' hK' => ?_)
      go_simp
      refine hK'.out _ _ (fun h => by cases h) (fun _ => ?_)
      clear hK' K'
      try simp only [Act.put]
      refine Late.one (i := 7) (o := _) (by kernel_rfl) rfl (fun K' hK' => ?_)
      go_simp
      refine hK'.out _ _ (fun h => by cases h) (fun _ => ?_)
      clear hK' K'
      try simp only [Act.put]
      refine Late.done (by kernel_rfl) ?_ _
      go_wp2_with fail
      have H4 := HBR.out.put2 (u := .int .i64 (d : Int)) (v := .slice CC ys.length n)
      have c4 := H4.cell 0
      have c4' := H4.cell 1
      refine bodyPost_ret (v := .tuple #[.agg #[.int .i64 (d : Int), .slice CC ys.length n], .int .i64 0]) (by simp [results, Tryz.results15, go_sem, c4, c4']) rfl (SqS.of HQ.out rfl ((HE4.out.setCell (by show w.heap.size ≤ w.heap.size + 1 + 1 + 1; omega) _).setCell (by show w.heap.size ≤ w.heap.size + 1 + 1 + 1; omega) _) (((HO.out.above (Only.set _ _ _ _) hlt).above (Only.set _ _ _ _) hlt).mono hlw (by simp) (Nat.le_refl _)))
    · obtain ⟨z, hzz⟩ : ∃ z, sgC t0 t2 [] = z := ⟨_, rfl⟩
      have HQ := Lib.hid (rst_no ((rcC_yes hg).trans hzz) (hzz ▸ hz))
      rw [hzz] at HSG hz
      have hzb : (z != 0) = true := by simpa using hz
      clear hz hzz hg hR hU hX hF hs hu hx hf hT
      go_enter Tryz.func15, Tryz.ntmps15
      go_wp2_with fail
      generalize ((((w.alloc (.cells #[.slice B0 t0.length d0] 36)).alloc (.cells #[.int .i64 m1, .slice B1 t1.length d1] 38)).alloc (.cells #[.int .i64 m3, .slice B3 t3.length d3] 33)).alloc (.cells #[.int .i64 0, .slice none 0 0] 33)) = W0 at *
      refine HC.out.mono ?_
      rintro e W1 ⟨rfl, he1⟩
      have HE1 := Lib.hid (e0.trans he1)
      have HB3 := Lib.hid (b3.ex he1)
      have q0 := (b0.ex he1).cell 0
      clear b0 b1 b2 b3 e0 he1 k0 k1 k1' k2 k2'
      go_wp2_with fail
      refine (HSG.out W1 HE1.out).mono ?_
      rintro e W2 ⟨rfl, he2⟩
      have HE2 := Lib.hid (HE1.out.trans he2)
      have HBR := Lib.hid (HB3.out.ex he2)
      have c4 := HBR.out.cell 0
      have c4' := HBR.out.cell 1
      have f4 := HBR.out.free 0
      have f4' := HBR.out.free 1
      clear he2 q0
      go_wp2_with fail
      have H4 := HBR.out.put2 (u := .int .i64 0) (v := .slice none 0 0)
      have c4 := H4.cell 0
      have c4' := H4.cell 1
      refine bodyPost_ret (v := .tuple #[.agg #[.int .i64 0, .slice none 0 0], .int .i64 z]) (by simp [results, Tryz.results15, go_sem, c4, c4']) rfl (SqS.err HQ.out rfl ((HE2.out.setCell (by show w.heap.size ≤ w.heap.size + 1 + 1 + 1; omega) _).setCell (by show w.heap.size ≤ w.heap.size + 1 + 1 + 1; omega) _))

end Go.Proofs.YtfnjpbjlikajbaaGreatDoor
