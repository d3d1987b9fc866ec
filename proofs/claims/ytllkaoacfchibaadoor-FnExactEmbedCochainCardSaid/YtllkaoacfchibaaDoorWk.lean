/- Chapter 8: EmbedCochain, ReduceCochain and LiftCochain, the program's contracts. -/
import Derived.Test.YtllkaoacfchibaaDoorWj
namespace Go.Proofs.YtllkaoacfchibaaDoor
open Go.RowKit

/-- What is asked of the end of ledAlong. -/
def LedS (t : List (List Int)) (m : Int) (us : List Int) (k m' n : Int) (fs : List Int) (dd : Int → Int) (ys : Nat → Nat → Nat → Int → List Int → List Int) (W : World) (e : Ending) (W' : World) : Prop :=
  (∃ M K Q C0 n0, gvC t m us k m' n fs = 0 ∧ m = ((M : Nat) : Int) ∧ k = ((K : Nat) : Int) ∧ SeqF M K Q ∧ e = .returned (.tuple #[.agg #[.int .i64 (dd n), .slice C0 (ys M K Q n fs).length n0], .int .i64 0]) ∧ Ex W W' ∧ OwnL W' W.heap.size W'.heap.size C0 (ys M K Q n fs))
  ∨ (gvC t m us k m' n fs ≠ 0 ∧ e = .returned (.tuple #[.agg #[.int .i64 0, .slice none 0 0], .int .i64 (gvC t m us k m' n fs)]) ∧ Ex W W')

set_option maxRecDepth 100000 in
set_option maxHeartbeats 8000000 in
theorem ledAlong_any (mf : Nat) (X : Nat → Nat → Nat → Nat) (xl : Nat → Nat → Nat → List Int) (Cn : Nat → Nat → Nat → Int → List Int → Prop) (dd : Int → Int) (ys : Nat → Nat → Nat → Int → List Int → List Int) (A U Fa : Option Addr) (t : List (List Int)) (m : Int) (us : List Int) (k m' n : Int) (fs : List Int) (c c1 c2 : Nat) (w : World)
    (hR : RwsW w A t) (hU : IntsW w U us) (hF : IntsW w Fa fs) (hs : SmallT t) (hu : us.length ≤ 1048576) (hf : fs.length ≤ 1048576) (hE : ErrD w)
    (hMC : ∀ W, us.length = t.length → MapC mf t.length us X xl Cn dd ys W) (hX : ∀ M K Q : Nat, m = (M : Int) → k = (K : Int) → SeqF M K Q → M ≤ 12 → m' = (X M K Q : Int) ∧ X M K Q ≤ 12)
    (hCn : ∀ M K Q : Nat, gvC t m us k m' n fs = 0 → m = (M : Int) → k = (K : Int) → ModF t M us → SeqF M K Q → Cn M K Q n fs) :
    Calls Tryd.prog 66 #[.agg #[.slice A t.length c], .agg #[.int .i64 m, .slice U us.length c1], .int .i64 k, .agg #[.int .i64 n, .slice Fa fs.length c2], .func (.func mf) #[] #[]] w (LedS t m us k m' n fs dd ys w) := by
  have e0 : Ex w ((((w.alloc (.cells #[.slice A t.length c] 33)).alloc (.cells #[.int .i64 m, .slice U us.length c1] 30)).alloc (.cells #[.int .i64 n, .slice Fa fs.length c2] 44)).alloc (.cells #[.int .i64 0, .slice none 0 0] 44)) := ((((Ex.refl w).alloc _).alloc _).alloc _).alloc _
  have b0 : Has ((((w.alloc (.cells #[.slice A t.length c] 33)).alloc (.cells #[.int .i64 m, .slice U us.length c1] 30)).alloc (.cells #[.int .i64 n, .slice Fa fs.length c2] 44)).alloc (.cells #[.int .i64 0, .slice none 0 0] 44)) (w.heap.size) 33 #[.slice A t.length c] := ((((Has.newAt (w := w) (e := 33) (cs := #[.slice A t.length c]) (k := w.heap.size) (by simp)).alloc _).alloc _).alloc _)
  have b1 : Has ((((w.alloc (.cells #[.slice A t.length c] 33)).alloc (.cells #[.int .i64 m, .slice U us.length c1] 30)).alloc (.cells #[.int .i64 n, .slice Fa fs.length c2] 44)).alloc (.cells #[.int .i64 0, .slice none 0 0] 44)) (w.heap.size + 1) 30 #[.int .i64 m, .slice U us.length c1] := (((Has.newAt (w := (w.alloc (.cells #[.slice A t.length c] 33))) (e := 30) (cs := #[.int .i64 m, .slice U us.length c1]) (k := w.heap.size + 1) (by simp)).alloc _).alloc _)
  have b2 : Has ((((w.alloc (.cells #[.slice A t.length c] 33)).alloc (.cells #[.int .i64 m, .slice U us.length c1] 30)).alloc (.cells #[.int .i64 n, .slice Fa fs.length c2] 44)).alloc (.cells #[.int .i64 0, .slice none 0 0] 44)) (w.heap.size + 1 + 1) 44 #[.int .i64 n, .slice Fa fs.length c2] := ((Has.newAt (w := ((w.alloc (.cells #[.slice A t.length c] 33)).alloc (.cells #[.int .i64 m, .slice U us.length c1] 30))) (e := 44) (cs := #[.int .i64 n, .slice Fa fs.length c2]) (k := w.heap.size + 1 + 1) (by simp)).alloc _)
  have b3 : Has ((((w.alloc (.cells #[.slice A t.length c] 33)).alloc (.cells #[.int .i64 m, .slice U us.length c1] 30)).alloc (.cells #[.int .i64 n, .slice Fa fs.length c2] 44)).alloc (.cells #[.int .i64 0, .slice none 0 0] 44)) (w.heap.size + 1 + 1 + 1) 44 #[.int .i64 0, .slice none 0 0] := (Has.newAt (w := (((w.alloc (.cells #[.slice A t.length c] 33)).alloc (.cells #[.int .i64 m, .slice U us.length c1] 30)).alloc (.cells #[.int .i64 n, .slice Fa fs.length c2] 44))) (e := 44) (cs := #[.int .i64 0, .slice none 0 0]) (k := w.heap.size + 1 + 1 + 1) (by simp))
  have HC := Lib.hid (mapFor_any mf X xl Cn dd ys A U Fa t m us k m' n fs c c1 c2 _ (hR.ex e0) (hU.ex e0) (hF.ex e0) hs hu hf (hE.ex e0) (hMC _) hX)
  have HFF := Lib.hid (fun W (he : Ex w W) => hF.ex he)
  have HCN := Lib.hid hCn
  have HE0 := Lib.hid e0
  have HB2 := Lib.hid b2
  have HB3 := Lib.hid b3
  have k0 := b0.cell 0
  have k1 := b1.cell 0
  have k1' := b1.cell 1
  have k2 := b2.cell 0
  have k2' := b2.cell 1
  have hlw := e0.size
  have hlb := b3.lt
  clear hR hU hF hs hu hf hE hMC hX hCn b0 b1 b2 b3 e0
  go_enter Tryd.func66, Tryd.ntmps66
  go_wp2_with fail
  generalize ((((w.alloc (.cells #[.slice A t.length c] 33)).alloc (.cells #[.int .i64 m, .slice U us.length c1] 30)).alloc (.cells #[.int .i64 n, .slice Fa fs.length c2] 44)).alloc (.cells #[.int .i64 0, .slice none 0 0] 44)) = W0 at *
  refine HC.out.mono ?_
  rintro e W2 h
  clear HC
  rcases h with ⟨M, K, Q, AX, nX, Y, AY, lY, nY, more, kf, cap, hgv, rfl, rfl, hMF, hS, rfl, he2, -, lo, hLD⟩ | ⟨hz, rfl, he2⟩
  · obtain ⟨x, hx⟩ : ∃ x, X M K Q = x := ⟨_, rfl⟩
    obtain ⟨ls, hls⟩ : ∃ ls, xl M K Q = ls := ⟨_, rfl⟩
    rw [hx, hls]
    have hcn := HCN.out M K Q hgv rfl rfl hMF hS
    have HZ := Lib.hid (And.intro hgv hS)
    have hsf := fun (a : Addr) (w : World) => run_store Tryd.prog w a (.func (.func kf) #[] cap) .plain rfl
    have hEn := Ex.new W2 (.cells #[.int .i64 (x : Int), .slice AX ls.length nX, .int .i64 Y, .slice AY lY nY, .int .i64 more, .func (.func kf) #[] cap] 135)
    have b9 := Has.new W2 135 #[.int .i64 (x : Int), .slice AX ls.length nX, .int .i64 Y, .slice AY lY nY, .int .i64 more, .func (.func kf) #[] cap]
    have p5 := b9.cell 5
    have q2 := ((HB2.out.ex he2).ex hEn).cell 0
    have q2' := ((HB2.out.ex he2).ex hEn).cell 1
    have HB31 := Lib.hid ((HB3.out.ex he2).ex hEn)
    have HE9 := Lib.hid ((HE0.out.trans he2).trans hEn)
    have HL := Lib.hid ((hLD.goes (Goes.of_ex hEn)).2 _ (Goes.of_ex (Ex.refl _)) Fa n fs c2 (HFF.out _ ((HE0.out.trans he2).trans hEn)) hcn)
    have hegk := hLD.1
    have hs2 := he2.size
    have hs9 := hEn.size
    clear hx hls hcn hgv hMF hS he2 hLD hEn b9 k0 k1 k1' k2 k2'
    go_upto_region 2 with fail
    generalize W2.alloc (.cells #[.int .i64 (x : Int), .slice AX ls.length nX, .int .i64 Y, .slice AY lY nY, .int .i64 more, .func (.func kf) #[] cap] 135) = W9 at *
    go_wp2_with fail
    refine HL.out.mono ?_
    rintro e W10 ⟨C0, n0, rfl, he10, hO⟩
    obtain ⟨yy, hyy⟩ : ∃ yy, ys M K Q n fs = yy := ⟨_, rfl⟩
    have HYY := Lib.hid hyy
    rw [hyy] at hO ⊢
    have HBR := Lib.hid (HB31.out.ex he10)
    have HE10 := Lib.hid (HE9.out.trans he10)
    have HO := Lib.hid hO
    have hlt : w.heap.size + 1 + 1 + 1 < W9.heap.size := by omega
    have c4 := HBR.out.cell 0
    have c4' := HBR.out.cell 1
    have f4 := HBR.out.free 0
    have f4' := HBR.out.free 1
    clear he10 hO hyy hegk p5 q2 q2' HL
    go_wp2_with fail
    have H4 := HBR.out.put2 (u := .int .i64 (dd n)) (v := .slice C0 yy.length n0)
    have c4 := H4.cell 0
    have c4' := H4.cell 1
    refine bodyPost_ret (v := .tuple #[.agg #[.int .i64 (dd n), .slice C0 yy.length n0], .int .i64 0]) (by simp [results, Tryd.results66, go_sem, c4, c4']) rfl (.inl ⟨M, K, Q, C0, n0, HZ.out.1, rfl, rfl, HZ.out.2, by rw [HYY.out], (HE10.out.setCell (by show w.heap.size ≤ w.heap.size + 1 + 1 + 1; omega) _).setCell (by show w.heap.size ≤ w.heap.size + 1 + 1 + 1; omega) _, by rw [HYY.out]; exact ((HO.out.above (Only.set _ _ _ _) hlt).above (Only.set _ _ _ _) hlt).mono HE9.out.size (by simp) (Nat.le_refl _)⟩)
  · obtain ⟨z, hzz⟩ : ∃ z, gvC t m us k m' n fs = z := ⟨_, rfl⟩
    have HGV := Lib.hid (And.intro hzz (show z ≠ 0 from hzz ▸ hz))
    rw [hzz] at hz ⊢
    have hzb : (z != 0) = true := by simpa using hz
    have hsn := fun (a : Addr) (w : World) => run_store Tryd.prog w a .nilFunc .plain rfl
    have HE9 := Lib.hid ((HE0.out.trans he2).alloc (.cells #[.int .i64 0, .slice none 0 0, .int .i64 0, .slice none 0 0, .int .i64 0, .nilFunc] 135))
    have HB31 := Lib.hid ((HB3.out.ex he2).alloc (.cells #[.int .i64 0, .slice none 0 0, .int .i64 0, .slice none 0 0, .int .i64 0, .nilFunc] 135))
    have c4 := HB31.out.cell 0
    have c4' := HB31.out.cell 1
    have f4 := HB31.out.free 0
    have f4' := HB31.out.free 1
    clear hz hzz he2 k0 k1 k1' k2 k2'
    go_upto_region 2 with fail
    generalize W2.alloc (.cells #[.int .i64 0, .slice none 0 0, .int .i64 0, .slice none 0 0, .int .i64 0, .nilFunc] 135) = W9 at *
    go_wp2_with fail
    go_wp2_with fail
    have H4 := HB31.out.put2 (u := .int .i64 0) (v := .slice none 0 0)
    have c4 := H4.cell 0
    have c4' := H4.cell 1
    refine bodyPost_ret (v := .tuple #[.agg #[.int .i64 0, .slice none 0 0], .int .i64 z]) (by simp [results, Tryd.results66, go_sem, c4, c4']) rfl (.inr ⟨by rw [HGV.out.1]; exact HGV.out.2, by rw [HGV.out.1], (HE9.out.setCell (by show w.heap.size ≤ w.heap.size + 1 + 1 + 1; omega) _).setCell (by show w.heap.size ≤ w.heap.size + 1 + 1 + 1; omega) _⟩)

/-- Short lists, out of the code. -/
theorem short_of {t : List (List Int)} {m k m' n : Int} {us fs : List Int} {X : Nat} (h : gvC t m us k m' n fs = 0) (hm : m' = (X : Int)) (hX : X ≤ 12) : ShortL n fs := by
  obtain ⟨hs, hc⟩ := gvC_f h
  obtain ⟨M, K, Q, rfl, rfl, hF, -⟩ := sqC_f hs
  subst hm
  obtain ⟨d, -, -, -, h3, h4⟩ := coc_f hF.g.n8 hc
  exact ⟨h3, fun i hi => ⟨(h4 i hi).1, by have := (h4 i hi).2; omega⟩⟩
theorem ouN_eq {M K Q : Nat} (h : SeqF M K Q) : ouN (M : Int) (K : Int) = (Q : Int) := by rw [ouN, Int.toNat_natCast, Int.toNat_natCast, h.div]

set_option maxRecDepth 100000 in
set_option maxHeartbeats 4000000 in
theorem implEmbedCochain_ex (t0 : List (List Int)) (m1 : Int) (t1 : List Int) (m2 m3 : Int) (t3 : List Int) : ∀ (B0 : Option Addr) (d0 : Nat) (B1 : Option Addr) (d1 : Nat) (B3 : Option Addr) (d3 : Nat) (W : World), RwsW W B0 t0 → IntsW W B1 t1 → IntsW W B3 t3 → SmallT t0 → t1.length ≤ 1048576 → t3.length ≤ 1048576 → ErrD W →
    Calls Tryd.prog 30 #[.agg #[.slice B0 t0.length d0], .agg #[.int .i64 m1, .slice B1 t1.length d1], .int .i64 m2, .agg #[.int .i64 m3, .slice B3 t3.length d3]] W (SqS (qEmbedCochain0 t0 m1 t1 m2 m3 t3) (yEmbedCochain0 t0 m1 t1 m2 m3 t3) (qEmbedCochain1 t0 m1 t1 m2 m3 t3) W) := by
  intro B0 d0 B1 d1 B3 d3 w hR hX hF hs hx hf hE
  have e0 : Ex w ((((w.alloc (.cells #[.slice B0 t0.length d0] 33)).alloc (.cells #[.int .i64 m1, .slice B1 t1.length d1] 30)).alloc (.cells #[.int .i64 m3, .slice B3 t3.length d3] 44)).alloc (.cells #[.int .i64 0, .slice none 0 0] 44)) := ((((Ex.refl w).alloc _).alloc _).alloc _).alloc _
  have b0 : Has ((((w.alloc (.cells #[.slice B0 t0.length d0] 33)).alloc (.cells #[.int .i64 m1, .slice B1 t1.length d1] 30)).alloc (.cells #[.int .i64 m3, .slice B3 t3.length d3] 44)).alloc (.cells #[.int .i64 0, .slice none 0 0] 44)) (w.heap.size) 33 #[.slice B0 t0.length d0] := ((((Has.newAt (w := w) (e := 33) (cs := #[.slice B0 t0.length d0]) (k := w.heap.size) (by simp)).alloc _).alloc _).alloc _)
  have b1 : Has ((((w.alloc (.cells #[.slice B0 t0.length d0] 33)).alloc (.cells #[.int .i64 m1, .slice B1 t1.length d1] 30)).alloc (.cells #[.int .i64 m3, .slice B3 t3.length d3] 44)).alloc (.cells #[.int .i64 0, .slice none 0 0] 44)) (w.heap.size + 1) 30 #[.int .i64 m1, .slice B1 t1.length d1] := (((Has.newAt (w := (w.alloc (.cells #[.slice B0 t0.length d0] 33))) (e := 30) (cs := #[.int .i64 m1, .slice B1 t1.length d1]) (k := w.heap.size + 1) (by simp)).alloc _).alloc _)
  have b2 : Has ((((w.alloc (.cells #[.slice B0 t0.length d0] 33)).alloc (.cells #[.int .i64 m1, .slice B1 t1.length d1] 30)).alloc (.cells #[.int .i64 m3, .slice B3 t3.length d3] 44)).alloc (.cells #[.int .i64 0, .slice none 0 0] 44)) (w.heap.size + 1 + 1) 44 #[.int .i64 m3, .slice B3 t3.length d3] := ((Has.newAt (w := ((w.alloc (.cells #[.slice B0 t0.length d0] 33)).alloc (.cells #[.int .i64 m1, .slice B1 t1.length d1] 30))) (e := 44) (cs := #[.int .i64 m3, .slice B3 t3.length d3]) (k := w.heap.size + 1 + 1) (by simp)).alloc _)
  have b3 : Has ((((w.alloc (.cells #[.slice B0 t0.length d0] 33)).alloc (.cells #[.int .i64 m1, .slice B1 t1.length d1] 30)).alloc (.cells #[.int .i64 m3, .slice B3 t3.length d3] 44)).alloc (.cells #[.int .i64 0, .slice none 0 0] 44)) (w.heap.size + 1 + 1 + 1) 44 #[.int .i64 0, .slice none 0 0] := (Has.newAt (w := (((w.alloc (.cells #[.slice B0 t0.length d0] 33)).alloc (.cells #[.int .i64 m1, .slice B1 t1.length d1] 30)).alloc (.cells #[.int .i64 m3, .slice B3 t3.length d3] 44))) (e := 44) (cs := #[.int .i64 0, .slice none 0 0]) (k := w.heap.size + 1 + 1 + 1) (by simp))
  have hXe : ∀ M K Q : Nat, m1 = (M : Int) → m2 = (K : Int) → SeqF M K Q → M ≤ 12 → m2 = ((fun _ K _ => K) M K Q : Int) ∧ (fun _ K _ => K) M K Q ≤ 12 := fun M K Q h1 h2 hS hM => by
    have hQM : Q ≤ M := by have := hS.div; rw [← this]; exact Nat.div_le_self _ _
    have := hS.lt
    subst h1 h2
    exact ⟨rfl, by show K ≤ 12; omega⟩
  have HC := Lib.hid (ledAlong_any 67 (fun _ K _ => K) _ _ _ _ B0 B1 B3 t0 m1 t1 m2 (m2) m3 t3 d0 d1 d3 _ (hR.ex e0) (hX.ex e0) (hF.ex e0) hs hx hf (hE.ex e0) (fun W hl => embedding_map t0.length t1 hl W) hXe (fun M K Q hg h1 h2 hF hS => short_of hg (hXe M K Q h1 h2 hS hF.m12).1 (hXe M K Q h1 h2 hS hF.m12).2))
  have HE0 := Lib.hid e0
  have HB3 := Lib.hid b3
  have k0 := b0.cell 0
  have k1 := b1.cell 0
  have k1' := b1.cell 1
  have k2 := b2.cell 0
  have k2' := b2.cell 1
  have hlw := e0.size
  have hlb := b3.lt
  clear hR hX hF hs hx hf hE hXe b0 b1 b2 b3 e0
  go_enter Tryd.func30, Tryd.ntmps30
  go_wp2_with fail
  generalize ((((w.alloc (.cells #[.slice B0 t0.length d0] 33)).alloc (.cells #[.int .i64 m1, .slice B1 t1.length d1] 30)).alloc (.cells #[.int .i64 m3, .slice B3 t3.length d3] 44)).alloc (.cells #[.int .i64 0, .slice none 0 0] 44)) = W0 at *
  refine HC.out.mono ?_
  rintro e W2 h
  clear HC
  rcases h with ⟨M, K, Q, C0, n0, hgv, rfl, rfl, hS, rfl, he2, hO⟩ | ⟨hz, rfl, he2⟩
  · have HQ := Lib.hid (emb_yes hgv hS.div)
    have HBR := Lib.hid (HB3.out.ex he2)
    have HE2 := Lib.hid (HE0.out.trans he2)
    have HO := Lib.hid hO
    have c4 := HBR.out.cell 0
    have c4' := HBR.out.cell 1
    have f4 := HBR.out.free 0
    have f4' := HBR.out.free 1
    clear hgv hS he2 hO k0 k1 k1' k2 k2'
    go_wp2_with fail
    have H4 := HBR.out.put2 (u := .int .i64 m3) (v := .slice C0 (tmL t3 Q).length n0)
    have c4 := H4.cell 0
    have c4' := H4.cell 1
    refine bodyPost_ret (v := .tuple #[.agg #[.int .i64 m3, .slice C0 (tmL t3 Q).length n0], .int .i64 0]) (by simp [results, Tryd.results30, go_sem, c4, c4']) rfl (SqS.of HQ.out rfl ((HE2.out.setCell (by show w.heap.size ≤ w.heap.size + 1 + 1 + 1; omega) _).setCell (by show w.heap.size ≤ w.heap.size + 1 + 1 + 1; omega) _) (((HO.out.above (Only.set _ _ _ _) hlb).above (Only.set _ _ _ _) hlb).mono hlw (by simp) (Nat.le_refl _)))
  · obtain ⟨z, hzz⟩ : ∃ z, gvC t0 m1 t1 m2 (m2) m3 t3 = z := ⟨_, rfl⟩
    have HQ := Lib.hid (emb_no hzz (hzz ▸ hz))
    rw [hzz] at hz ⊢
    have HBR := Lib.hid (HB3.out.ex he2)
    have HE2 := Lib.hid (HE0.out.trans he2)
    have c4 := HBR.out.cell 0
    have c4' := HBR.out.cell 1
    have f4 := HBR.out.free 0
    have f4' := HBR.out.free 1
    clear hz hzz he2 k0 k1 k1' k2 k2'
    go_wp2_with fail
    have H4 := HBR.out.put2 (u := .int .i64 0) (v := .slice none 0 0)
    have c4 := H4.cell 0
    have c4' := H4.cell 1
    refine bodyPost_ret (v := .tuple #[.agg #[.int .i64 0, .slice none 0 0], .int .i64 z]) (by simp [results, Tryd.results30, go_sem, c4, c4']) rfl (SqS.err HQ.out rfl ((HE2.out.setCell (by show w.heap.size ≤ w.heap.size + 1 + 1 + 1; omega) _).setCell (by show w.heap.size ≤ w.heap.size + 1 + 1 + 1; omega) _))

set_option maxRecDepth 100000 in
set_option maxHeartbeats 4000000 in
theorem implReduceCochain_ex (t0 : List (List Int)) (m1 : Int) (t1 : List Int) (m2 m3 : Int) (t3 : List Int) : ∀ (B0 : Option Addr) (d0 : Nat) (B1 : Option Addr) (d1 : Nat) (B3 : Option Addr) (d3 : Nat) (W : World), RwsW W B0 t0 → IntsW W B1 t1 → IntsW W B3 t3 → SmallT t0 → t1.length ≤ 1048576 → t3.length ≤ 1048576 → ErrD W →
    Calls Tryd.prog 35 #[.agg #[.slice B0 t0.length d0], .agg #[.int .i64 m1, .slice B1 t1.length d1], .int .i64 m2, .agg #[.int .i64 m3, .slice B3 t3.length d3]] W (SqS (qReduceCochain0 t0 m1 t1 m2 m3 t3) (yReduceCochain0 t0 m1 t1 m2 m3 t3) (qReduceCochain1 t0 m1 t1 m2 m3 t3) W) := by
  intro B0 d0 B1 d1 B3 d3 w hR hX hF hs hx hf hE
  have e0 : Ex w ((((w.alloc (.cells #[.slice B0 t0.length d0] 33)).alloc (.cells #[.int .i64 m1, .slice B1 t1.length d1] 30)).alloc (.cells #[.int .i64 m3, .slice B3 t3.length d3] 44)).alloc (.cells #[.int .i64 0, .slice none 0 0] 44)) := ((((Ex.refl w).alloc _).alloc _).alloc _).alloc _
  have b0 : Has ((((w.alloc (.cells #[.slice B0 t0.length d0] 33)).alloc (.cells #[.int .i64 m1, .slice B1 t1.length d1] 30)).alloc (.cells #[.int .i64 m3, .slice B3 t3.length d3] 44)).alloc (.cells #[.int .i64 0, .slice none 0 0] 44)) (w.heap.size) 33 #[.slice B0 t0.length d0] := ((((Has.newAt (w := w) (e := 33) (cs := #[.slice B0 t0.length d0]) (k := w.heap.size) (by simp)).alloc _).alloc _).alloc _)
  have b1 : Has ((((w.alloc (.cells #[.slice B0 t0.length d0] 33)).alloc (.cells #[.int .i64 m1, .slice B1 t1.length d1] 30)).alloc (.cells #[.int .i64 m3, .slice B3 t3.length d3] 44)).alloc (.cells #[.int .i64 0, .slice none 0 0] 44)) (w.heap.size + 1) 30 #[.int .i64 m1, .slice B1 t1.length d1] := (((Has.newAt (w := (w.alloc (.cells #[.slice B0 t0.length d0] 33))) (e := 30) (cs := #[.int .i64 m1, .slice B1 t1.length d1]) (k := w.heap.size + 1) (by simp)).alloc _).alloc _)
  have b2 : Has ((((w.alloc (.cells #[.slice B0 t0.length d0] 33)).alloc (.cells #[.int .i64 m1, .slice B1 t1.length d1] 30)).alloc (.cells #[.int .i64 m3, .slice B3 t3.length d3] 44)).alloc (.cells #[.int .i64 0, .slice none 0 0] 44)) (w.heap.size + 1 + 1) 44 #[.int .i64 m3, .slice B3 t3.length d3] := ((Has.newAt (w := ((w.alloc (.cells #[.slice B0 t0.length d0] 33)).alloc (.cells #[.int .i64 m1, .slice B1 t1.length d1] 30))) (e := 44) (cs := #[.int .i64 m3, .slice B3 t3.length d3]) (k := w.heap.size + 1 + 1) (by simp)).alloc _)
  have b3 : Has ((((w.alloc (.cells #[.slice B0 t0.length d0] 33)).alloc (.cells #[.int .i64 m1, .slice B1 t1.length d1] 30)).alloc (.cells #[.int .i64 m3, .slice B3 t3.length d3] 44)).alloc (.cells #[.int .i64 0, .slice none 0 0] 44)) (w.heap.size + 1 + 1 + 1) 44 #[.int .i64 0, .slice none 0 0] := (Has.newAt (w := (((w.alloc (.cells #[.slice B0 t0.length d0] 33)).alloc (.cells #[.int .i64 m1, .slice B1 t1.length d1] 30)).alloc (.cells #[.int .i64 m3, .slice B3 t3.length d3] 44))) (e := 44) (cs := #[.int .i64 0, .slice none 0 0]) (k := w.heap.size + 1 + 1 + 1) (by simp))
  have hXe : ∀ M K Q : Nat, m1 = (M : Int) → m2 = (K : Int) → SeqF M K Q → M ≤ 12 → m1 = ((fun M _ _ => M) M K Q : Int) ∧ (fun M _ _ => M) M K Q ≤ 12 := fun M K Q h1 h2 hS hM => by
    have hQM : Q ≤ M := by have := hS.div; rw [← this]; exact Nat.div_le_self _ _
    have := hS.lt
    subst h1 h2
    exact ⟨rfl, by show M ≤ 12; omega⟩
  have HC := Lib.hid (ledAlong_any 70 (fun M _ _ => M) _ _ _ _ B0 B1 B3 t0 m1 t1 m2 (m1) m3 t3 d0 d1 d3 _ (hR.ex e0) (hX.ex e0) (hF.ex e0) hs hx hf (hE.ex e0) (fun W hl => reduction_map t0.length t1 hl W) hXe (fun M K Q hg h1 h2 hF hS => short_of hg (hXe M K Q h1 h2 hS hF.m12).1 (hXe M K Q h1 h2 hS hF.m12).2))
  have HE0 := Lib.hid e0
  have HB3 := Lib.hid b3
  have k0 := b0.cell 0
  have k1 := b1.cell 0
  have k1' := b1.cell 1
  have k2 := b2.cell 0
  have k2' := b2.cell 1
  have hlw := e0.size
  have hlb := b3.lt
  clear hR hX hF hs hx hf hE hXe b0 b1 b2 b3 e0
  go_enter Tryd.func35, Tryd.ntmps35
  go_wp2_with fail
  generalize ((((w.alloc (.cells #[.slice B0 t0.length d0] 33)).alloc (.cells #[.int .i64 m1, .slice B1 t1.length d1] 30)).alloc (.cells #[.int .i64 m3, .slice B3 t3.length d3] 44)).alloc (.cells #[.int .i64 0, .slice none 0 0] 44)) = W0 at *
  refine HC.out.mono ?_
  rintro e W2 h
  clear HC
  rcases h with ⟨M, K, Q, C0, n0, hgv, rfl, rfl, hS, rfl, he2, hO⟩ | ⟨hz, rfl, he2⟩
  · have HQ := Lib.hid (rec_yes hgv hS.div)
    have HBR := Lib.hid (HB3.out.ex he2)
    have HE2 := Lib.hid (HE0.out.trans he2)
    have HO := Lib.hid hO
    have c4 := HBR.out.cell 0
    have c4' := HBR.out.cell 1
    have f4 := HBR.out.free 0
    have f4' := HBR.out.free 1
    clear hgv hS he2 hO k0 k1 k1' k2 k2'
    go_wp2_with fail
    have H4 := HBR.out.put2 (u := .int .i64 m3) (v := .slice C0 (rsL t3 Q).length n0)
    have c4 := H4.cell 0
    have c4' := H4.cell 1
    refine bodyPost_ret (v := .tuple #[.agg #[.int .i64 m3, .slice C0 (rsL t3 Q).length n0], .int .i64 0]) (by simp [results, Tryd.results35, go_sem, c4, c4']) rfl (SqS.of HQ.out rfl ((HE2.out.setCell (by show w.heap.size ≤ w.heap.size + 1 + 1 + 1; omega) _).setCell (by show w.heap.size ≤ w.heap.size + 1 + 1 + 1; omega) _) (((HO.out.above (Only.set _ _ _ _) hlb).above (Only.set _ _ _ _) hlb).mono hlw (by simp) (Nat.le_refl _)))
  · obtain ⟨z, hzz⟩ : ∃ z, gvC t0 m1 t1 m2 (m1) m3 t3 = z := ⟨_, rfl⟩
    have HQ := Lib.hid (rec_no hzz (hzz ▸ hz))
    rw [hzz] at hz ⊢
    have HBR := Lib.hid (HB3.out.ex he2)
    have HE2 := Lib.hid (HE0.out.trans he2)
    have c4 := HBR.out.cell 0
    have c4' := HBR.out.cell 1
    have f4 := HBR.out.free 0
    have f4' := HBR.out.free 1
    clear hz hzz he2 k0 k1 k1' k2 k2'
    go_wp2_with fail
    have H4 := HBR.out.put2 (u := .int .i64 0) (v := .slice none 0 0)
    have c4 := H4.cell 0
    have c4' := H4.cell 1
    refine bodyPost_ret (v := .tuple #[.agg #[.int .i64 0, .slice none 0 0], .int .i64 z]) (by simp [results, Tryd.results35, go_sem, c4, c4']) rfl (SqS.err HQ.out rfl ((HE2.out.setCell (by show w.heap.size ≤ w.heap.size + 1 + 1 + 1; omega) _).setCell (by show w.heap.size ≤ w.heap.size + 1 + 1 + 1; omega) _))

set_option maxRecDepth 100000 in
set_option maxHeartbeats 4000000 in
theorem implLiftCochain_ex (t0 : List (List Int)) (m1 : Int) (t1 : List Int) (m2 m3 : Int) (t3 : List Int) : ∀ (B0 : Option Addr) (d0 : Nat) (B1 : Option Addr) (d1 : Nat) (B3 : Option Addr) (d3 : Nat) (W : World), RwsW W B0 t0 → IntsW W B1 t1 → IntsW W B3 t3 → SmallT t0 → t1.length ≤ 1048576 → t3.length ≤ 1048576 → ErrD W →
    Calls Tryd.prog 37 #[.agg #[.slice B0 t0.length d0], .agg #[.int .i64 m1, .slice B1 t1.length d1], .int .i64 m2, .agg #[.int .i64 m3, .slice B3 t3.length d3]] W (SqS (qLiftCochain0 t0 m1 t1 m2 m3 t3) (yLiftCochain0 t0 m1 t1 m2 m3 t3) (qLiftCochain1 t0 m1 t1 m2 m3 t3) W) := by
  intro B0 d0 B1 d1 B3 d3 w hR hX hF hs hx hf hE
  have e0 : Ex w ((((w.alloc (.cells #[.slice B0 t0.length d0] 33)).alloc (.cells #[.int .i64 m1, .slice B1 t1.length d1] 30)).alloc (.cells #[.int .i64 m3, .slice B3 t3.length d3] 44)).alloc (.cells #[.int .i64 0, .slice none 0 0] 44)) := ((((Ex.refl w).alloc _).alloc _).alloc _).alloc _
  have b0 : Has ((((w.alloc (.cells #[.slice B0 t0.length d0] 33)).alloc (.cells #[.int .i64 m1, .slice B1 t1.length d1] 30)).alloc (.cells #[.int .i64 m3, .slice B3 t3.length d3] 44)).alloc (.cells #[.int .i64 0, .slice none 0 0] 44)) (w.heap.size) 33 #[.slice B0 t0.length d0] := ((((Has.newAt (w := w) (e := 33) (cs := #[.slice B0 t0.length d0]) (k := w.heap.size) (by simp)).alloc _).alloc _).alloc _)
  have b1 : Has ((((w.alloc (.cells #[.slice B0 t0.length d0] 33)).alloc (.cells #[.int .i64 m1, .slice B1 t1.length d1] 30)).alloc (.cells #[.int .i64 m3, .slice B3 t3.length d3] 44)).alloc (.cells #[.int .i64 0, .slice none 0 0] 44)) (w.heap.size + 1) 30 #[.int .i64 m1, .slice B1 t1.length d1] := (((Has.newAt (w := (w.alloc (.cells #[.slice B0 t0.length d0] 33))) (e := 30) (cs := #[.int .i64 m1, .slice B1 t1.length d1]) (k := w.heap.size + 1) (by simp)).alloc _).alloc _)
  have b2 : Has ((((w.alloc (.cells #[.slice B0 t0.length d0] 33)).alloc (.cells #[.int .i64 m1, .slice B1 t1.length d1] 30)).alloc (.cells #[.int .i64 m3, .slice B3 t3.length d3] 44)).alloc (.cells #[.int .i64 0, .slice none 0 0] 44)) (w.heap.size + 1 + 1) 44 #[.int .i64 m3, .slice B3 t3.length d3] := ((Has.newAt (w := ((w.alloc (.cells #[.slice B0 t0.length d0] 33)).alloc (.cells #[.int .i64 m1, .slice B1 t1.length d1] 30))) (e := 44) (cs := #[.int .i64 m3, .slice B3 t3.length d3]) (k := w.heap.size + 1 + 1) (by simp)).alloc _)
  have b3 : Has ((((w.alloc (.cells #[.slice B0 t0.length d0] 33)).alloc (.cells #[.int .i64 m1, .slice B1 t1.length d1] 30)).alloc (.cells #[.int .i64 m3, .slice B3 t3.length d3] 44)).alloc (.cells #[.int .i64 0, .slice none 0 0] 44)) (w.heap.size + 1 + 1 + 1) 44 #[.int .i64 0, .slice none 0 0] := (Has.newAt (w := (((w.alloc (.cells #[.slice B0 t0.length d0] 33)).alloc (.cells #[.int .i64 m1, .slice B1 t1.length d1] 30)).alloc (.cells #[.int .i64 m3, .slice B3 t3.length d3] 44))) (e := 44) (cs := #[.int .i64 0, .slice none 0 0]) (k := w.heap.size + 1 + 1 + 1) (by simp))
  have hXe : ∀ M K Q : Nat, m1 = (M : Int) → m2 = (K : Int) → SeqF M K Q → M ≤ 12 → ouN m1 m2 = ((fun _ _ Q => Q) M K Q : Int) ∧ (fun _ _ Q => Q) M K Q ≤ 12 := fun M K Q h1 h2 hS hM => by
    have hQM : Q ≤ M := by have := hS.div; rw [← this]; exact Nat.div_le_self _ _
    have := hS.lt
    subst h1 h2
    exact ⟨ouN_eq hS, by show Q ≤ 12; omega⟩
  have HC := Lib.hid (ledAlong_any 71 (fun _ _ Q => Q) _ _ _ _ B0 B1 B3 t0 m1 t1 m2 (ouN m1 m2) m3 t3 d0 d1 d3 _ (hR.ex e0) (hX.ex e0) (hF.ex e0) hs hx hf (hE.ex e0) (fun W hl => lifting_map t0.length t1 hl W) hXe (fun M K Q hg h1 h2 hF hS => short_of hg (hXe M K Q h1 h2 hS hF.m12).1 (hXe M K Q h1 h2 hS hF.m12).2))
  have HE0 := Lib.hid e0
  have HB3 := Lib.hid b3
  have k0 := b0.cell 0
  have k1 := b1.cell 0
  have k1' := b1.cell 1
  have k2 := b2.cell 0
  have k2' := b2.cell 1
  have hlw := e0.size
  have hlb := b3.lt
  clear hR hX hF hs hx hf hE hXe b0 b1 b2 b3 e0
  go_enter Tryd.func37, Tryd.ntmps37
  go_wp2_with fail
  generalize ((((w.alloc (.cells #[.slice B0 t0.length d0] 33)).alloc (.cells #[.int .i64 m1, .slice B1 t1.length d1] 30)).alloc (.cells #[.int .i64 m3, .slice B3 t3.length d3] 44)).alloc (.cells #[.int .i64 0, .slice none 0 0] 44)) = W0 at *
  refine HC.out.mono ?_
  rintro e W2 h
  clear HC
  rcases h with ⟨M, K, Q, C0, n0, hgv, rfl, rfl, hS, rfl, he2, hO⟩ | ⟨hz, rfl, he2⟩
  · have HQ := Lib.hid (lif_yes hgv)
    simp only [tmL_one] at hO ⊢
    have HBR := Lib.hid (HB3.out.ex he2)
    have HE2 := Lib.hid (HE0.out.trans he2)
    have HO := Lib.hid hO
    have c4 := HBR.out.cell 0
    have c4' := HBR.out.cell 1
    have f4 := HBR.out.free 0
    have f4' := HBR.out.free 1
    clear hgv hS he2 hO k0 k1 k1' k2 k2'
    go_wp2_with fail
    have H4 := HBR.out.put2 (u := .int .i64 m3) (v := .slice C0 (t3).length n0)
    have c4 := H4.cell 0
    have c4' := H4.cell 1
    refine bodyPost_ret (v := .tuple #[.agg #[.int .i64 m3, .slice C0 (t3).length n0], .int .i64 0]) (by simp [results, Tryd.results37, go_sem, c4, c4']) rfl (SqS.of HQ.out rfl ((HE2.out.setCell (by show w.heap.size ≤ w.heap.size + 1 + 1 + 1; omega) _).setCell (by show w.heap.size ≤ w.heap.size + 1 + 1 + 1; omega) _) (((HO.out.above (Only.set _ _ _ _) hlb).above (Only.set _ _ _ _) hlb).mono hlw (by simp) (Nat.le_refl _)))
  · obtain ⟨z, hzz⟩ : ∃ z, gvC t0 m1 t1 m2 (ouN m1 m2) m3 t3 = z := ⟨_, rfl⟩
    have HQ := Lib.hid (lif_no hzz (hzz ▸ hz))
    rw [hzz] at hz ⊢
    have HBR := Lib.hid (HB3.out.ex he2)
    have HE2 := Lib.hid (HE0.out.trans he2)
    have c4 := HBR.out.cell 0
    have c4' := HBR.out.cell 1
    have f4 := HBR.out.free 0
    have f4' := HBR.out.free 1
    clear hz hzz he2 k0 k1 k1' k2 k2'
    go_wp2_with fail
    have H4 := HBR.out.put2 (u := .int .i64 0) (v := .slice none 0 0)
    have c4 := H4.cell 0
    have c4' := H4.cell 1
    refine bodyPost_ret (v := .tuple #[.agg #[.int .i64 0, .slice none 0 0], .int .i64 z]) (by simp [results, Tryd.results37, go_sem, c4, c4']) rfl (SqS.err HQ.out rfl ((HE2.out.setCell (by show w.heap.size ≤ w.heap.size + 1 + 1 + 1; omega) _).setCell (by show w.heap.size ≤ w.heap.size + 1 + 1 + 1; omega) _))

end Go.Proofs.YtllkaoacfchibaaDoor
