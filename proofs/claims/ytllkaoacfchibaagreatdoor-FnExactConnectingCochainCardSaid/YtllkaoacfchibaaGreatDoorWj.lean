/- Chapter 8: a map for a cochain, and what it makes of it, by the program. -/
import Derived.Test.YtllkaoacfchibaaGreatDoorWi
import Derived.Test.YtllkaoacfchibaaGreatDoorWg
import Derived.Test.YtllkaoacfchibaaGreatDoorFi
namespace Go.Proofs.YtllkaoacfchibaaGreatDoor
open Go.RowKit

/-- What is asked of the end of mapFor. -/
def MapS (t : List (List Int)) (m : Int) (us : List Int) (k m' n : Int) (fs : List Int) (X : Nat → Nat → Nat → Nat) (xl : Nat → Nat → Nat → List Int) (Cn : Nat → Nat → Nat → Int → List Int → Prop) (dd : Int → Int) (ys : Nat → Nat → Nat → Int → List Int → List Int) (W : World) (e : Ending) (W' : World) : Prop :=
  (∃ M K Q AX nX Y AY lY nY more kf cap, gvC t m us k m' n fs = 0 ∧ m = ((M : Nat) : Int) ∧ k = ((K : Nat) : Int) ∧ ModF t M us ∧ SeqF M K Q ∧ e = .returned (.tuple #[.agg #[.int .i64 (X M K Q : Int), .slice AX (xl M K Q).length nX, .int .i64 Y, .slice AY lY nY, .int .i64 more, .func (.func kf) #[] cap], .int .i64 0]) ∧ Ex W W' ∧ IntsW W' AX (xl M K Q) ∧ ∃ lo, LeadOK (Cn M K Q) dd (ys M K Q) kf cap W.heap.size lo W')
  ∨ (gvC t m us k m' n fs ≠ 0 ∧ e = .returned (.tuple #[.agg #[.int .i64 0, .slice none 0 0, .int .i64 0, .slice none 0 0, .int .i64 0, .nilFunc], .int .i64 (gvC t m us k m' n fs)]) ∧ Ex W W')

set_option maxRecDepth 100000 in
set_option maxHeartbeats 8000000 in
theorem mapFor_any (GA : Option Addr → Option Addr → Prop) (mf : Nat) (X : Nat → Nat → Nat → Nat) (xl : Nat → Nat → Nat → List Int) (Cn : Nat → Nat → Nat → Int → List Int → Prop) (dd : Int → Int) (ys : Nat → Nat → Nat → Int → List Int → List Int) (A U Fa : Option Addr) (t : List (List Int)) (m : Int) (us : List Int) (k m' n : Int) (fs : List Int) (c c1 c2 : Nat) (w : World)
    (hR : RwsW w A t) (hU : IntsW w U us) (hF : IntsW w Fa fs) (hs : SmallT t) (hu : us.length ≤ 1048576) (hf : fs.length ≤ 1048576) (hE : ErrD w)
    (hMC : ∀ M : Nat, m = (M : Int) → ModF t M us → MapC GA mf t.length us X xl Cn dd ys w) (hGA : GA A U) (hX : ∀ M K Q : Nat, m = (M : Int) → k = (K : Int) → SeqF M K Q → M ≤ 12 → m' = (X M K Q : Int) ∧ X M K Q ≤ 12) :
    Calls Tryz.prog 46 #[.agg #[.slice A t.length c], .agg #[.int .i64 m, .slice U us.length c1], .int .i64 k, .agg #[.int .i64 n, .slice Fa fs.length c2], .func (.func mf) #[] #[]] w (MapS t m us k m' n fs X xl Cn dd ys w) := by
  have e0 : Ex w ((((w.alloc (.cells #[.slice A t.length c] 36)).alloc (.cells #[.int .i64 m, .slice U us.length c1] 38)).alloc (.cells #[.int .i64 n, .slice Fa fs.length c2] 33)).alloc (.cells #[.int .i64 0, .slice none 0 0, .int .i64 0, .slice none 0 0, .int .i64 0, .nilFunc] 69)) := ((((Ex.refl w).alloc _).alloc _).alloc _).alloc _
  have b0 : Has ((((w.alloc (.cells #[.slice A t.length c] 36)).alloc (.cells #[.int .i64 m, .slice U us.length c1] 38)).alloc (.cells #[.int .i64 n, .slice Fa fs.length c2] 33)).alloc (.cells #[.int .i64 0, .slice none 0 0, .int .i64 0, .slice none 0 0, .int .i64 0, .nilFunc] 69)) (w.heap.size) 36 #[.slice A t.length c] := ((((Has.newAt (w := w) (e := 36) (cs := #[.slice A t.length c]) (k := w.heap.size) (by simp)).alloc _).alloc _).alloc _)
  have b1 : Has ((((w.alloc (.cells #[.slice A t.length c] 36)).alloc (.cells #[.int .i64 m, .slice U us.length c1] 38)).alloc (.cells #[.int .i64 n, .slice Fa fs.length c2] 33)).alloc (.cells #[.int .i64 0, .slice none 0 0, .int .i64 0, .slice none 0 0, .int .i64 0, .nilFunc] 69)) (w.heap.size + 1) 38 #[.int .i64 m, .slice U us.length c1] := (((Has.newAt (w := (w.alloc (.cells #[.slice A t.length c] 36))) (e := 38) (cs := #[.int .i64 m, .slice U us.length c1]) (k := w.heap.size + 1) (by simp)).alloc _).alloc _)
  have b2 : Has ((((w.alloc (.cells #[.slice A t.length c] 36)).alloc (.cells #[.int .i64 m, .slice U us.length c1] 38)).alloc (.cells #[.int .i64 n, .slice Fa fs.length c2] 33)).alloc (.cells #[.int .i64 0, .slice none 0 0, .int .i64 0, .slice none 0 0, .int .i64 0, .nilFunc] 69)) (w.heap.size + 1 + 1) 33 #[.int .i64 n, .slice Fa fs.length c2] := ((Has.newAt (w := ((w.alloc (.cells #[.slice A t.length c] 36)).alloc (.cells #[.int .i64 m, .slice U us.length c1] 38))) (e := 33) (cs := #[.int .i64 n, .slice Fa fs.length c2]) (k := w.heap.size + 1 + 1) (by simp)).alloc _)
  have b3 : Has ((((w.alloc (.cells #[.slice A t.length c] 36)).alloc (.cells #[.int .i64 m, .slice U us.length c1] 38)).alloc (.cells #[.int .i64 n, .slice Fa fs.length c2] 33)).alloc (.cells #[.int .i64 0, .slice none 0 0, .int .i64 0, .slice none 0 0, .int .i64 0, .nilFunc] 69)) (w.heap.size + 1 + 1 + 1) 69 #[.int .i64 0, .slice none 0 0, .int .i64 0, .slice none 0 0, .int .i64 0, .nilFunc] := (Has.newAt (w := (((w.alloc (.cells #[.slice A t.length c] 36)).alloc (.cells #[.int .i64 m, .slice U us.length c1] 38)).alloc (.cells #[.int .i64 n, .slice Fa fs.length c2] 33))) (e := 69) (cs := #[.int .i64 0, .slice none 0 0, .int .i64 0, .slice none 0 0, .int .i64 0, .nilFunc]) (k := w.heap.size + 1 + 1 + 1) (by simp))
  have hsn := fun (a : Addr) (w : World) => run_store Tryz.prog w a .nilFunc .plain rfl
  have HC := Lib.hid (sequenceOf_any A U t m us k c c1 _ (hR.ex e0) (hU.ex e0) hs hu (hE.ex e0))
  have HU := Lib.hid (fun W (he : Ex w W) => hU.ex he)
  have HFT := Lib.hid (fun (K : Nat) (hK : K ≤ 12) (hg : IsGrp t) (ls : List Int) (AX : Option Addr) (nX : Nat) W (he : Ex w W) => fitsModule_any A AX Fa t K ls n fs c nX c2 W hg.n1 hg.n8 hK (hF.ex he) hf)
  have HMC := Lib.hid hMC
  have HX := Lib.hid hX
  have HGA := Lib.hid hGA
  have HE0 := Lib.hid e0
  have HB0 := Lib.hid b0
  have HB2 := Lib.hid b2
  have HB3 := Lib.hid b3
  have k0 := b0.cell 0
  have k1 := b1.cell 0
  have k1' := b1.cell 1
  have hlw := e0.size
  have hlb := b3.lt
  clear hR hU hF hs hu hf hE hMC hX hGA b0 b1 b2 b3 e0
  go_enter Tryz.func46, Tryz.ntmps46
  go_wp2_with fail
  generalize ((((w.alloc (.cells #[.slice A t.length c] 36)).alloc (.cells #[.int .i64 m, .slice U us.length c1] 38)).alloc (.cells #[.int .i64 n, .slice Fa fs.length c2] 33)).alloc (.cells #[.int .i64 0, .slice none 0 0, .int .i64 0, .slice none 0 0, .int .i64 0, .nilFunc] 69)) = W0 at *
  refine HC.out.mono ?_
  rintro e W2 h
  clear HC
  rcases h with ⟨M, K, Q, rfl, rfl, hMF, hS, hg, hz, v, rfl, A1, n1, A2, n2, mid, rfl, he2, hm1, hm2, ho1, ho2⟩ | ⟨hz, rfl, he2⟩
  · have hl := hMF.len
    obtain ⟨hmx, hx12⟩ := HX.out M K Q rfl rfl hS hMF.m12
    have HZ := Lib.hid (And.intro hz (And.intro hMF hS))
    have HGG := Lib.hid hMF.g
    have HMW := Lib.hid (HMC.out M rfl hMF)
    rw [hl]
    have HX2 := Lib.hid he2
    have b9 := Has.new W2 75 #[.slice A t.length c, .int .i64 (K : Int), .slice A1 t.length n1, .int .i64 (M : Int), .slice U t.length c1, .int .i64 (Q : Int), .slice A2 t.length n2]
    have g0 := b9.cell 0
    have g1 := b9.cell 1
    have g2 := b9.cell 2
    have g3 := b9.cell 3
    have g4 := b9.cell 4
    have g5 := b9.cell 5
    have g6 := b9.cell 6
    have HX9 := Lib.hid (he2.alloc (.cells #[.slice A t.length c, .int .i64 (K : Int), .slice A1 t.length n1, .int .i64 (M : Int), .slice U t.length c1, .int .i64 (Q : Int), .slice A2 t.length n2] 75))
    have HA1 := Lib.hid (ho1.ex (Ex.new W2 (.cells #[.slice A t.length c, .int .i64 (K : Int), .slice A1 t.length n1, .int .i64 (M : Int), .slice U t.length c1, .int .i64 (Q : Int), .slice A2 t.length n2] 75)))
    have HA2 := Lib.hid (ho2.ex (Ex.new W2 (.cells #[.slice A t.length c, .int .i64 (K : Int), .slice A1 t.length n1, .int .i64 (M : Int), .slice U t.length c1, .int .i64 (Q : Int), .slice A2 t.length n2] 75)))
    clear hMF hS hg hz he2 ho1 ho2 b9 k0 k1 k1'
    go_upto_region 2 with fail
    generalize W2.alloc (.cells #[.slice A t.length c, .int .i64 (K : Int), .slice A1 t.length n1, .int .i64 (M : Int), .slice U t.length c1, .int .i64 (Q : Int), .slice A2 t.length n2] 75) = W9 at *
    have hegm := HMW.out.1
    go_wp2_with fail
    refine (HMW.out.2 A U c c1 M K Q A1 n1 A2 n2 W0.heap.size W9 (HE0.out.trans HX9.out) HGA.out HX9.out.size HZ.out.2.2 HZ.out.2.1.m12 (HU.out _ (HE0.out.trans HX9.out)) HA1.out.ints HA2.out.ints).mono ?_
    rintro e W10 ⟨AX, nX, Y, AY, lY, nY, more, kf, cap, rfl, he10, hI, hLD⟩
    obtain ⟨x, hx⟩ : ∃ x, X M K Q = x := ⟨_, rfl⟩
    obtain ⟨ls, hls⟩ : ∃ ls, xl M K Q = ls := ⟨_, rfl⟩
    rw [hx] at hmx hx12 ⊢
    rw [hls] at hI ⊢
    have HI := Lib.hid hI
    have HXL := Lib.hid (And.intro hx hls)
    have hsf := fun (a : Addr) (w : World) => run_store Tryz.prog w a (.func (.func kf) #[] cap) .plain rfl
    have hE11 := (HX9.out.trans he10).alloc (.cells #[.int .i64 (x : Int), .slice AX ls.length nX, .int .i64 Y, .slice AY lY nY, .int .i64 more, .func (.func kf) #[] cap] 69)
    have HX11 := Lib.hid hE11
    have b11 := Has.new W10 69 #[.int .i64 (x : Int), .slice AX ls.length nX, .int .i64 Y, .slice AY lY nY, .int .i64 more, .func (.func kf) #[] cap]
    have HB11 := Lib.hid b11
    have HX10 := Lib.hid he10.size
    have HA11 := Lib.hid (HA1.out.ex (he10.alloc (.cells #[.int .i64 (x : Int), .slice AX ls.length nX, .int .i64 Y, .slice AY lY nY, .int .i64 more, .func (.func kf) #[] cap] 69)))
    have HA21 := Lib.hid (HA2.out.ex (he10.alloc (.cells #[.int .i64 (x : Int), .slice AX ls.length nX, .int .i64 Y, .slice AY lY nY, .int .i64 more, .func (.func kf) #[] cap] 69)))
    have HL11 := Lib.hid (hLD.goes (Goes.of_ex (Ex.new W10 (.cells #[.int .i64 (x : Int), .slice AX ls.length nX, .int .i64 Y, .slice AY lY nY, .int .i64 more, .func (.func kf) #[] cap] 69))))
    have p0 := b11.cell 0
    have p1 := b11.cell 1
    have q0 := (HB0.out.ex hE11).cell 0
    have q2 := (HB2.out.ex hE11).cell 0
    have q2' := (HB2.out.ex hE11).cell 1
    clear hx hls he10 hI hLD hE11 b11 hegm g0 g1 g2 g3 g4 g5 g6
    go_upto_region 5 with fail
    generalize W10.alloc (.cells #[.int .i64 (x : Int), .slice AX ls.length nX, .int .i64 Y, .slice AY lY nY, .int .i64 more, .func (.func kf) #[] cap] 69) = W11 at *
    go_wp2_with fail
    refine (HFT.out x hx12 HGG.out ls AX nX W11 (HE0.out.trans HX11.out)).mono ?_
    rintro e W12 ⟨rfl, he12⟩
    have HE12 := Lib.hid (HE0.out.trans (HX11.out.trans he12))
    have HB12 := Lib.hid (HB11.out.ex he12)
    have HB31 := Lib.hid (HB3.out.ex (HX11.out.trans he12))
    have HA12 := Lib.hid (HA11.out.ex he12)
    have HA22 := Lib.hid (HA21.out.ex he12)
    have HL12 := Lib.hid (HL11.out.goes (Goes.of_ex he12))
    clear p0 p1 q0 q2 q2' he12
    have d0 := HB31.out.cell 0
    have f0 := HB31.out.free 0
    have d1 := HB31.out.cell 1
    have f1 := HB31.out.free 1
    have d2 := HB31.out.cell 2
    have f2 := HB31.out.free 2
    have d3 := HB31.out.cell 3
    have f3 := HB31.out.free 3
    have d4 := HB31.out.cell 4
    have f4 := HB31.out.free 4
    have d5 := HB31.out.cell 5
    have f5 := HB31.out.free 5
    cases hco : cocB t.length (x : Int) n fs with
    | false =>
      have HGV := Lib.hid (gvC_out (m' := m') HZ.out.1 (by rw [hmx]; exact hco))
      go_wp2_with fail
      have H4 := Has.put6 (u0 := .int .i64 0) (u1 := .slice none 0 0) (u2 := .int .i64 0) (u3 := .slice none 0 0) (u4 := .int .i64 0) (u5 := .nilFunc) HB31.out
      have e0 := H4.cell 0
      have e1 := H4.cell 1
      have e2 := H4.cell 2
      have e3 := H4.cell 3
      have e4 := H4.cell 4
      have e5 := H4.cell 5
      exact bodyPost_ret (v := .tuple #[.agg #[.int .i64 0, .slice none 0 0, .int .i64 0, .slice none 0 0, .int .i64 0, .nilFunc], .int .i64 1]) (by simp [results, Tryz.results46, go_sem, e0, e1, e2, e3, e4, e5]) rfl (.inr ⟨by rw [HGV.out]; decide, by rw [HGV.out], HE12.out.put6 (by omega)⟩)
    | true =>
      have HGV := Lib.hid (gvC_yes (m' := m') HZ.out.1 (by rw [hmx]; exact hco))
      have h0 := HB12.out.cell 0
      have h1 := HB12.out.cell 1
      have h2 := HB12.out.cell 2
      have h3 := HB12.out.cell 3
      have h4 := HB12.out.cell 4
      have h5 := HB12.out.cell 5
      go_wp2_with fail
      have H4 := Has.put6 (u0 := .int .i64 (x : Int)) (u1 := .slice AX ls.length nX) (u2 := .int .i64 Y) (u3 := .slice AY lY nY) (u4 := .int .i64 more) (u5 := .func (.func kf) #[] cap) HB31.out
      have e0 := H4.cell 0
      have e1 := H4.cell 1
      have e2 := H4.cell 2
      have e3 := H4.cell 3
      have e4 := H4.cell 4
      have e5 := H4.cell 5
      refine bodyPost_ret (v := .tuple #[.agg #[.int .i64 (x : Int), .slice AX ls.length nX, .int .i64 Y, .slice AY lY nY, .int .i64 more, .func (.func kf) #[] cap], .int .i64 0]) (by simp [results, Tryz.results46, go_sem, e0, e1, e2, e3, e4, e5]) rfl (.inl ⟨M, K, Q, AX, nX, Y, AY, lY, nY, more, kf, cap, HGV.out, rfl, rfl, HZ.out.2.1, HZ.out.2.2, by rw [HXL.out.1, HXL.out.2], HE12.out.put6 (by omega), ?_, W0.heap.size, HL12.out.goes (Goes.put6 (by omega) (by omega))⟩)
      rw [HXL.out.2]
      rcases HI.out with ⟨rfl, h⟩ | ⟨rfl, h⟩ | ⟨rfl, h⟩
      · rw [h]
        exact (HA12.out.put6 (by omega)).ints
      · rw [h]
        exact HU.out _ (HE12.out.put6 (by omega))
      · rw [h]
        exact (HA22.out.put6 (by omega)).ints
  · obtain ⟨z, hzz⟩ : ∃ z, sqC t m us k = z := ⟨_, rfl⟩
    have HGV := Lib.hid (And.intro (gvC_no (m' := m') (n := n) (fs := fs) hzz (hzz ▸ hz)) (show z ≠ 0 from hzz ▸ hz))
    rw [hzz] at hz ⊢
    have hzb : (z != 0) = true := by simpa using hz
    have HE9 := Lib.hid ((HE0.out.trans he2).alloc (.cells #[.slice none 0 0, .int .i64 0, .slice none 0 0, .int .i64 0, .slice none 0 0, .int .i64 0, .slice none 0 0] 75))
    have HB31 := Lib.hid ((HB3.out.ex he2).alloc (.cells #[.slice none 0 0, .int .i64 0, .slice none 0 0, .int .i64 0, .slice none 0 0, .int .i64 0, .slice none 0 0] 75))
    have d0 := HB31.out.cell 0
    have f0 := HB31.out.free 0
    have d1 := HB31.out.cell 1
    have f1 := HB31.out.free 1
    have d2 := HB31.out.cell 2
    have f2 := HB31.out.free 2
    have d3 := HB31.out.cell 3
    have f3 := HB31.out.free 3
    have d4 := HB31.out.cell 4
    have f4 := HB31.out.free 4
    have d5 := HB31.out.cell 5
    have f5 := HB31.out.free 5
    clear hz hzz he2 k0 k1 k1'
    go_upto_region 2 with fail
    generalize W2.alloc (.cells #[.slice none 0 0, .int .i64 0, .slice none 0 0, .int .i64 0, .slice none 0 0, .int .i64 0, .slice none 0 0] 75) = W9 at *
    go_wp2_with fail
    go_wp2_with fail
    have H4 := Has.put6 (u0 := .int .i64 0) (u1 := .slice none 0 0) (u2 := .int .i64 0) (u3 := .slice none 0 0) (u4 := .int .i64 0) (u5 := .nilFunc) HB31.out
    have e0 := H4.cell 0
    have e1 := H4.cell 1
    have e2 := H4.cell 2
    have e3 := H4.cell 3
    have e4 := H4.cell 4
    have e5 := H4.cell 5
    exact bodyPost_ret (v := .tuple #[.agg #[.int .i64 0, .slice none 0 0, .int .i64 0, .slice none 0 0, .int .i64 0, .nilFunc], .int .i64 z]) (by simp [results, Tryz.results46, go_sem, e0, e1, e2, e3, e4, e5]) rfl (.inr ⟨by rw [HGV.out.1]; exact HGV.out.2, by rw [HGV.out.1], HE9.out.put6 (by omega)⟩)

end Go.Proofs.YtllkaoacfchibaaGreatDoor
