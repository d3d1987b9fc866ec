/- Factor sets of trivial modules: the specification's code. -/
import Derived.IntWalk
import Derived.Test.YtcdijeeabgmgmaaGreatDoorA1
import Derived.Test.YtcdijeeabgmgmaaGreatDoorTv
import Derived.Test.YtcdijeeabgmgmaaGreatDoorSh
namespace Go.Proofs.YtcdijeeabgmgmaaGreatDoor
open Go.RowKit

section
variable {t : List (List Int)} {m n : Int} {fs : List Int}
theorem c10_0 (h : grpB t = false) : c10 t m n fs = 1 := by rw [c10, if_pos h]
theorem c10_1 (h : grpB t = true) (h1 : inB m 2 12 = false) : c10 t m n fs = 2 := by rw [c10, if_neg (by simp [h]), if_pos h1]
theorem c10_2 (h : grpB t = true) (h1 : inB m 2 12 = true) (h2 : cocB t.length m n fs = false) : c10 t m n fs = 1 := by rw [c10, if_neg (by simp [h]), if_neg (by simp [h1]), if_pos h2]
theorem c10_3 (h : grpB t = true) (h1 : inB m 2 12 = true) (h2 : cocB t.length m n fs = true) (h3 : n ≠ 2) : c10 t m n fs = 2 := by rw [c10, if_neg (by simp [h]), if_neg (by simp [h1]), if_neg (by simp [h2]), if_pos h3]
theorem c10_4 (h : grpB t = true) (h1 : inB m 2 12 = true) (h2 : cocB t.length m n fs = true) (h3 : n = 2) : c10 t m n fs = if cyB t m.toNat n.toNat (ones t.length) fs = true then 0 else 5 := by
  rw [c10, if_neg (by simp [h]), if_neg (by simp [h1]), if_neg (by simp [h2]), if_neg (by simp [h3])]
  cases cyB t m.toNat n.toNat (ones t.length) fs <;> rfl
end

set_option maxRecDepth 100000 in
set_option maxHeartbeats 2000000 in
theorem l10Given_no (B0 B2 : Option Addr) (t : List (List Int)) (m n : Int) (fs : List Int) (d0 d2 : Nat) (w : World) (hR : RwsW w B0 t) (hs : SmallT t) (hg : (grpB t && inB m 2 12) = false) :
    Calls Tryz.prog 34 #[.agg #[.slice B0 t.length d0], .int .i64 m, .agg #[.int .i64 n, .slice B2 fs.length d2]] w fun e w' => e = .returned (.int .i64 (c10 t m n fs)) ∧ Ex w w' := by
  have e0 : Ex w ((w.alloc (.cells #[.slice B0 t.length d0] 32)).alloc (.cells #[.int .i64 n, .slice B2 fs.length d2] 34)) := ((Ex.refl w).alloc _).alloc _
  have b0 : Has ((w.alloc (.cells #[.slice B0 t.length d0] 32)).alloc (.cells #[.int .i64 n, .slice B2 fs.length d2] 34)) (w.heap.size) 32 #[.slice B0 t.length d0] := ((Has.newAt (w := w) (e := 32) (cs := #[.slice B0 t.length d0]) (k := w.heap.size) (by simp)).alloc _)
  have b1 : Has ((w.alloc (.cells #[.slice B0 t.length d0] 32)).alloc (.cells #[.int .i64 n, .slice B2 fs.length d2] 34)) (w.heap.size + 1) 34 #[.int .i64 n, .slice B2 fs.length d2] := (Has.newAt (w := (w.alloc (.cells #[.slice B0 t.length d0] 32))) (e := 34) (cs := #[.int .i64 n, .slice B2 fs.length d2]) (k := w.heap.size + 1) (by simp))
  have HC := Lib.hid (l01Is_ex B0 t d0 _ (hR.ex e0) hs)
  have HE := Lib.hid e0
  have c0 := b0.cell 0
  clear hR hs e0 b0 b1
  cases h0 : grpB t with
  | false =>
    rw [h0] at HC
    have HQ := Lib.hid (c10_0 (m := m) (n := n) (fs := fs) h0)
    clear h0 hg
    go_enter Tryz.func34, Tryz.ntmps34
    go_wp2_with fail
    generalize ((w.alloc (.cells #[.slice B0 t.length d0] 32)).alloc (.cells #[.int .i64 n, .slice B2 fs.length d2] 34)) = W0 at *
    refine HC.out.mono ?_
    rintro e W1 ⟨rfl, he1⟩
    have HE1 := Lib.hid (HE.out.trans he1)
    clear he1 c0
    go_wp2_with fail
    go_ret
    exact ⟨by rw [HQ.out]; rfl, HE1.out⟩
  | true =>
    rw [h0] at HC hg
    have hd : inB m 2 12 = false := by simpa using hg
    have HQ := Lib.hid (c10_1 (m := m) (n := n) (fs := fs) h0 hd)
    clear h0 hg
    go_enter Tryz.func34, Tryz.ntmps34
    go_wp2_with fail
    generalize ((w.alloc (.cells #[.slice B0 t.length d0] 32)).alloc (.cells #[.int .i64 n, .slice B2 fs.length d2] 34)) = W0 at *
    refine HC.out.mono ?_
    rintro e W1 ⟨rfl, he1⟩
    have HE1 := Lib.hid (HE.out.trans he1)
    clear he1 c0
    go_wp2_with (go_at_call 66; refine (l01In_ex m 2 12 _).mono ?_; rw [hd]; rintro e w' ⟨rfl, rfl⟩)
    go_ret
    exact ⟨by rw [HQ.out]; rfl, HE1.out⟩

set_option maxRecDepth 100000 in
set_option maxHeartbeats 8000000 in
theorem l10Given_yes (B0 B2 : Option Addr) (t : List (List Int)) (M : Nat) (n : Int) (fs : List Int) (d0 d2 : Nat) (w : World) (hR : RwsW w B0 t) (hF : IntsW w B2 fs) (hs : SmallT t) (hf : fs.length ≤ 1048576) (h0 : grpB t = true) (hd : inB (M : Int) 2 12 = true) :
    Calls Tryz.prog 34 #[.agg #[.slice B0 t.length d0], .int .i64 (M : Int), .agg #[.int .i64 n, .slice B2 fs.length d2]] w fun e w' => e = .returned (.int .i64 (c10 t (M : Int) n fs)) ∧ Ex w w' := by
  have e0 : Ex w ((w.alloc (.cells #[.slice B0 t.length d0] 32)).alloc (.cells #[.int .i64 n, .slice B2 fs.length d2] 34)) := ((Ex.refl w).alloc _).alloc _
  have b0 : Has ((w.alloc (.cells #[.slice B0 t.length d0] 32)).alloc (.cells #[.int .i64 n, .slice B2 fs.length d2] 34)) (w.heap.size) 32 #[.slice B0 t.length d0] := ((Has.newAt (w := w) (e := 32) (cs := #[.slice B0 t.length d0]) (k := w.heap.size) (by simp)).alloc _)
  have b1 : Has ((w.alloc (.cells #[.slice B0 t.length d0] 32)).alloc (.cells #[.int .i64 n, .slice B2 fs.length d2] 34)) (w.heap.size + 1) 34 #[.int .i64 n, .slice B2 fs.length d2] := (Has.newAt (w := (w.alloc (.cells #[.slice B0 t.length d0] 32))) (e := 34) (cs := #[.int .i64 n, .slice B2 fs.length d2]) (k := w.heap.size + 1) (by simp))
  have HC := Lib.hid (l01Is_ex B0 t d0 _ (hR.ex e0) hs)
  have hgr := grpB_iff.1 h0
  have hn8 := hgr.n8
  have HLT := Lib.hid (fun W => l02Trivial_any B0 t.length d0 (M : Int) W hn8)
  have hgm := ones_mod hgr (show 2 ≤ M by have := inB_true hd; omega) (show M ≤ 12 by have := inB_true hd; omega)
  have hcm : gmcB t (M : Int) (ones t.length) n fs = cocB t.length (M : Int) n fs := by rw [gmcB, hgm]; rfl
  have HLC := Lib.hid (fun (A2 : Option Addr) (n2 kb : Nat) W (he : Ex w W) (hI : IntsW W A2 (ones t.length)) (hK : Has W kb 34 #[.int .i64 n, .slice B2 fs.length d2]) => (by
    have h := l03Code1_ex B0 A2 B2 t (M : Int) (ones t.length) n fs d0 n2 d2 kb W (hR.ex he) hI (hF.ex he) hs (by rw [ones_len]; omega) hf hK
    rw [ones_len, hcm] at h
    exact h : Calls Tryz.prog 68 #[.agg #[.slice B0 t.length d0], .agg #[.int .i64 (M : Int), .slice A2 t.length n2], .slice (some ⟨kb, 0, none⟩) 1 1] W fun e w' => e = .returned (.int .i64 (if cocB t.length (M : Int) n fs = true then 0 else 1)) ∧ Ex W w'))
  have HCY := Lib.hid (fun (hc : cocB t.length (M : Int) n fs = true) (hn : n = 2) (A2 : Option Addr) (n2 : Nat) W (he : Ex w W) (hI : IntsW W A2 (ones t.length)) => (by
    obtain ⟨M', k, hM', hk, hMF, hk3, hl, h343, hr⟩ := gmc_facts (hcm.trans hc)
    have e1 : M = M' := by omega
    have e2 : k = 2 := by omega
    subst e1 e2 hn
    have h := l03Cocycle_any B0 A2 B2 t M 2 (ones t.length) fs d0 n2 d2 W (hR.ex he) hI (hF.ex he) hMF (by omega) hl hr
    rw [ones_len] at h
    exact h : Calls Tryz.prog 69 #[.agg #[.slice B0 t.length d0], .agg #[.int .i64 (M : Int), .slice A2 t.length n2], .agg #[.int .i64 2, .slice B2 fs.length d2]] W fun e w' => e = .returned (.bool (cyB t M 2 (ones t.length) fs)) ∧ Ex W w'))
  have HQ2 := Lib.hid (fun h => c10_2 (m := (M : Int)) (n := n) (fs := fs) h0 hd h)
  have HQ3 := Lib.hid (fun h h' => c10_3 (m := (M : Int)) (n := n) (fs := fs) h0 hd h h')
  have HQ4 := Lib.hid (fun h h' => c10_4 (m := (M : Int)) (n := n) (fs := fs) h0 hd h h')
  have HB0 := Lib.hid b0
  have HB1 := Lib.hid b1
  have HE := Lib.hid e0
  have c0 := b0.cell 0
  rw [h0] at HC
  clear hR hF hs hf hgr hgm hcm h0 e0 b0 b1
  go_enter Tryz.func34, Tryz.ntmps34
  go_wp2_with fail
  generalize ((w.alloc (.cells #[.slice B0 t.length d0] 32)).alloc (.cells #[.int .i64 n, .slice B2 fs.length d2] 34)) = W0 at *
  refine HC.out.mono ?_
  rintro e W1 ⟨rfl, he1⟩
  have k0 := (HB0.out.ex he1).cell 0
  clear c0
  go_wp2_with (go_at_call 66; refine (l01In_ex (M : Int) 2 12 _).mono ?_; rw [hd]; rintro e w' ⟨rfl, rfl⟩)
  refine (HLT.out W1).mono ?_
  rintro e W2 ⟨A2, n2, rfl, he2, ho2⟩
  have he12 := he1.trans he2
  have ea := (Ex.refl W2).alloc (.cells #[.int .i64 (M : Int), .slice A2 t.length n2] 52)
  have eb := ea.alloc (.cells #[.int .i64 n, .slice B2 fs.length d2] 34)
  have x0 := (HB0.out.ex he12).cell 0
  have x1 := (HB1.out.ex he12).cell 0
  have x1' := (HB1.out.ex he12).cell 1
  have y0 := (HB0.out.ex (he12.trans ea)).cell 0
  have y1 := (HB1.out.ex (he12.trans ea)).cell 0
  have y1' := (HB1.out.ex (he12.trans ea)).cell 1
  have hm2 := Has.new W2 52 #[.int .i64 (M : Int), .slice A2 t.length n2]
  have ym := hm2.cell 0
  have ym' := hm2.cell 1
  have HM := Lib.hid (hm2.alloc (.cells #[.int .i64 n, .slice B2 fs.length d2] 34))
  have HKB : Hid (Has ((W2.alloc (.cells #[.int .i64 (M : Int), .slice A2 t.length n2] 52)).alloc (.cells #[.int .i64 n, .slice B2 fs.length d2] 34)) (W2.heap.size + 1) 34 #[.int .i64 n, .slice B2 fs.length d2]) := Lib.hid (Has.newAt (by simp))
  have HI := Lib.hid ((show IntsW W2 A2 (ones t.length) from ho2.ints).ex eb)
  have HX := Lib.hid (he12.trans eb)
  have hz : w.heap.size + 1 < W2.heap.size := (HB1.out.ex he12).lt
  clear k0 he1 he2 he12 ea eb ho2 hm2
  go_wp2_with fail
  generalize ((W2.alloc (.cells #[.int .i64 (M : Int), .slice A2 t.length n2] 52)).alloc (.cells #[.int .i64 n, .slice B2 fs.length d2] 34)) = W3 at *
  refine (HLC.out A2 n2 _ W3 (HE.out.trans HX.out) HI.out HKB.out).mono ?_
  rintro e W4 ⟨rfl, he4⟩
  have HX4 := Lib.hid (HX.out.trans he4)
  have HI4 := Lib.hid (HI.out.ex he4)
  have z0 := (HB0.out.ex HX4.out).cell 0
  have z1 := (HB1.out.ex HX4.out).cell 0
  have z1' := (HB1.out.ex HX4.out).cell 1
  have zm := (HM.out.ex he4).cell 0
  have zm' := (HM.out.ex he4).cell 1
  clear x0 x1 x1' y0 y1 y1' ym ym' he4
  cases hc : cocB t.length (M : Int) n fs with
  | false =>
    have HQ := Lib.hid (HQ2.out hc)
    clear hc
    go_wp2_with fail
    go_ret
    exact ⟨by rw [HQ.out]; rfl, HE.out.trans HX4.out⟩
  | true =>
    by_cases hn : n = 2
    · have HCY2 := Lib.hid (HCY.out hc hn)
      have HQ := Lib.hid (HQ4.out hc hn)
      subst hn
      clear hc
      cases hy : cyB t M 2 (ones t.length) fs with
      | false =>
        rw [hy] at HCY2
        have HQ' : Hid (c10 t (M : Int) 2 fs = 5) := Lib.hid (by rw [HQ.out, Int.toNat_natCast]; show (if cyB t M 2 (ones t.length) fs = true then (0 : Int) else 5) = 5; rw [hy]; rfl)
        clear hy
        go_wp2_with fail
        refine (HCY2.out A2 n2 W4 (HE.out.trans HX4.out) HI4.out).mono ?_
        rintro e W5 ⟨rfl, he5⟩
        have HE5 := Lib.hid ((HE.out.trans HX4.out).trans he5)
        clear he5 z0 z1 z1' zm zm'
        go_wp2_with fail
        go_ret
        exact ⟨by rw [HQ'.out]; rfl, HE5.out⟩
      | true =>
        rw [hy] at HCY2
        have HQ' : Hid (c10 t (M : Int) 2 fs = 0) := Lib.hid (by rw [HQ.out, Int.toNat_natCast]; show (if cyB t M 2 (ones t.length) fs = true then (0 : Int) else 5) = 0; rw [hy]; rfl)
        clear hy
        go_wp2_with fail
        refine (HCY2.out A2 n2 W4 (HE.out.trans HX4.out) HI4.out).mono ?_
        rintro e W5 ⟨rfl, he5⟩
        have HE5 := Lib.hid ((HE.out.trans HX4.out).trans he5)
        clear he5 z0 z1 z1' zm zm'
        go_wp2_with fail
        go_ret
        exact ⟨by rw [HQ'.out]; rfl, HE5.out⟩
    · have HQ := Lib.hid (HQ3.out hc hn)
      have hne : (n != 2) = true := by simpa using hn
      clear hc hn
      go_wp2_with fail
      go_ret
      exact ⟨by rw [HQ.out]; rfl, HE.out.trans HX4.out⟩

theorem l10Given_any (B0 B2 : Option Addr) (t : List (List Int)) (m n : Int) (fs : List Int) (d0 d2 : Nat) (w : World) (hR : RwsW w B0 t) (hF : IntsW w B2 fs) (hs : SmallT t) (hf : fs.length ≤ 1048576) :
    Calls Tryz.prog 34 #[.agg #[.slice B0 t.length d0], .int .i64 m, .agg #[.int .i64 n, .slice B2 fs.length d2]] w fun e w' => e = .returned (.int .i64 (c10 t m n fs)) ∧ Ex w w' := by
  cases hb : (grpB t && inB m 2 12) with
  | false => exact l10Given_no B0 B2 t m n fs d0 d2 w hR hs hb
  | true =>
    simp only [Bool.and_eq_true] at hb
    obtain ⟨M, rfl, _⟩ := ts_mod (m := m) (n := n) (fs := fs) hb.1 hb.2
    exact l10Given_yes B0 B2 t M n fs d0 d2 w hR hF hs hf hb.1 hb.2

end Go.Proofs.YtcdijeeabgmgmaaGreatDoor
