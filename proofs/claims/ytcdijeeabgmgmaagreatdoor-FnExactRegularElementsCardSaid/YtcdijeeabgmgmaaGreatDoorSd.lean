/- l03Side: the specification's value of a boundary at a list. -/
import Derived.IntWalk
import Derived.Test.YtcdijeeabgmgmaaGreatDoorBd
import Derived.Test.YtcdijeeabgmgmaaGreatDoorOl
import Derived.Test.YtcdijeeabgmgmaaGreatDoorVal
namespace Go.Proofs.YtcdijeeabgmgmaaGreatDoor
open Go.RowKit

/-- Two operations that may come up. -/
theorem Late.two {P : Program} {md : Region.Mode} {ops : Array Oper} {Q : Exit → Act → World → Prop} {C : World → Prop} {need : Nat → Bool} {i j : Nat} {oi oj : Oper} {k : Nat} {done : Array Bool} {a : Act} {w : World} (hr : Region.ready md ops done = [i, j]) (hi : ops[i]? = some oi) (hj : ops[j]? = some oj)
    (h1 : ∀ K' : Act → World → Prop, Shut (∀ a w, (need i = true → C w) → ((need i = true → C w) → Late P md ops Q C need k (done.setIfInBounds i true) a w) → K' a w) → if Region.wanted oi (yielded ops a.tmps) = true then Oper.wp P oi a w K' Q else K' (a.put oi.dst undef) w)
    (h2 : ∀ K' : Act → World → Prop, Shut (∀ a w, (need j = true → C w) → ((need j = true → C w) → Late P md ops Q C need k (done.setIfInBounds j true) a w) → K' a w) → if Region.wanted oj (yielded ops a.tmps) = true then Oper.wp P oj a w K' Q else K' (a.put oj.dst undef) w) :
    Late P md ops Q C need (k + 1) done a w := by
  refine ⟨fun h0 => absurd (hr ▸ h0) (by simp), fun l hl => ?_⟩
  rw [hr] at hl
  rcases List.mem_cons.1 hl with rfl | hl
  · exact wpOp_step hi fun K' hK => h1 K' fun a w hS hW => hK a w ⟨hS, hW hS⟩
  · obtain rfl := List.mem_singleton.1 hl
    exact wpOp_step hj fun K' hK => h2 K' fun a w hS hW => hK a w ⟨hS, hW hS⟩
theorem GrowI.lowS {w : World} {lo lo' n : Nat} {v : Value} {xs : List Int} (h : GrowI w lo v n xs) (hl : lo' ≤ lo) : GrowI w lo' v n xs := by
  refine ⟨⟨h.1.1, ?_⟩, h.2⟩
  rcases h.1.2 with h1 | ⟨g, cap, cur, h1, h2, h3⟩
  · exact .inl h1
  · exact .inr ⟨g, cap, cur, h1, Nat.le_trans hl h2, h3⟩

theorem l01Mod_e (x : Int) (m : Nat) (w : World) (hm : 0 < m) (hm' : m ≤ 12) (h0 : -1000000 ≤ x) (h1 : x ≤ 1000000) :
    Calls Tryz.prog 56 #[.int .i64 x, .int .i64 (m : Int)] w fun e w' => e = .returned (.int .i64 (x % (m : Int))) ∧ Ex w w' := (l01Mod_w x m w hm hm' h0 h1).mono fun _ _ ⟨h1, h2⟩ => ⟨h1, Ex.of_eq' h2⟩

set_option maxRecDepth 100000 in
set_option maxHeartbeats 8000000 in
theorem l03Side_any (A U F : Option Addr) (bl ol : Nat) (t : List (List Int)) (M n : Nat) (us fs Ls : List Int) (c0 c1 c2 e : Nat) (w : World) (hR : RwsW w A t) (hU : IntsW w U us) (hF : IntsW w F fs) (hm : ModF t M us) (hX : IntsW w (some ⟨bl, ol, none⟩) Ls) (hr : InR t.length Ls) (hl : Ls.length = n + 1) (hn3 : n ≤ 3) (hle : n + 1 ≤ e) (hfl : fs.length = cellsN t.length n) (hfr : InR M fs) :
    Calls Tryz.prog 99 #[.agg #[.slice A t.length c0], .agg #[.int .i64 (M : Int), .slice U us.length c1], .agg #[.int .i64 (n : Int), .slice F fs.length c2], .slice (some ⟨bl, ol, none⟩) Ls.length e] w fun e w' => e = .returned (.int .i64 (bdV t M us fs Ls)) ∧ Ex w w' := by
  obtain ⟨i0, hi, hi0, hi1, hi2⟩ := info_parts infoI
  obtain ⟨bt, ot, bb, oo, C, rfl, hQ⟩ := hR.sq hm.g
  have e0 : Ex w (((w.alloc (.cells #[.slice (some ⟨bt, ot, none⟩) t.length c0] 32)).alloc (.cells #[.int .i64 (M : Int), .slice U us.length c1] 52)).alloc (.cells #[.int .i64 (n : Int), .slice F fs.length c2] 34)) := (((Ex.refl w).alloc _).alloc _).alloc _
  have b0 : Has (((w.alloc (.cells #[.slice (some ⟨bt, ot, none⟩) t.length c0] 32)).alloc (.cells #[.int .i64 (M : Int), .slice U us.length c1] 52)).alloc (.cells #[.int .i64 (n : Int), .slice F fs.length c2] 34)) (w.heap.size) 32 #[.slice (some ⟨bt, ot, none⟩) t.length c0] := (((Has.newAt (w := w) (e := 32) (cs := #[.slice (some ⟨bt, ot, none⟩) t.length c0]) (k := w.heap.size) (by simp)).alloc _).alloc _)
  have b1 : Has (((w.alloc (.cells #[.slice (some ⟨bt, ot, none⟩) t.length c0] 32)).alloc (.cells #[.int .i64 (M : Int), .slice U us.length c1] 52)).alloc (.cells #[.int .i64 (n : Int), .slice F fs.length c2] 34)) (w.heap.size + 1) 52 #[.int .i64 (M : Int), .slice U us.length c1] := ((Has.newAt (w := (w.alloc (.cells #[.slice (some ⟨bt, ot, none⟩) t.length c0] 32))) (e := 52) (cs := #[.int .i64 (M : Int), .slice U us.length c1]) (k := w.heap.size + 1) (by simp)).alloc _)
  have b2 : Has (((w.alloc (.cells #[.slice (some ⟨bt, ot, none⟩) t.length c0] 32)).alloc (.cells #[.int .i64 (M : Int), .slice U us.length c1] 52)).alloc (.cells #[.int .i64 (n : Int), .slice F fs.length c2] 34)) (w.heap.size + 1 + 1) 34 #[.int .i64 (n : Int), .slice F fs.length c2] := (Has.newAt (w := ((w.alloc (.cells #[.slice (some ⟨bt, ot, none⟩) t.length c0] 32)).alloc (.cells #[.int .i64 (M : Int), .slice U us.length c1] 52))) (e := 34) (cs := #[.int .i64 (n : Int), .slice F fs.length c2]) (k := w.heap.size + 1 + 1) (by simp))
  have hN8 := hm.g.n8
  have hN1 := hm.g.n1
  have hM2 := hm.m2
  have hM12 := hm.m12
  have hcl : bl < w.heap.size ∧ ∀ j, j < n + 1 → w.cell? ⟨bl, ol + j, none⟩ = some (.int .i64 (nth Ls j)) := by
    rcases hX.ints with h | ⟨b', o', e', h1, h2⟩
    · rw [h] at hl
      cases hl
    · simp only [Option.some.injEq, Addr.mk.injEq, and_true] at e'
      obtain ⟨rfl, rfl⟩ := e'
      rw [hl] at h2
      exact ⟨h1, h2⟩
  have hbl := hcl.1
  have HCL := Lib.hid (fun W (he : Ex w W) j (hj : j < n + 1) => (he.below.cell (p := ⟨bl, ol + j, none⟩) hbl).trans (hcl.2 j hj))
  have HB := Lib.hid (fun i (hi : i ≤ n) => bdS_bound hm hr hl hfl hfr i hi)
  have HAT := Lib.hid (fun (Y : Option Addr) (xs : List Int) (c : Nat) W (he : Ex w W) (hY : IntsW W Y xs) (hx : xs.length = n) (hin : InR t.length xs) => l03At_any (some ⟨bt, ot, none⟩) F Y n t.length fs xs c0 c2 c W (hF.ex he) hY hN8 hN1 (by omega) hx hfl hin)
  have HM1 := Lib.hid (fun i (h : i < n) => bd_mid hm hr hl hfl hfr h)
  have hv0 := bd_first hm hr hl hfl hfr
  have hvn := bd_last hm hr hl hfl hfr
  have hr0 := hr 0 (by omega)
  obtain ⟨x, hx⟩ : ∃ x : Nat, nth Ls 0 = (x : Int) := ⟨(nth Ls 0).toNat, by omega⟩
  have hxu : x < us.length := by rw [hm.len]; omega
  have hur := hm.rng x hxu
  obtain ⟨bu, ou, rfl, hbu, hcu⟩ := hU.ints.at_ hxu
  have HS0 : Hid (bdS t us fs Ls 0 = nth us x * valR t.length fs (Ls.drop 1)) := Lib.hid (by rw [bdS, hx]; rfl)
  have HBV : Hid (bdV t M us fs Ls = (bdS t us fs Ls n + sgn (n + 1) * valR t.length fs (Ls.take n)) % (M : Int)) := Lib.hid (by rw [bdV, hl, Nat.add_sub_cancel])
  obtain ⟨Y, hY⟩ : ∃ Y, (if e = 1 then (some ⟨bl, ol, none⟩ : Option Addr) else some ⟨bl, ol + 1, none⟩) = Y := ⟨_, rfl⟩
  have hV1 := fun W (he : Ex w W) => HAT.out Y (Ls.drop 1) (e - 1) W he (by
    rw [← hY]
    by_cases h1 : e = 1
    · exact .inl (List.length_eq_zero_iff.1 (by rw [List.length_drop]; omega))
    · rw [if_neg h1]
      exact (hX.ex he).drop 1) (by rw [List.length_drop]; omega) (hr.drop 1)
  rw [show (Ls.drop 1).length = n by rw [List.length_drop]; omega] at hV1
  obtain ⟨v, hv⟩ : ∃ v, valR t.length fs (Ls.drop 1) = v := ⟨_, rfl⟩
  obtain ⟨u, hu⟩ : ∃ u, nth us x = u := ⟨_, rfl⟩
  rw [hv] at hV1 HS0 hv0
  rw [hu] at HS0 hur hcu
  have HV1 := Lib.hid hV1
  have huv0 : 0 ≤ u * v := Int.mul_nonneg hur.1 hv0.1
  have huv : u * v ≤ 144 := by
    have h1 : u * v ≤ 12 * v := Int.mul_le_mul_of_nonneg_right (by omega) hv0.1
    omega
  have hw1 : IntKind.i64.wrap (u * v) = u * v := IntWalk.i64_in _ (by omega)
  have HX := Lib.hid hX
  have HR := Lib.hid hr
  have HG := Lib.hid hm.g
  have HQ := Lib.hid hQ
  have HE0 := Lib.hid e0
  have HB0 := Lib.hid b0
  have HB1 := Lib.hid b1
  have HB2 := Lib.hid b2
  have HLL := Lib.hid hl
  have HSK := Lib.hid (fun W (he : Ex w W) => (he.below.cell (p := ⟨bu, ou + x, none⟩) hbu).trans hcu)
  have HX0 := Lib.hid hx
  obtain ⟨bS, hbS⟩ : ∃ bS, bdS t us fs Ls = bS := ⟨_, rfl⟩
  have HST : Hid (∀ i, bS (i + 1) = bS i + sgn (i + 1) * valR t.length fs (mgd t Ls i)) := Lib.hid (fun i => by rw [← hbS, bdS])
  simp only [hbS] at HB HS0 HBV
  rw [hl]
  clear hR hU hF hm hX hr hl hfl hfr hQ hcl hr0 hx hcu hv hu hV1 hbS e0 b0 b1 b2 hur hv0 huv huv0
  go_enter Tryz.func99, Tryz.ntmps99
  go_wp2_with fail
  generalize (((w.alloc (.cells #[.slice (some ⟨bt, ot, none⟩) t.length c0] 32)).alloc (.cells #[.int .i64 (M : Int), .slice (some ⟨bu, ou, none⟩) us.length c1] 52)).alloc (.cells #[.int .i64 (n : Int), .slice F fs.length c2] 34)) = W0 at *
  have hY2 := hY
  have h1n : (1 : Int) ≤ (n : Int) + 1 := by omega
  have HS2 := Lib.hid (fun W' (he : Ex W0.drew W') => And.intro ((HB0.out.ex ((Ex.refl W0).drew.trans he)).cell 0) (And.intro ((HB1.out.ex ((Ex.refl W0).drew.trans he)).cell 1) (And.intro ((HB2.out.ex ((Ex.refl W0).drew.trans he)).cell 0) (And.intro ((HB2.out.ex ((Ex.refl W0).drew.trans he)).cell 1) (And.intro (HSK.out W' (HE0.out.drew.trans he)) (show W'.cell? ⟨bl, ol, none⟩ = some (.int .i64 (x : Int)) by rw [← HX0.out]; exact HCL.out W' (HE0.out.drew.trans he) 0 (by omega)))))))
  refine wp_region_quiet (C := fun w' => Ex W0.drew w') (by kernel_rfl) (by kernel_rfl) (Ex.refl _) ?_
  refine BigFrame.wpQuiet_want (by rfl) fun K hK => ⟨?_, fun w' hC => ?_, hK _ ?_⟩
  rotate_left
  · (obtain ⟨q0, q1, q2, q3, q4, q5⟩ := HS2.out _ hC; go_simp; first | done | with_reducible rfl | exact ⟨rfl, hC⟩)
  clear hK K
  simp only [Act.put, List.setIfInBounds_toArray, List.set_cons_zero, List.set_cons_succ]
  refine BigFrame.wpQuiet_want (by rfl) fun K hK => ⟨?_, fun w' hC => ?_, hK _ ?_⟩
  rotate_left
  · (obtain ⟨q0, q1, q2, q3, q4, q5⟩ := HS2.out _ hC; go_simp; first | done | with_reducible rfl | exact ⟨rfl, hC⟩)
  clear hK K
  simp only [Act.put, List.setIfInBounds_toArray, List.set_cons_zero, List.set_cons_succ]
  refine BigFrame.wpQuiet_want (by rfl) fun K hK => ⟨?_, fun w' hC => ?_, hK _ ?_⟩
  rotate_left
  · (obtain ⟨q0, q1, q2, q3, q4, q5⟩ := HS2.out _ hC; go_simp; first | done | with_reducible rfl | exact ⟨rfl, hC⟩)
  clear hK K
  simp only [Act.put, List.setIfInBounds_toArray, List.set_cons_zero, List.set_cons_succ]
  refine BigFrame.wpQuiet_want (by rfl) fun K hK => ⟨?_, fun w' hC => ?_, hK _ ?_⟩
  rotate_left
  · (obtain ⟨q0, q1, q2, q3, q4, q5⟩ := HS2.out _ hC; go_simp; first | done | with_reducible rfl | exact ⟨rfl, hC⟩)
  clear hK K
  simp only [Act.put, List.setIfInBounds_toArray, List.set_cons_zero, List.set_cons_succ]
  refine BigFrame.wpQuiet_want (by rfl) fun K hK => ⟨?_, fun w' hC => ?_, hK _ ?_⟩
  rotate_left
  · (obtain ⟨q0, q1, q2, q3, q4, q5⟩ := HS2.out _ hC; go_simp; first | done | with_reducible rfl | exact ⟨rfl, hC⟩)
  clear hK K
  simp only [Act.put, List.setIfInBounds_toArray, List.set_cons_zero, List.set_cons_succ]
  refine BigFrame.wpQuiet_want (by rfl) fun K hK => ⟨?_, fun w' hC => ?_, hK _ ?_⟩
  rotate_left
  · (obtain ⟨q0, q1, q2, q3, q4, q5⟩ := HS2.out _ hC; go_simp; first | done | with_reducible rfl | exact ⟨rfl, hC⟩)
  clear hK K
  simp only [Act.put, List.setIfInBounds_toArray, List.set_cons_zero, List.set_cons_succ]
  refine BigFrame.wpQuiet_want (by rfl) fun K hK => ⟨?_, fun w' hC => ?_, hK _ ?_⟩
  rotate_left
  · (obtain ⟨q0, q1, q2, q3, q4, q5⟩ := HS2.out _ hC; go_simp; first | done | with_reducible rfl | exact ⟨rfl, hC⟩)
  clear hK K
  simp only [Act.put, List.setIfInBounds_toArray, List.set_cons_zero, List.set_cons_succ]
  refine BigFrame.wpQuiet_want (by rfl) fun K hK => ⟨?_, fun w' hC => ?_, hK _ ?_⟩
  rotate_left
  · (obtain ⟨q0, q1, q2, q3, q4, q5⟩ := HS2.out _ hC; go_simp; first | done | with_reducible rfl | exact ⟨rfl, hC⟩)
  clear hK K
  simp only [Act.put, List.setIfInBounds_toArray, List.set_cons_zero, List.set_cons_succ]
  refine BigFrame.wpQuiet_want (by rfl) fun K hK => ⟨?_, fun w' hC => ?_, hK _ ?_⟩
  rotate_left
  · (obtain ⟨q0, q1, q2, q3, q4, q5⟩ := HS2.out _ hC; go_simp; first | done | with_reducible rfl | exact ⟨rfl, hC⟩)
  clear hK K
  simp only [Act.put, List.setIfInBounds_toArray, List.set_cons_zero, List.set_cons_succ]
  refine BigFrame.wpQuiet_want (by rfl) fun K hK => ⟨?_, fun w' hC => ?_, hK _ ?_⟩
  rotate_left
  · (obtain ⟨q0, q1, q2, q3, q4, q5⟩ := HS2.out _ hC; go_simp; first | done | with_reducible rfl | exact ⟨rfl, hC⟩)
  clear hK K
  simp only [Act.put, List.setIfInBounds_toArray, List.set_cons_zero, List.set_cons_succ]
  refine BigFrame.wpQuiet_want (by rfl) fun K hK => ⟨?_, fun w' hC => ?_, hK _ ?_⟩
  rotate_left
  · (obtain ⟨q0, q1, q2, q3, q4, q5⟩ := HS2.out _ hC; go_simp; first | done | with_reducible rfl | exact ⟨rfl, hC⟩)
  clear hK K
  simp only [Act.put, List.setIfInBounds_toArray, List.set_cons_zero, List.set_cons_succ]
  refine BigFrame.wpQuiet_want (by rfl) fun K hK => ⟨.int .i64 v, fun w' hC => (by go_simp; refine ((HV1.out w' (HE0.out.drew.trans hC))).mono ?_; rintro e w2 ⟨rfl, hb⟩; exact ⟨rfl, hC.trans hb⟩), hK _ ?_⟩
  clear hK K
  simp only [Act.put, List.setIfInBounds_toArray, List.set_cons_zero, List.set_cons_succ]
  refine BigFrame.wpQuiet_want (by rfl) fun K hK => ⟨?_, fun w' hC => ?_, hK _ ?_⟩
  rotate_left
  · (obtain ⟨q0, q1, q2, q3, q4, q5⟩ := HS2.out _ hC; go_simp; first | done | with_reducible rfl | exact ⟨rfl, hC⟩)
  clear hK K
  simp only [Act.put, List.setIfInBounds_toArray, List.set_cons_zero, List.set_cons_succ]
  refine BigFrame.wpQuiet_want (by rfl) fun K hK => ⟨?_, fun w' hC => ?_, hK _ ?_⟩
  rotate_left
  · (obtain ⟨q0, q1, q2, q3, q4, q5⟩ := HS2.out _ hC; go_simp; first | done | with_reducible rfl | exact ⟨rfl, hC⟩)
  clear hK K
  simp only [Act.put, List.setIfInBounds_toArray, List.set_cons_zero, List.set_cons_succ]
  refine BigFrame.wpQuiet_want (by rfl) fun K hK => ⟨?_, fun w' hC => ?_, hK _ ?_⟩
  rotate_left
  · (obtain ⟨q0, q1, q2, q3, q4, q5⟩ := HS2.out _ hC; go_simp; first | done | with_reducible rfl | exact ⟨rfl, hC⟩)
  clear hK K
  simp only [Act.put, List.setIfInBounds_toArray, List.set_cons_zero, List.set_cons_succ]
  refine wpQuiet_nil ?_
  intro w2 hC2
  have HC2 := Lib.hid hC2
  clear hC2
  go_wp2_with fail
  clear hY2 hw1 HV1 HS2
  have HE2 := Lib.hid (HE0.out.drew.trans HC2.out)
  rw [← HS0.out]
  obtain ⟨W2, hW2⟩ : ∃ W2, w2 = W2 := ⟨_, rfl⟩
  subst hW2
  go_loopw [10, 11, 12] (fun s g i wr => ∃ k : Nat, k ≤ n ∧ i = .int .i64 (k : Int) ∧ s = .int .i64 (bS k) ∧ g = .int .i64 (sgn (k + 1)) ∧ Hid (Ex W0 wr)) (fun _ _ i _ => n - (intOf i).toNat)
  case atStart => exact ⟨0, Nat.zero_le _, rfl, rfl, rfl, Lib.hid ((Ex.refl W0).drew.trans HC2.out)⟩
  case round =>
    obtain ⟨k, hk, rfl, rfl, rfl, HE⟩ := hrel
    have HEw := Lib.hid (HE0.out.trans HE.out)
    by_cases hlt : k < n
    · have hrk := HR.out k (by have := HLL.out; omega)
      have hrk1 := HR.out (k + 1) (by have := HLL.out; omega)
      obtain ⟨a, ha⟩ : ∃ a : Nat, nth Ls k = (a : Int) := ⟨(nth Ls k).toNat, by omega⟩
      obtain ⟨b, hb⟩ : ∃ b : Nat, nth Ls (k + 1) = (b : Int) := ⟨(nth Ls (k + 1)).toNat, by omega⟩
      have haN : a < t.length := by omega
      have hbN : b < t.length := by omega
      have hq := HQ.out.exB HEw.out (Nat.le_refl _)
      have q1 := hq.row_ haN
      have q2 := hq.ent_ haN hbN
      rw [HG.out.ent haN hbN] at q2
      have q3 := HCL.out wr HEw.out k (by omega)
      have q4 := HCL.out wr HEw.out (k + 1) (by omega)
      rw [ha] at q3
      rw [hb] at q4
      have hmg : mgd t Ls k = Ls.take k ++ (mul t a b : Int) :: Ls.drop (k + 2) := by rw [mgd, ha, hb]; rfl
      obtain ⟨z, hz⟩ : ∃ z, mul t a b = z := ⟨_, rfl⟩
      rw [hz] at q2 hmg
      have HMG := Lib.hid hmg
      have hkn : (k : Int) < (n : Int) := by omega
      have hk0 : (0 : Int) ≤ (k : Int) := by omega
      have hkn1 : (k : Int) < (n : Int) + 1 := by omega
      have hke : k ≤ e := by omega
      have hwk : IntKind.i64.wrap ((k : Int) + 1) = (k : Int) + 1 := IntWalk.i64_in _ (by omega)
      have hk10 : (0 : Int) ≤ (k : Int) + 1 := by omega
      have hkn2 : (k : Int) + 1 < (n : Int) + 1 := by omega
      have hkt : ((k : Int) + 1).toNat = k + 1 := by omega
      obtain ⟨dl, hdl1⟩ : ∃ dl, n + 1 - (k + 2) = dl := ⟨_, rfl⟩
      have hdd : (Ls.drop (k + 2)).length = dl := by have := HLL.out; rw [List.length_drop]; omega
      obtain ⟨a2, hA2, hsrc⟩ : ∃ a2 : Addr, (if e = k + 2 then (some ⟨bl, ol, none⟩ : Option Addr) else some ⟨bl, ol + (k + 2), none⟩) = some a2 ∧ Hid (∀ W, Ex w W → ∀ j u, ((Ls.drop (k + 2)).map fun x => Value.int .i64 x)[j]? = some u → W.cell? (a2.add j) = some u) := by
        by_cases he : e = k + 2
        · refine ⟨⟨bl, ol, none⟩, by simp [he], Lib.hid fun W _ j u hj => ?_⟩
          rw [List.length_eq_zero_iff.1 (show (Ls.drop (k + 2)).length = 0 by omega)] at hj
          simp at hj
        · refine ⟨⟨bl, ol + (k + 2), none⟩, by simp [he], Lib.hid fun W hw j u hj => ?_⟩
          rw [List.getElem?_map] at hj
          obtain ⟨y, hy, rfl⟩ := Option.map_eq_some_iff.1 hj
          have hjl := (List.getElem?_eq_some_iff.1 hy).1
          rw [Addr.add_lit, Nat.add_assoc]
          rw [HCL.out W hw (k + 2 + j) (by omega), ← nth_drop]
          simp [nth, hy]
      obtain ⟨news, hnews⟩ : ∃ news, ((Ls.drop (k + 2)).map fun x => Value.int .i64 x) = news := ⟨_, rfl⟩
      rw [hnews] at hsrc
      have HNW := Lib.hid hnews
      have HNL := Lib.hid (show news.length = dl * 1 by rw [← hnews, Nat.mul_one]; simp only [List.length_map]; exact hdd)
      have HN1 := Lib.hid (show ∀ u ∈ news, u.oneCell' = true from fun u h => by
        rw [← hnews] at h
        obtain ⟨x, _, rfl⟩ := List.mem_map.1 h
        rfl)
      clear hnews hdd
      have hC0 := And.intro ((HB0.out.ex HE.out).cell 0) (And.intro q1 (And.intro q2 (And.intro q3 q4)))
      have htk : (Ls.take k).length = k := by have := HLL.out; rw [List.length_take]; omega
      have HOW := Lib.hid (fun W (he : Ex wr W) => l01Own_sl (some ⟨bl, ol, none⟩) (Ls.take k) e W (((HX.out.ex HEw.out).ex he).take k) (by rw [htk]; omega))
      rw [htk] at HOW
      clear hrk hrk1 ha hb hq q1 q2 q3 q4 hmg hz htk
      go_upto_region 6 with (fail)
      go_cut [13] (fun s13 wx => ∃ (g3 : Option Addr) (c3 : Nat), s13 = .slice g3 (k + 1) c3 ∧ Hid (Ex wr wx) ∧ Hid (GrowI wx wr.heap.size (.slice g3 (k + 1) c3) (k + 1) (Ls.take k ++ [(z : Int)])))
      case first =>
        refine Late.region (C := fun w' => w'.cell? ⟨w.heap.size, 0, none⟩ = some (.slice (some ⟨bt, ot, none⟩) t.length c0) ∧ w'.cell? ⟨bt, ot + a, none⟩ = some (.slice (some ⟨bb a, oo a, none⟩) t.length (C a)) ∧ w'.cell? ⟨bb a, oo a + b, none⟩ = some (.int .i64 (z : Int)) ∧ w'.cell? ⟨bl, ol + k, none⟩ = some (.int .i64 (a : Int)) ∧ w'.cell? ⟨bl, ol + (k + 1), none⟩ = some (.int .i64 (b : Int))) (fun _ => true) (by kernel_rfl) hC0 (fun hC => ?_)
        refine Late.take (i := 0) (oi := _) (v := ?_) rfl (by kernel_rfl) (by kernel_rfl) (by kernel_rfl) (by kernel_rfl) (fun _ _ _ h => h) (Or.inl ⟨by rfl, ?_⟩) hC ?_
        rotate_left
        · (intro w hSw; (try dsimp only at hSw); go_simp; first | done | with_reducible rfl)
        simp only [Act.put]
        refine Late.take (i := 1) (oi := _) (v := ?_) rfl (by kernel_rfl) (by kernel_rfl) (by kernel_rfl) (by kernel_rfl) (fun _ _ _ h => h) (Or.inl ⟨by rfl, ?_⟩) hC ?_
        rotate_left
        · (intro w hSw; (try dsimp only at hSw); go_simp; first | done | with_reducible rfl)
        simp only [Act.put]
        refine Late.take (i := 2) (oi := _) (v := ?_) rfl (by kernel_rfl) (by kernel_rfl) (by kernel_rfl) (by kernel_rfl) (fun _ _ _ h => h) (Or.inl ⟨by rfl, ?_⟩) hC ?_
        rotate_left
        · (intro w hSw; (try dsimp only at hSw); go_simp; first | done | with_reducible rfl)
        simp only [Act.put]
        refine Late.take (i := 4) (oi := _) (v := ?_) rfl (by kernel_rfl) (by kernel_rfl) (by kernel_rfl) (by kernel_rfl) (fun _ _ _ h => h) (Or.inl ⟨by rfl, ?_⟩) hC ?_
        rotate_left
        · (intro w hSw; (try dsimp only at hSw); go_simp; first | done | with_reducible rfl)
        simp only [Act.put]
        refine Late.take (i := 5) (oi := _) (v := ?_) rfl (by kernel_rfl) (by kernel_rfl) (by kernel_rfl) (by kernel_rfl) (fun _ _ _ h => h) (Or.inl ⟨by rfl, ?_⟩) hC ?_
        rotate_left
        · (intro w hSw; (try dsimp only at hSw); go_simp; first | done | with_reducible rfl)
        simp only [Act.put]
        refine Late.take (i := 6) (oi := _) (v := ?_) rfl (by kernel_rfl) (by kernel_rfl) (by kernel_rfl) (by kernel_rfl) (fun _ _ _ h => h) (Or.inl ⟨by rfl, ?_⟩) hC ?_
        rotate_left
        · (intro w hSw; (try dsimp only at hSw); go_simp; first | done | with_reducible rfl)
        simp only [Act.put]
        refine Late.take (i := 7) (oi := _) (v := ?_) rfl (by kernel_rfl) (by kernel_rfl) (by kernel_rfl) (by kernel_rfl) (fun _ _ _ h => h) (Or.inl ⟨by rfl, ?_⟩) hC ?_
        rotate_left
        · (intro w hSw; (try dsimp only at hSw); go_simp; first | done | with_reducible rfl)
        simp only [Act.put]
        refine Late.take (i := 8) (oi := _) (v := ?_) rfl (by kernel_rfl) (by kernel_rfl) (by kernel_rfl) (by kernel_rfl) (fun _ _ _ h => h) (Or.inl ⟨by rfl, ?_⟩) hC ?_
        rotate_left
        · (intro w hSw; (try dsimp only at hSw); go_simp; first | done | with_reducible rfl)
        simp only [Act.put]
        refine Late.take (i := 9) (oi := _) (v := ?_) rfl (by kernel_rfl) (by kernel_rfl) (by kernel_rfl) (by kernel_rfl) (fun _ _ _ h => h) (Or.inl ⟨by rfl, ?_⟩) hC ?_
        rotate_left
        · (intro w hSw; (try dsimp only at hSw); go_simp; first | done | with_reducible rfl)
        simp only [Act.put]
        refine Late.take (i := 10) (oi := _) (v := ?_) rfl (by kernel_rfl) (by kernel_rfl) (by kernel_rfl) (by kernel_rfl) (fun _ _ _ h => h) (Or.inl ⟨by rfl, ?_⟩) hC ?_
        rotate_left
        · (intro w hSw; (try dsimp only at hSw); go_simp; first | done | with_reducible rfl)
        simp only [Act.put]
        refine Late.take (i := 11) (oi := _) (v := ?_) rfl (by kernel_rfl) (by kernel_rfl) (by kernel_rfl) (by kernel_rfl) (fun _ _ _ h => h) (Or.inl ⟨by rfl, ?_⟩) hC ?_
        rotate_left
        · (intro w hSw; (try dsimp only at hSw); go_simp; first | done | with_reducible rfl)
        simp only [Act.put]
        refine Late.take (i := 12) (oi := _) (v := ?_) rfl (by kernel_rfl) (by kernel_rfl) (by kernel_rfl) (by kernel_rfl) (fun _ _ _ h => h) (Or.inl ⟨by rfl, ?_⟩) hC ?_
        rotate_left
        · (intro w hSw; (try dsimp only at hSw); go_simp; first | done | with_reducible rfl)
        simp only [Act.put]
        refine Late.take (i := 13) (oi := _) (v := ?_) rfl (by kernel_rfl) (by kernel_rfl) (by kernel_rfl) (by kernel_rfl) (fun _ _ _ h => h) (Or.inl ⟨by rfl, ?_⟩) hC ?_
        rotate_left
        · (intro w hSw; (try dsimp only at hSw); go_simp; first | done | with_reducible rfl)
        simp only [Act.put]
        refine Late.take (i := 14) (oi := _) (v := ?_) rfl (by kernel_rfl) (by kernel_rfl) (by kernel_rfl) (by kernel_rfl) (fun _ _ _ h => h) (Or.inl ⟨by rfl, ?_⟩) hC ?_
        rotate_left
        · (intro w hSw; (try dsimp only at hSw); go_simp; first | done | with_reducible rfl)
        simp only [Act.put]
        refine Late.take (i := 15) (oi := _) (v := ?_) rfl (by kernel_rfl) (by kernel_rfl) (by kernel_rfl) (by kernel_rfl) (fun _ _ _ h => h) (Or.inl ⟨by rfl, ?_⟩) hC ?_
        rotate_left
        · (intro w hSw; (try dsimp only at hSw); go_simp; first | done | with_reducible rfl)
        simp only [Act.put]
        refine Late.take (i := 16) (oi := _) (v := ?_) rfl (by kernel_rfl) (by kernel_rfl) (by kernel_rfl) (by kernel_rfl) (fun _ _ _ h => h) (Or.inl ⟨by rfl, ?_⟩) hC ?_
        rotate_left
        · (intro w hSw; (try dsimp only at hSw); go_simp; first | done | with_reducible rfl)
        simp only [Act.put]
        refine Late.take (i := 17) (oi := _) (v := ?_) rfl (by kernel_rfl) (by kernel_rfl) (by kernel_rfl) (by kernel_rfl) (fun _ _ _ h => h) (Or.inl ⟨by rfl, ?_⟩) hC ?_
        rotate_left
        · (intro w hSw; (try dsimp only at hSw); go_simp; first | done | with_reducible rfl)
        simp only [Act.put]
        refine Late.take (i := 18) (oi := _) (v := ?_) rfl (by kernel_rfl) (by kernel_rfl) (by kernel_rfl) (by kernel_rfl) (fun _ _ _ h => h) (Or.inl ⟨by rfl, ?_⟩) hC ?_
        rotate_left
        · (intro w hSw; (try dsimp only at hSw); go_simp; first | done | with_reducible rfl)
        simp only [Act.put]
        have HC0K := Lib.hid hC0
        clear hC0
        refine Late.two (i := 3) (j := 19) (oi := _) (oj := _) (by kernel_rfl) rfl rfl (fun K' hK' => ?_) (fun K' hK' => ?_)
        · go_simp
          refine (HOW.out wr.drew (Ex.refl wr).drew).mono ?_
          rintro e1 W1 ⟨A1, n1, rfl, he1, hg1⟩
          have hx1 : Ex wr W1 := (Ex.refl wr).drew.trans he1
          have hh : ∀ (P : Addr) (V : Value), wr.cell? P = some V → W1.cell? P = some V := fun P V h => (hx1.below.cell (p := P) (World.block_lt_of_cell? _ _ h)).trans h
          have hC1 := And.intro (hh _ _ HC0K.out.1) (And.intro (hh _ _ HC0K.out.2.1) (And.intro (hh _ _ HC0K.out.2.2.1) (And.intro (hh _ _ HC0K.out.2.2.2.1) (hh _ _ HC0K.out.2.2.2.2))))
          refine hK'.out _ _ (fun _ => hC1) (fun _ => ?_)
          clear hK' K' hh hC he1
          try simp only [Act.put]
          refine Late.one (i := 19) (o := _) (by kernel_rfl) rfl (fun K' hK' => ?_)
          go_simp
          have hen := Ex.new W1 (.cells #[.int .i64 (z : Int)] 2)
          have g1 := hg1.ex hen
          have hn1 := cell_one_new W1 (.int .i64 (z : Int)) 2
          have hxw := hx1.trans hen
          have hh : ∀ (P : Addr) (V : Value), W1.cell? P = some V → (W1.alloc (.cells #[.int .i64 (z : Int)] 2)).cell? P = some V := fun P V h => (hen.below.cell (p := P) (World.block_lt_of_cell? _ _ h)).trans h
          have hC2 := And.intro (hh _ _ hC1.1) (And.intro (hh _ _ hC1.2.1) (And.intro (hh _ _ hC1.2.2.1) (And.intro (hh _ _ hC1.2.2.2.1) (hh _ _ hC1.2.2.2.2))))
          refine hK'.out _ _ (fun _ => hC2) (fun _ => ?_)
          clear hK' K' hh hC1 hg1 hen hC2
          have hz1 : W1.heap.size + 1 = (W1.alloc (.cells #[.int .i64 (z : Int)] 2)).heap.size := by simp
          generalize W1.alloc (.cells #[.int .i64 (z : Int)] 2) = w1 at *
          try simp only [Act.put]
          refine Late.one (i := 20) (o := _) (by kernel_rfl) rfl (fun K' hK' => ?_)
          rw [if_pos (by rfl)]
          refine wp_append_own _ _ _ 25 rfl wr.heap.size 2 i0 (.int .i64 0) 1 8 Tryz.underlying25 hi hi0 hi1 hi2 rfl (by decide) _ _ _ rfl g1.1 ⟨W1.heap.size, 0, none⟩ 1 1 [.int .i64 (z : Int)] rfl rfl hn1 (by simp [Value.oneCell']) (by unfold maxLen; omega) (by omega) (by have := hxw.size; omega) ?_
          intro v' w3 hown3 hgrow3 _
          obtain ⟨g3, cap3, rfl⟩ := ownsRow_succ hown3
          have hx3 : Ex wr w3 := Ex.grew hxw g1 (Nat.le_refl _) hgrow3
          have HG3 := Lib.hid (g1.snoc hown3)
          have HXR := Lib.hid hx3
          have hh3 : ∀ (P : Addr) (V : Value), wr.cell? P = some V → w3.cell? P = some V := fun P V h => (hx3.below.cell (p := P) (World.block_lt_of_cell? _ _ h)).trans h
          have hC3 := And.intro (hh3 _ _ HC0K.out.1) (And.intro (hh3 _ _ HC0K.out.2.1) (And.intro (hh3 _ _ HC0K.out.2.2.1) (And.intro (hh3 _ _ HC0K.out.2.2.2.1) (hh3 _ _ HC0K.out.2.2.2.2))))
          refine hK'.out _ _ (fun _ => hC3) (fun _ => ?_)
          clear hK' K' hown3 hgrow3 g1 hn1 hxw hx3 hh3
          try simp only [Act.put]
          refine Late.one (i := 21) (o := _) (by kernel_rfl) rfl (fun K' hK' => ?_)
          go_simp
          refine hK'.out _ _ (fun _ => hC3) (fun _ => ?_)
          clear hK' K' hC3
          refine Late.done (by kernel_rfl) ?_ _
          go_wp2_with fail
          go_meet
          exact ⟨_, _, rfl, HXR, HG3⟩
        · go_simp
          have hen := Ex.new wr (.cells #[.int .i64 (z : Int)] 2)
          have hh : ∀ (P : Addr) (V : Value), wr.cell? P = some V → (wr.alloc (.cells #[.int .i64 (z : Int)] 2)).drew.cell? P = some V := fun P V h => (hen.drew.below.cell (p := P) (World.block_lt_of_cell? _ _ h)).trans h
          have hC1 := And.intro (hh _ _ HC0K.out.1) (And.intro (hh _ _ HC0K.out.2.1) (And.intro (hh _ _ HC0K.out.2.2.1) (And.intro (hh _ _ HC0K.out.2.2.2.1) (hh _ _ HC0K.out.2.2.2.2))))
          have hn0 := cell_one_new wr (.int .i64 (z : Int)) 2
          have hz1 : wr.heap.size + 1 = (wr.alloc (.cells #[.int .i64 (z : Int)] 2)).drew.heap.size := by simp
          have hzr := Lib.hid hen
          refine hK'.out _ _ (fun _ => hC1) (fun _ => ?_)
          clear hK' K' hh hC
          obtain ⟨W1, hW1⟩ : ∃ W1, (wr.alloc (.cells #[.int .i64 (z : Int)] 2)).drew = W1 := ⟨_, rfl⟩
          have hx1 : Ex wr W1 := by rw [← hW1]; exact hen.drew
          have hp1 : W1.cell? ⟨wr.heap.size, 0, none⟩ = some (.int .i64 (z : Int)) := by rw [← hW1]; exact (Has.new wr 2 #[.int .i64 (z : Int)]).cell 0
          rw [hW1] at hC1 hz1 ⊢
          clear hW1 hen hn0 hzr
          try simp only [Act.put]
          refine Late.one (i := 3) (o := _) (by kernel_rfl) rfl (fun K' hK' => ?_)
          go_simp
          refine (HOW.out W1 hx1).mono ?_
          rintro e1 w1 ⟨A1, n1, rfl, he1, hg1⟩
          have hxw := hx1.trans he1
          have hh : ∀ (P : Addr) (V : Value), W1.cell? P = some V → w1.cell? P = some V := fun P V h => (he1.below.cell (p := P) (World.block_lt_of_cell? _ _ h)).trans h
          have hC2 := And.intro (hh _ _ hC1.1) (And.intro (hh _ _ hC1.2.1) (And.intro (hh _ _ hC1.2.2.1) (And.intro (hh _ _ hC1.2.2.2.1) (hh _ _ hC1.2.2.2.2))))
          have g1 := hg1.lowS (show wr.heap.size ≤ W1.heap.size from hx1.size)
          have hn1 : ∀ j u, [Value.int .i64 (z : Int)][j]? = some u → w1.cell? ((⟨wr.heap.size, 0, none⟩ : Addr).add j) = some u := fun j u hj => by
            obtain rfl : j = 0 := by
              have := (List.getElem?_eq_some_iff.1 hj).1
              simpa using this
            rw [← hj]
            exact hh _ _ hp1
          refine hK'.out _ _ (fun _ => hC2) (fun _ => ?_)
          clear hK' K' hh hC1 hg1 he1 hC2 hx1 hp1 hz1
          try simp only [Act.put]
          refine Late.one (i := 20) (o := _) (by kernel_rfl) rfl (fun K' hK' => ?_)
          rw [if_pos (by rfl)]
          refine wp_append_own _ _ _ 25 rfl wr.heap.size 2 i0 (.int .i64 0) 1 8 Tryz.underlying25 hi hi0 hi1 hi2 rfl (by decide) _ _ _ rfl g1.1 ⟨wr.heap.size, 0, none⟩ 1 1 [.int .i64 (z : Int)] rfl rfl hn1 (by simp [Value.oneCell']) (by unfold maxLen; omega) (by omega) (by have := hxw.size; omega) ?_
          intro v' w3 hown3 hgrow3 _
          obtain ⟨g3, cap3, rfl⟩ := ownsRow_succ hown3
          have hx3 : Ex wr w3 := Ex.grew hxw g1 (Nat.le_refl _) hgrow3
          have HG3 := Lib.hid (g1.snoc hown3)
          have HXR := Lib.hid hx3
          have hh3 : ∀ (P : Addr) (V : Value), wr.cell? P = some V → w3.cell? P = some V := fun P V h => (hx3.below.cell (p := P) (World.block_lt_of_cell? _ _ h)).trans h
          have hC3 := And.intro (hh3 _ _ HC0K.out.1) (And.intro (hh3 _ _ HC0K.out.2.1) (And.intro (hh3 _ _ HC0K.out.2.2.1) (And.intro (hh3 _ _ HC0K.out.2.2.2.1) (hh3 _ _ HC0K.out.2.2.2.2))))
          refine hK'.out _ _ (fun _ => hC3) (fun _ => ?_)
          clear hK' K' hown3 hgrow3 g1 hn1 hxw hx3 hh3
          try simp only [Act.put]
          refine Late.one (i := 21) (o := _) (by kernel_rfl) rfl (fun K' hK' => ?_)
          go_simp
          refine hK'.out _ _ (fun _ => hC3) (fun _ => ?_)
          clear hK' K' hC3
          refine Late.done (by kernel_rfl) ?_ _
          go_wp2_with fail
          go_meet
          exact ⟨_, _, rfl, HXR, HG3⟩
      obtain ⟨w3, rfl⟩ : ∃ x : World, x = wc := ⟨_, rfl⟩
      obtain ⟨g3, cap3, rfl, HXR, HG3⟩ := hcut
      have HX3 := Lib.hid (HE.out.trans HXR.out)
      have HX3w := Lib.hid (HEw.out.trans HXR.out)
      clear hC0 HOW
      have hwk2 : IntKind.i64.wrap ((k : Int) + 2) = (k : Int) + 2 := IntWalk.i64_in _ (by omega)
      have hk20 : (0 : Int) ≤ (k : Int) + 2 := by omega
      have hkn3 : (k : Int) + 2 ≤ (n : Int) + 1 := by omega
      have hkt2 : ((k : Int) + 2).toNat = k + 2 := by omega
      have hdl2 : n - (k + 1) = dl := by omega
      have HSRC := Lib.hid (hsrc.out w3 HX3w.out)
      clear hwk hk10 hkn2 hkt hsrc
      go_wp2_with (at_builtin; refine wpList_append_own _ rfl _ _ 25 rfl wr.heap.size 2 i0 (.int .i64 0) 1 8 Tryz.underlying25 hi hi0 hi1 hi2 rfl (by decide) _ (k + 1) _ rfl HG3.out.1 a2 dl _ news rfl HNL.out HSRC.out HN1.out (by unfold maxLen; omega) (by omega) HXR.out.size ?_; intro v4 w4 hown4 hgrow4 _; have hx4 : Ex W0 w4 := Ex.grew HX3.out HG3.out HE.out.size hgrow4; have HX4 := Lib.hid hx4; have HX4w : Hid (Ex w w4) := Lib.hid (Ex.grew HX3w.out HG3.out HEw.out.size hgrow4); have k0 := (HB0.out.ex hx4).cell 0; have k2 := (HB2.out.ex hx4).cell 0; have k2' := (HB2.out.ex hx4).cell 1; have HO4 := Lib.hid hown4; clear hown4 hgrow4 hx4)
      have hgr4 : GrowI w4 wr.heap.size v4 (k + 1 + dl) (mgd t Ls k) := by
        refine ⟨?_, by rw [mgd_len (by have := HLL.out; omega)]; have := HLL.out; omega⟩
        rw [HMG.out, show Ls.take k ++ (z : Int) :: Ls.drop (k + 2) = Ls.take k ++ [(z : Int)] ++ Ls.drop (k + 2) by simp, List.map_append, HNW.out]
        exact HO4.out
      obtain ⟨A4, n4, e4, hO4⟩ := hgr4.own
      rw [show (mgd t Ls k).length = n by rw [mgd_len (by have := HLL.out; omega)]; have := HLL.out; omega] at e4
      subst e4
      have HV4 := Lib.hid (HAT.out A4 (mgd t Ls k) n4 w4 HX4w.out hO4.ints (by rw [mgd_len (by have := HLL.out; omega)]; have := HLL.out; omega) (mgd_in HG.out HR.out (by have := HLL.out; omega)))
      have hml : (mgd t Ls k).length = n := by rw [mgd_len (by have := HLL.out; omega)]; have := HLL.out; omega
      have hvm := HM1.out k hlt
      have hbk := HB.out k hk
      have hst := HST.out k
      have hsgn : sgn (k + 1 + 1) = -sgn (k + 1) := rfl
      have hor := sgn_or (k + 1)
      have hV4 := HV4.out
      rw [hml] at hV4
      obtain ⟨y, hy⟩ : ∃ y, valR t.length fs (mgd t Ls k) = y := ⟨_, rfl⟩
      obtain ⟨sg, hsg⟩ : ∃ sg, sgn (k + 1) = sg := ⟨_, rfl⟩
      obtain ⟨bk, hbe⟩ : ∃ bk, bS k = bk := ⟨_, rfl⟩
      rw [hy] at hV4 hvm hst
      rw [hsg] at hst hsgn hor
      rw [hbe] at hst hbk
      rw [hsg, hbe]
      have hsy : -11 ≤ sg * y ∧ sg * y ≤ 11 := by rcases hor with h | h <;> rw [h] <;> omega
      have hwa : IntKind.i64.wrap (sg * y) = sg * y := IntWalk.i64_in _ (by omega)
      have hwb : IntKind.i64.wrap (bk + sg * y) = bk + sg * y := IntWalk.i64_in _ (by omega)
      have hwc : IntKind.i64.wrap (-sg) = -sg := IntWalk.i64_in _ (by omega)
      have HSTK := Lib.hid hst
      have HSGN := Lib.hid hsgn
      have HV5 := Lib.hid hV4
      clear hml hvm hst hsgn hV4 hy hsg hbe hO4 hgr4 HV4 HO4
      refine HV5.out.mono ?_
      rintro e5 W5 ⟨rfl, he5⟩
      have HX5 := Lib.hid (HX4.out.trans he5)
      clear he5 k0 k2 k2'
      go_wp2_with fail
      go_roundw
      case rel => exact ⟨k + 1, by omega, by go_num, by rw [HSTK.out], by rw [HSGN.out], HX5⟩
      case measure => simp [intOf]; omega
    · obtain rfl : n = k := by omega
      have hbn := HB.out n (Nat.le_refl _)
      have hor := sgn_or (n + 1)
      have htn : (Ls.take n).length = n := by have := HLL.out; rw [List.length_take]; omega
      have hV6 := fun W (he : Ex wr.drew W) => HAT.out (some ⟨bl, ol, none⟩) (Ls.take n) e W (HEw.out.drew.trans he) ((HX.out.ex (HEw.out.drew.trans he)).take n) htn (HR.out.take n)
      rw [htn] at hV6
      have hbv := HBV.out
      obtain ⟨y, hy⟩ : ∃ y, valR t.length fs (Ls.take n) = y := ⟨_, rfl⟩
      obtain ⟨sg, hsg⟩ : ∃ sg, sgn (n + 1) = sg := ⟨_, rfl⟩
      obtain ⟨bk, hbe⟩ : ∃ bk, bS n = bk := ⟨_, rfl⟩
      rw [hy] at hV6 hvn hbv
      rw [hsg] at hor hbv
      rw [hbe] at hbn hbv
      rw [hsg, hbe]
      have hsy : -11 ≤ sg * y ∧ sg * y ≤ 11 := by rcases hor with h | h <;> rw [h] <;> omega
      have hwa : IntKind.i64.wrap (sg * y) = sg * y := IntWalk.i64_in _ (by omega)
      have hwb : IntKind.i64.wrap (bk + sg * y) = bk + sg * y := IntWalk.i64_in _ (by omega)
      have HMD := Lib.hid (fun W => l01Mod_e (bk + sg * y) M W (by omega) hM12 (by omega) (by omega))
      obtain ⟨z, hz⟩ : ∃ z, (bk + sg * y) % (M : Int) = z := ⟨_, rfl⟩
      rw [hz] at HMD hbv
      have HZ := Lib.hid hbv
      have HV6 := Lib.hid hV6
      have hne : n ≤ e := by omega
      have HS6 := Lib.hid (fun W' (he : Ex wr.drew W') => And.intro ((HB0.out.ex (HE.out.drew.trans he)).cell 0) (And.intro ((HB1.out.ex (HE.out.drew.trans he)).cell 0) (And.intro ((HB2.out.ex (HE.out.drew.trans he)).cell 0) ((HB2.out.ex (HE.out.drew.trans he)).cell 1))))
      clear hbn hor htn hV6 hbv hy hsg hbe hz hsy hvn
      go_wp2_with fail
      refine wp_region_quiet (C := fun w' => Ex wr.drew w') (by kernel_rfl) (by kernel_rfl) (Ex.refl _) ?_
      refine BigFrame.wpQuiet_want (by rfl) fun K hK => ⟨?_, fun w' hC => ?_, hK _ ?_⟩
      rotate_left
      · (obtain ⟨q0, q1, q2, q3⟩ := HS6.out _ hC; go_simp; first | done | with_reducible rfl | exact ⟨rfl, hC⟩)
      clear hK K
      simp only [Act.put, List.setIfInBounds_toArray, List.set_cons_zero, List.set_cons_succ]
      refine BigFrame.wpQuiet_want (by rfl) fun K hK => ⟨?_, fun w' hC => ?_, hK _ ?_⟩
      rotate_left
      · (obtain ⟨q0, q1, q2, q3⟩ := HS6.out _ hC; go_simp; first | done | with_reducible rfl | exact ⟨rfl, hC⟩)
      clear hK K
      simp only [Act.put, List.setIfInBounds_toArray, List.set_cons_zero, List.set_cons_succ]
      refine BigFrame.wpQuiet_want (by rfl) fun K hK => ⟨?_, fun w' hC => ?_, hK _ ?_⟩
      rotate_left
      · (obtain ⟨q0, q1, q2, q3⟩ := HS6.out _ hC; go_simp; first | done | with_reducible rfl | exact ⟨rfl, hC⟩)
      clear hK K
      simp only [Act.put, List.setIfInBounds_toArray, List.set_cons_zero, List.set_cons_succ]
      refine BigFrame.wpQuiet_want (by rfl) fun K hK => ⟨?_, fun w' hC => ?_, hK _ ?_⟩
      rotate_left
      · (obtain ⟨q0, q1, q2, q3⟩ := HS6.out _ hC; go_simp; first | done | with_reducible rfl | exact ⟨rfl, hC⟩)
      clear hK K
      simp only [Act.put, List.setIfInBounds_toArray, List.set_cons_zero, List.set_cons_succ]
      refine BigFrame.wpQuiet_want (by rfl) fun K hK => ⟨?_, fun w' hC => ?_, hK _ ?_⟩
      rotate_left
      · (obtain ⟨q0, q1, q2, q3⟩ := HS6.out _ hC; go_simp; first | done | with_reducible rfl | exact ⟨rfl, hC⟩)
      clear hK K
      simp only [Act.put, List.setIfInBounds_toArray, List.set_cons_zero, List.set_cons_succ]
      refine BigFrame.wpQuiet_want (by rfl) fun K hK => ⟨?_, fun w' hC => ?_, hK _ ?_⟩
      rotate_left
      · (obtain ⟨q0, q1, q2, q3⟩ := HS6.out _ hC; go_simp; first | done | with_reducible rfl | exact ⟨rfl, hC⟩)
      clear hK K
      simp only [Act.put, List.setIfInBounds_toArray, List.set_cons_zero, List.set_cons_succ]
      refine BigFrame.wpQuiet_want (by rfl) fun K hK => ⟨?_, fun w' hC => ?_, hK _ ?_⟩
      rotate_left
      · (obtain ⟨q0, q1, q2, q3⟩ := HS6.out _ hC; go_simp; first | done | with_reducible rfl | exact ⟨rfl, hC⟩)
      clear hK K
      simp only [Act.put, List.setIfInBounds_toArray, List.set_cons_zero, List.set_cons_succ]
      refine BigFrame.wpQuiet_want (by rfl) fun K hK => ⟨.int .i64 y, fun w' hC => (by go_simp; refine ((HV6.out w' hC)).mono ?_; rintro e w2 ⟨rfl, hb⟩; exact ⟨rfl, hC.trans hb⟩), hK _ ?_⟩
      clear hK K
      simp only [Act.put, List.setIfInBounds_toArray, List.set_cons_zero, List.set_cons_succ]
      refine BigFrame.wpQuiet_want (by rfl) fun K hK => ⟨?_, fun w' hC => ?_, hK _ ?_⟩
      rotate_left
      · (obtain ⟨q0, q1, q2, q3⟩ := HS6.out _ hC; go_simp; first | done | with_reducible rfl | exact ⟨rfl, hC⟩)
      clear hK K
      simp only [Act.put, List.setIfInBounds_toArray, List.set_cons_zero, List.set_cons_succ]
      refine BigFrame.wpQuiet_want (by rfl) fun K hK => ⟨?_, fun w' hC => ?_, hK _ ?_⟩
      rotate_left
      · (obtain ⟨q0, q1, q2, q3⟩ := HS6.out _ hC; go_simp; first | done | with_reducible rfl | exact ⟨rfl, hC⟩)
      clear hK K
      simp only [Act.put, List.setIfInBounds_toArray, List.set_cons_zero, List.set_cons_succ]
      refine BigFrame.wpQuiet_want (by rfl) fun K hK => ⟨?_, fun w' hC => ?_, hK _ ?_⟩
      rotate_left
      · (obtain ⟨q0, q1, q2, q3⟩ := HS6.out _ hC; go_simp; first | done | with_reducible rfl | exact ⟨rfl, hC⟩)
      clear hK K
      simp only [Act.put, List.setIfInBounds_toArray, List.set_cons_zero, List.set_cons_succ]
      refine BigFrame.wpQuiet_want (by rfl) fun K hK => ⟨?_, fun w' hC => ?_, hK _ ?_⟩
      rotate_left
      · (obtain ⟨q0, q1, q2, q3⟩ := HS6.out _ hC; go_simp; first | done | with_reducible rfl | exact ⟨rfl, hC⟩)
      clear hK K
      simp only [Act.put, List.setIfInBounds_toArray, List.set_cons_zero, List.set_cons_succ]
      refine BigFrame.wpQuiet_want (by rfl) fun K hK => ⟨.int .i64 z, fun w' hC => (by go_simp; refine ((HMD.out w')).mono ?_; rintro e w2 ⟨rfl, hb⟩; exact ⟨rfl, hC.trans hb⟩), hK _ ?_⟩
      clear hK K
      simp only [Act.put, List.setIfInBounds_toArray, List.set_cons_zero, List.set_cons_succ]
      refine BigFrame.wpQuiet_want (by rfl) fun K hK => ⟨?_, fun w' hC => ?_, hK _ ?_⟩
      rotate_left
      · (obtain ⟨q0, q1, q2, q3⟩ := HS6.out _ hC; go_simp; first | done | with_reducible rfl | exact ⟨rfl, hC⟩)
      clear hK K
      simp only [Act.put, List.setIfInBounds_toArray, List.set_cons_zero, List.set_cons_succ]
      refine wpQuiet_nil ?_
      intro w2 hC2
      have HC2 := Lib.hid hC2
      clear hC2
      go_wp2_with fail
      go_ret
      exact ⟨by rw [HZ.out]; rfl, HEw.out.drew.trans HC2.out⟩

end Go.Proofs.YtcdijeeabgmgmaaGreatDoor
