/- ConjugateSubgroup: both contracts. -/
import Derived.Test.YtfnjpbjlikajbaaGreatDoorSub
import Derived.Test.YtfnjpbjlikajbaaGreatDoorCel
import Derived.Test.YtfnjpbjlikajbaaGreatDoorMvt
import Derived.Test.YtfnjpbjlikajbaaGreatDoorMz
namespace Go.Proofs.YtfnjpbjlikajbaaGreatDoor
open Go.RowKit Go.Shelf

attribute [local go_sem] Oper.semAt_some

/-- The conjugates of the elements of a list, in its order; the same, ascending. -/
noncomputable def conL (t : List (List Int)) (xs : List Int) (c : Nat) : List Int := (List.range xs.length).map fun j => (con t (nth xs j).toNat c : Int)
theorem conL_len (t : List (List Int)) (xs : List Int) (c : Nat) : (conL t xs c).length = xs.length := by simp [conL]
theorem conL_nth {t : List (List Int)} {xs : List Int} {c j : Nat} (h : j < xs.length) : nth (conL t xs c) j = (con t (nth xs j).toNat c : Int) := by simp [nth, conL, h]
theorem conL_in {t : List (List Int)} {xs : List Int} {c : Nat} (hg : IsGrp t) (hc : c < t.length) (hr : ∀ i, i < xs.length → 0 ≤ nth xs i ∧ nth xs i < t.length) : ∀ i, i < (conL t xs c).length → 0 ≤ nth (conL t xs c) i ∧ nth (conL t xs c) i < t.length := fun i hi => by
  rw [conL_len] at hi
  have h := hr i hi
  have := con_lt hg (show (nth xs i).toNat < t.length by omega) hc
  rw [conL_nth hi]
  omega
noncomputable def cjS (t : List (List Int)) (xs : List Int) (c : Nat) : Nat := bitsK (conL t xs c) xs.length
noncomputable def cjL (t : List (List Int)) (xs : List Int) (c : Nat) : List Int := elI (cjS t xs c)
theorem cjS_lt {t : List (List Int)} {xs : List Int} {c : Nat} (hg : IsGrp t) (hc : c < t.length) (hr : ∀ i, i < xs.length → 0 ≤ nth xs i ∧ nth xs i < t.length) : cjS t xs c < 2 ^ t.length :=
  bitsK_lt (conL_in hg hc hr) _ (by rw [conL_len]; exact Nat.le_refl _)
noncomputable def yConjugateSubgroup0 (t : List (List Int)) (xs : List Int) (c : Int) : List Int := if sgC t xs [c] = 0 then cjL t xs c.toNat else []
noncomputable def qConjugateSubgroup1 (t : List (List Int)) (xs : List Int) (c : Int) : Int := sgC t xs [c]
section
variable {t : List (List Int)} {xs : List Int} {c : Int}
theorem cjo_no {z : Int} (h : sgC t xs [c] = z) (hz : z ≠ 0) : yConjugateSubgroup0 t xs c = [] ∧ qConjugateSubgroup1 t xs c = z := by simp [yConjugateSubgroup0, qConjugateSubgroup1, h, hz]
theorem cjo_yes {m : Nat} (h : sgC t xs [(m : Int)] = 0) : yConjugateSubgroup0 t xs (m : Int) = cjL t xs m ∧ qConjugateSubgroup1 t xs (m : Int) = 0 := by simp [yConjugateSubgroup0, qConjugateSubgroup1, h]
theorem elI_len8 {s : Nat} (h : s < 256) : (elI s).length ≤ 8 := by
  have := elN_len s h
  simpa [elI] using this
theorem below_one {N : Nat} (h : belowB (N : Int) [c] = true) : ∃ m : Nat, c = (m : Int) ∧ m < N := by
  have h1 := belowB_inR h 0 (by simp)
  have h2 : nth [c] 0 = c := rfl
  rw [h2] at h1
  exact ⟨c.toNat, by omega, by omega⟩
theorem conjugateSubgroup_small0 (t : List (List Int)) (xs : List Int) (c : Int) : (yConjugateSubgroup0 t xs c).length ≤ 1048576 := by
  unfold yConjugateSubgroup0
  split
  · rename_i h
    obtain ⟨hg, hb, he, -⟩ := sgC_zero h
    obtain ⟨m, rfl, hm⟩ := below_one he
    have := elI_len8 (lt256 hg.n8 (cjS_lt hg hm (setB_true.1 hb).1))
    unfold cjL
    rw [Int.toNat_natCast]
    omega
  · simp
end

set_option maxHeartbeats 1000000 in
theorem cje_ex (Bg Bc : Nat) (A : Option Addr) (t : List (List Int)) (c x b : Nat) (w : World) (hG : Has w Bg 36 #[.slice A t.length c]) (hB : Has w Bc 2 #[.int .i64 (b : Int)]) (hR : RwsW w A t) (hg : IsGrp t) (hx : x < t.length) (hb : b < t.length) :
    Calls Tryz.prog 103 #[.int .i64 (x : Int), .pointer (some ⟨Bg, 0, none⟩), .pointer (some ⟨Bc, 0, none⟩)] w fun e w' => e = .returned (.int .i64 (con t x b : Int)) ∧ Ex w w' := by
  have HC := Lib.hid (conjugateOf_any A t c x b w hR hg hx hb)
  have c0 := hG.cell 0
  have c1 := hB.cell 0
  clear hG hB hR hg
  go_enter Tryz.func103, Tryz.ntmps103
  go_wp2_with fail
  refine HC.out.mono ?_
  rintro e' w' ⟨rfl, he⟩
  have HE := Lib.hid he
  clear he
  go_wp2_with fail
  go_ret
  exact ⟨rfl, HE.out⟩

set_option maxRecDepth 100000 in
set_option maxHeartbeats 2000000 in
theorem conjugateElements_any (A L : Option Addr) (t : List (List Int)) (xs : List Int) (c c' m : Nat) (w : World) (hR : RwsW w A t) (hX : IntsW w L xs) (hg : IsGrp t) (hr : ∀ i, i < xs.length → 0 ≤ nth xs i ∧ nth xs i < t.length) (hu : xs.length ≤ 1048576) (hm : m < t.length) (hT : TabL w) :
    Calls Tryz.prog 64 #[.agg #[.slice A t.length c], .slice L xs.length c', .int .i64 (m : Int)] w fun e w' => ∃ C0 e0, e = .returned (.slice C0 (cjL t xs m).length e0) ∧ Ex w w' ∧ OwnL w' w.heap.size w'.heap.size C0 (cjL t xs m) := by
  have e0 : Ex w ((w.alloc (.cells #[.slice A t.length c] 36)).alloc (.cells #[.int .i64 (m : Int)] 2)) := ((Ex.refl w).alloc _).alloc _
  have b0 : Has ((w.alloc (.cells #[.slice A t.length c] 36)).alloc (.cells #[.int .i64 (m : Int)] 2)) (w.heap.size) 36 #[.slice A t.length c] := ((Has.newAt (w := w) (e := 36) (cs := #[.slice A t.length c]) (k := w.heap.size) (by simp)).alloc _)
  have b1 : Has ((w.alloc (.cells #[.slice A t.length c] 36)).alloc (.cells #[.int .i64 (m : Int)] 2)) (w.heap.size + 1) 2 #[.int .i64 (m : Int)] := (Has.newAt (w := (w.alloc (.cells #[.slice A t.length c] 36))) (e := 2) (cs := #[.int .i64 (m : Int)]) (k := w.heap.size + 1) (by simp))
  have hmf : ∀ (fn : Fn) (first cap : Array Value) (w : World), (Instr.makeFunc fn first cap).run Tryz.prog w = .ok (.func fn first cap) w := fun _ _ _ _ => rfl
  have hn8 := hg.n8
  have HML : Hid (Calls Tryz.prog 102 #[.slice L xs.length c', .func (.func 103) #[] #[.pointer (some ⟨w.heap.size, 0, none⟩), .pointer (some ⟨w.heap.size + 1, 0, none⟩)]] ((w.alloc (.cells #[.slice A t.length c] 36)).alloc (.cells #[.int .i64 (m : Int)] 2)) fun e w' => ∃ C0 e0, e = .returned (.slice C0 (conL t xs m).length e0) ∧ Ex ((w.alloc (.cells #[.slice A t.length c] 36)).alloc (.cells #[.int .i64 (m : Int)] 2)) w' ∧ OwnL w' ((w.alloc (.cells #[.slice A t.length c] 36)).alloc (.cells #[.int .i64 (m : Int)] 2)).heap.size w'.heap.size C0 (conL t xs m)) := Lib.hid (mappedList_any L xs c' 103 #[.pointer (some ⟨w.heap.size, 0, none⟩), .pointer (some ⟨w.heap.size + 1, 0, none⟩)] (fun j => (con t (nth xs j).toNat m : Int)) _ (hX.ex e0) hu
    (enters_of Tryz.func103 (by kernel_rfl) rfl)
    (fun W' he j hj => by
      have h := hr j hj
      rw [show nth xs j = ((nth xs j).toNat : Int) by omega, Int.toNat_natCast]
      exact cje_ex w.heap.size (w.heap.size + 1) A t c _ m W' (b0.ex he) (b1.ex he) (hR.ex (e0.trans he)) hg (by omega) hm))
  have hin := conL_in hg hm hr
  have HSO := Lib.hid (fun (X : Option Addr) (e : Nat) W (hX : IntsW W X (conL t xs m)) => setOf_any X (conL t xs m) e t.length W hX (by rw [conL_len]; exact hu) hn8 hin)
  have hlt := lt256 hn8 (cjS_lt hg hm hr)
  have HSL := Lib.hid (fun W (hT : TabL W) => setList_any (cjS t xs m) W hlt hT)
  have HT := Lib.hid (hT.ex e0)
  rw [conL_len] at HML HSO
  rw [show bitsK (conL t xs m) xs.length = cjS t xs m from rfl] at HSO
  have HE0 := Lib.hid e0
  have hcl : Hid (elI (cjS t xs m) = cjL t xs m) := Lib.hid rfl
  rw [hcl.out] at HSL
  obtain ⟨ys, hys⟩ : ∃ ys, cjL t xs m = ys := ⟨_, rfl⟩
  obtain ⟨s, hs⟩ : ∃ s, cjS t xs m = s := ⟨_, rfl⟩
  obtain ⟨zs, hzs⟩ : ∃ zs, conL t xs m = zs := ⟨_, rfl⟩
  rw [hys, hs] at HSL
  rw [hs, hzs] at HSO
  rw [hzs] at HML
  rw [hys]
  clear hX hR hg hr hu hm hT hn8 hin hlt hcl hys hs hzs
  go_enter Tryz.func64, Tryz.ntmps64
  go_wp2_with fail
  generalize ((w.alloc (.cells #[.slice A t.length c] 36)).alloc (.cells #[.int .i64 (m : Int)] 2)) = W0 at *
  refine HML.out.mono ?_
  rintro e W1 ⟨X, e1, rfl, he1, ho1⟩
  have HX1 := Lib.hid ho1.ints
  have HE1 := Lib.hid (HE0.out.trans he1)
  have HT1 := Lib.hid (HT.out.ex he1)
  clear e0 b0 b1 he1 ho1 HML
  go_wp2_with fail
  refine (HSO.out X e1 W1 HX1.out).mono ?_
  rintro e w' ⟨rfl, rfl⟩
  go_wp2_with fail
  refine (HSL.out W1 HT1.out).mono ?_
  rintro e W3 ⟨A', c2, rfl, he3, ho3⟩
  have HE3 := Lib.hid (HE1.out.trans he3)
  have HO3 := Lib.hid (ho3.mono HE1.out.size (Nat.le_refl _) (Nat.le_refl _))
  clear he3 ho3
  go_wp2_with fail
  go_ret
  exact ⟨A', c2, rfl, HE3.out, HO3.out⟩

theorem wrap_pow : ∀ z : Nat, z < 8 → IntKind.i64.wrap ((2 : Int) ^ z) = wrap64 (2 ^ z) := by decide +kernel
theorem below1 (N : Nat) (c : Int) : belowB (N : Int) [c] = movB N c := by
  unfold belowB movB inB
  simp only [List.all_cons, List.all_nil, Bool.and_true]
  rw [Bool.eq_iff_iff]
  simp only [Bool.and_eq_true, decide_eq_true_eq]
  omega

set_option maxRecDepth 100000 in
set_option maxHeartbeats 2000000 in
theorem l07Conjugate_any (A L : Option Addr) (t : List (List Int)) (xs : List Int) (c c' m : Nat) (w : World) (hR : RwsW w A t) (hX : IntsW w L xs) (hg : IsGrp t) (hr : ∀ i, i < xs.length → 0 ≤ nth xs i ∧ nth xs i < t.length) (hu : xs.length ≤ 1048576) (hm : m < t.length) :
    Calls Tryz.prog 56 #[.agg #[.slice A t.length c], .slice L xs.length c', .int .i64 (m : Int)] w fun e w' => ∃ C0 e0, e = .returned (.slice C0 (cjL t xs m).length e0) ∧ Ex w w' ∧ OwnL w' w.heap.size w'.heap.size C0 (cjL t xs m) := by
  have e0 : Ex w (w.alloc (.cells #[.slice A t.length c] 36)) := (Ex.refl w).alloc _
  have b0 : Has (w.alloc (.cells #[.slice A t.length c] 36)) (w.heap.size) 36 #[.slice A t.length c] := (Has.newAt (w := w) (e := 36) (cs := #[.slice A t.length c]) (k := w.heap.size) (by simp))
  have hn8 := hg.n8
  have hlt := lt256 hn8 (cjS_lt hg hm hr)
  have hin := conL_in hg hm hr
  have HBL := Lib.hid (fun k (hk : k ≤ xs.length) => lt256 hn8 (bitsK_lt hin k (by rw [conL_len]; exact hk)))
  have HLI := Lib.hid (fun W => l01List_any (cjS t xs m) W hlt)
  have HE0 := Lib.hid e0
  have HB0 := Lib.hid b0
  have HG := Lib.hid hg
  have HRW := Lib.hid (hR.ex e0)
  have HX := Lib.hid (hX.ex e0)
  have HRR := Lib.hid hr
  have HM := Lib.hid hm
  have HCS : Hid (bitsK (conL t xs m) xs.length = cjS t xs m) := Lib.hid rfl
  have HCL : Hid (elI (cjS t xs m) = cjL t xs m) := Lib.hid rfl
  clear hR hX hg hr hm e0 b0 hlt hin
  go_enter Tryz.func56, Tryz.ntmps56
  go_wp2_with fail
  generalize (w.alloc (.cells #[.slice A t.length c] 36)) = W0 at *
  go_loopw [7, 8] (fun s i wr => ∃ k : Nat, k ≤ xs.length ∧ i = .int .i64 (k : Int) ∧ s = .int .i64 (bitsK (conL t xs m) k : Int) ∧ Hid (Ex W0 wr)) (fun _ i _ => xs.length - (intOf i).toNat)
  case atStart => exact ⟨0, Nat.zero_le _, rfl, rfl, Lib.hid (Ex.refl _)⟩
  case round =>
    obtain ⟨k, hk, rfl, rfl, HE3⟩ := hrel
    by_cases hlt2 : k < xs.length
    · obtain ⟨bx, ox, rfl, hbx, hcx⟩ := (HX.out.ex HE3.out).ints.at_ hlt2
      have hxr := HRR.out k hlt2
      obtain ⟨x, hx2⟩ : ∃ x : Nat, nth xs k = (x : Int) := ⟨(nth xs k).toNat, by omega⟩
      have hxN : x < t.length := by omega
      rw [hx2] at hcx
      have hcl := con_lt HG.out hxN HM.out
      have HCO := Lib.hid (fun W' (he : Ex wr.drew W') => l01Conjugate_any A t c x m W' (HRW.out.ex (HE3.out.drew.trans he)) HG.out hxN HM.out)
      have HF := Lib.hid (fun W' (he : Ex wr.drew W') => And.intro ((HB0.out.ex (HE3.out.drew.trans he)).cell 0) ((he.below.cell (p := ⟨bx, ox + k, none⟩) hbx).trans hcx))
      have hl2 := HBL.out k hk
      have HBK : Hid (bitsK (conL t xs m) (k + 1) = bitsK (conL t xs m) k ||| 2 ^ con t x m) := Lib.hid (by simp [bitsK, conL_nth hlt2, hx2])
      obtain ⟨z, hz⟩ : ∃ z, con t x m = z := ⟨_, rfl⟩
      rw [hz] at HCO hcl HBK
      have hz8 : z < 8 := by omega
      obtain ⟨s, hs⟩ : ∃ s, bitsK (conL t xs m) k = s := ⟨_, rfl⟩
      rw [hs] at hl2 HBK ⊢
      have hbo := bits_or64 s hl2 z hz8
      have hzw : min (IntKind.u64.wrap (z : Int)).toNat 64 = z := by rw [IntWalk.u64_in _ (by omega)]; omega
      clear hx2 hxr hz hcl hcx hs
      go_wp2_with fail
      refine wp_region_quiet (C := fun w' => Ex wr.drew w') (by kernel_rfl) (by kernel_rfl) (Ex.refl _) ?_
      refine BigFrame.wpQuiet_want (by rfl) fun K hK => ⟨?_, fun w' hC => ?_, hK _ ?_⟩
      rotate_left
      · (obtain ⟨q0, q1⟩ := HF.out _ hC; go_simp; first | done | with_reducible rfl | exact ⟨rfl, hC⟩)
      clear hK K
      simp only [Act.put, List.setIfInBounds_toArray, List.set_cons_zero, List.set_cons_succ]
      refine BigFrame.wpQuiet_want (by rfl) fun K hK => ⟨?_, fun w' hC => ?_, hK _ ?_⟩
      rotate_left
      · (obtain ⟨q0, q1⟩ := HF.out _ hC; go_simp; first | done | with_reducible rfl | exact ⟨rfl, hC⟩)
      clear hK K
      simp only [Act.put, List.setIfInBounds_toArray, List.set_cons_zero, List.set_cons_succ]
      refine BigFrame.wpQuiet_want (by rfl) fun K hK => ⟨?_, fun w' hC => ?_, hK _ ?_⟩
      rotate_left
      · (obtain ⟨q0, q1⟩ := HF.out _ hC; go_simp; first | done | with_reducible rfl | exact ⟨rfl, hC⟩)
      clear hK K
      simp only [Act.put, List.setIfInBounds_toArray, List.set_cons_zero, List.set_cons_succ]
      refine BigFrame.wpQuiet_want (by rfl) fun K hK => ⟨?_, fun w' hC => ?_, hK _ ?_⟩
      rotate_left
      · (obtain ⟨q0, q1⟩ := HF.out _ hC; go_simp; first | done | with_reducible rfl | exact ⟨rfl, hC⟩)
      clear hK K
      simp only [Act.put, List.setIfInBounds_toArray, List.set_cons_zero, List.set_cons_succ]
      refine BigFrame.wpQuiet_want (by rfl) fun K hK => ⟨?_, fun w' hC => ?_, hK _ ?_⟩
      rotate_left
      · (obtain ⟨q0, q1⟩ := HF.out _ hC; go_simp; first | done | with_reducible rfl | exact ⟨rfl, hC⟩)
      clear hK K
      simp only [Act.put, List.setIfInBounds_toArray, List.set_cons_zero, List.set_cons_succ]
      refine BigFrame.wpQuiet_want (by rfl) fun K hK => ⟨?_, fun w' hC => ?_, hK _ ?_⟩
      rotate_left
      · (obtain ⟨q0, q1⟩ := HF.out _ hC; go_simp; first | done | with_reducible rfl | exact ⟨rfl, hC⟩)
      clear hK K
      simp only [Act.put, List.setIfInBounds_toArray, List.set_cons_zero, List.set_cons_succ]
      refine BigFrame.wpQuiet_want (by rfl) fun K hK => ⟨?_, fun w' hC => ?_, hK _ ?_⟩
      rotate_left
      · (obtain ⟨q0, q1⟩ := HF.out _ hC; go_simp; first | done | with_reducible rfl | exact ⟨rfl, hC⟩)
      clear hK K
      simp only [Act.put, List.setIfInBounds_toArray, List.set_cons_zero, List.set_cons_succ]
      refine BigFrame.wpQuiet_want (by rfl) fun K hK => ⟨.int .i64 (z : Int), fun w' hC => (by go_simp; refine ((HCO.out w' hC)).mono ?_; rintro e w2 ⟨rfl, hb⟩; exact ⟨rfl, hC.trans hb⟩), hK _ ?_⟩
      clear hK K
      simp only [Act.put, List.setIfInBounds_toArray, List.set_cons_zero, List.set_cons_succ]
      refine BigFrame.wpQuiet_want (by rfl) fun K hK => ⟨?_, fun w' hC => ?_, hK _ ?_⟩
      rotate_left
      · (obtain ⟨q0, q1⟩ := HF.out _ hC; go_simp; first | done | with_reducible rfl | exact ⟨rfl, hC⟩)
      clear hK K
      simp only [Act.put, List.setIfInBounds_toArray, List.set_cons_zero, List.set_cons_succ]
      refine BigFrame.wpQuiet_want (by rfl) fun K hK => ⟨?_, fun w' hC => ?_, hK _ ?_⟩
      rotate_left
      · (obtain ⟨q0, q1⟩ := HF.out _ hC; go_simp; first | done | with_reducible rfl | exact ⟨rfl, hC⟩)
      clear hK K
      simp only [Act.put, List.setIfInBounds_toArray, List.set_cons_zero, List.set_cons_succ]
      refine BigFrame.wpQuiet_want (by rfl) fun K hK => ⟨?_, fun w' hC => ?_, hK _ ?_⟩
      rotate_left
      · (obtain ⟨q0, q1⟩ := HF.out _ hC; go_simp; first | done | with_reducible rfl | exact ⟨rfl, hC⟩)
      clear hK K
      simp only [Act.put, List.setIfInBounds_toArray, List.set_cons_zero, List.set_cons_succ]
      refine BigFrame.wpQuiet_want (by rfl) fun K hK => ⟨?_, fun w' hC => ?_, hK _ ?_⟩
      rotate_left
      · (obtain ⟨q0, q1⟩ := HF.out _ hC; go_simp; first | done | with_reducible rfl | exact ⟨rfl, hC⟩)
      clear hK K
      simp only [Act.put, List.setIfInBounds_toArray, List.set_cons_zero, List.set_cons_succ]
      refine wpQuiet_nil ?_
      intro w2 hC2
      have HC2 := Lib.hid hC2
      clear hC2
      go_wp2_with fail
      go_roundw
      case rel => exact ⟨k + 1, by omega, by go_num, by rw [HBK.out, ← hbo, ← wrap_pow z hz8], Lib.hid (HE3.out.drew.trans HC2.out)⟩
      case measure => simp [intOf]; omega
    · obtain rfl : k = xs.length := by omega
      rw [HCS.out]
      go_wp2_with fail
      refine (HLI.out wr).mono ?_
      rintro e W1 ⟨A', c2, rfl, he1, ho1⟩
      have hlw := HE3.out.size
      have HE4 := Lib.hid (HE0.out.trans (HE3.out.trans he1))
      have HO1 := Lib.hid (ho1.mono (Nat.le_trans HE0.out.size hlw) (Nat.le_refl _) (Nat.le_refl _))
      clear he1 ho1
      go_wp2_with fail
      go_ret
      exact ⟨A', c2, by rw [HCL.out]; rfl, HE4.out, by rw [← HCL.out]; exact HO1.out⟩

end Go.Proofs.YtfnjpbjlikajbaaGreatDoor
