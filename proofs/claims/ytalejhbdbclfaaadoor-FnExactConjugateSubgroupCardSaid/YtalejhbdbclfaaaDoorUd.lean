/- ConjugateSubgroup: both contracts. -/
import Derived.Test.YtalejhbdbclfaaaDoorUb
import Derived.Test.YtalejhbdbclfaaaDoorCel
import Derived.Test.YtalejhbdbclfaaaDoorMvt
import Derived.Test.YtalejhbdbclfaaaDoorMz
namespace Go.Proofs.YtalejhbdbclfaaaDoor
open Go.RowKit Go.Shelf

attribute [local go_sem] Oper.semAt_some

/-- The conjugates of the elements of a list, in its order; the same, ascending. -/
noncomputable def conL (t : List (List Int)) (xs : List Int) (c : Nat) : List Int := (List.range xs.length).map fun j => (con t (nth xs j).toNat c : Int)
theorem conL_len (t : List (List Int)) (xs : List Int) (c : Nat) : (conL t xs c).length = xs.length := by simp [conL]
theorem conL_nth {t : List (List Int)} {xs : List Int} {c j : Nat} (h : j < xs.length) : nth (conL t xs c) j = (con t (nth xs j).toNat c : Int) := by simp [nth, conL, h]
theorem conL_in {t : List (List Int)} {xs : List Int} {c : Nat} (hg : IsGrp t) (hc : c < t.length) (hr : ∀ i, i < xs.length → 0 ≤ nth xs i ∧ nth xs i < t.length) : ∀ i, i < (conL t xs c).length → 0 ≤ nth (conL t xs c) i ∧ nth (conL t xs c) i < t.length := fun i hi => by
  rw [conL_len] at hi
  have h := hr i hi
  have := con_lt hg (show (nth xs i).toNat < t.length by omega) hc
  rw [conL_nth hi]
  omega
noncomputable def cjS (t : List (List Int)) (xs : List Int) (c : Nat) : Nat := bitsK (conL t xs c) xs.length
noncomputable def cjL (t : List (List Int)) (xs : List Int) (c : Nat) : List Int := elI (cjS t xs c)
theorem cjS_lt {t : List (List Int)} {xs : List Int} {c : Nat} (hg : IsGrp t) (hc : c < t.length) (hr : ∀ i, i < xs.length → 0 ≤ nth xs i ∧ nth xs i < t.length) : cjS t xs c < 2 ^ t.length :=
  bitsK_lt (conL_in hg hc hr) _ (by rw [conL_len]; exact Nat.le_refl _)
noncomputable def yConjugateSubgroup0 (t : List (List Int)) (xs : List Int) (c : Int) : List Int := if sgC t xs [c] = 0 then cjL t xs c.toNat else []
noncomputable def qConjugateSubgroup1 (t : List (List Int)) (xs : List Int) (c : Int) : Int := sgC t xs [c]
section
variable {t : List (List Int)} {xs : List Int} {c : Int}
theorem cjo_no {z : Int} (h : sgC t xs [c] = z) (hz : z ≠ 0) : yConjugateSubgroup0 t xs c = [] ∧ qConjugateSubgroup1 t xs c = z := by simp [yConjugateSubgroup0, qConjugateSubgroup1, h, hz]
theorem cjo_yes {m : Nat} (h : sgC t xs [(m : Int)] = 0) : yConjugateSubgroup0 t xs (m : Int) = cjL t xs m ∧ qConjugateSubgroup1 t xs (m : Int) = 0 := by simp [yConjugateSubgroup0, qConjugateSubgroup1, h]
theorem elI_len8 {s : Nat} (h : s < 256) : (elI s).length ≤ 8 := by
  have := elN_len s h
  simpa [elI] using this
theorem below_one {N : Nat} (h : belowB (N : Int) [c] = true) : ∃ m : Nat, c = (m : Int) ∧ m < N := by
  have h1 := belowB_inR h 0 (by simp)
  have h2 : nth [c] 0 = c := rfl
  rw [h2] at h1
  exact ⟨c.toNat, by omega, by omega⟩
theorem conjugateSubgroup_small0 (t : List (List Int)) (xs : List Int) (c : Int) : (yConjugateSubgroup0 t xs c).length ≤ 1048576 := by
  unfold yConjugateSubgroup0
  split
  · rename_i h
    obtain ⟨hg, hb, he, -⟩ := sgC_zero h
    obtain ⟨m, rfl, hm⟩ := below_one he
    have := elI_len8 (lt256 hg.n8 (cjS_lt hg hm (setB_true.1 hb).1))
    unfold cjL
    rw [Int.toNat_natCast]
    omega
  · simp
end

set_option maxHeartbeats 1000000 in
theorem cje_ex (Bg Bc : Nat) (A : Option Addr) (t : List (List Int)) (c x b : Nat) (w : World) (hG : Has w Bg 27 #[.slice A t.length c]) (hB : Has w Bc 2 #[.int .i64 (b : Int)]) (hR : RwsW w A t) (hg : IsGrp t) (hx : x < t.length) (hb : b < t.length) :
    Calls Tryd.prog 132 #[.int .i64 (x : Int), .pointer (some ⟨Bg, 0, none⟩), .pointer (some ⟨Bc, 0, none⟩)] w fun e w' => e = .returned (.int .i64 (con t x b : Int)) ∧ Ex w w' := by
  have HC := Lib.hid (conjugateOf_any A t c x b w hR hg hx hb)
  have c0 := hG.cell 0
  have c1 := hB.cell 0
  clear hG hB hR hg
  go_enter Tryd.func132, Tryd.ntmps132
  go_wp2_with fail
  refine HC.out.mono ?_
  rintro e' w' ⟨rfl, he⟩
  have HE := Lib.hid he
  clear he
  go_wp2_with fail
  go_ret
  exact ⟨rfl, HE.out⟩

set_option maxRecDepth 100000 in
set_option maxHeartbeats 2000000 in
theorem conjugateElements_any (A L : Option Addr) (t : List (List Int)) (xs : List Int) (c c' m : Nat) (w : World) (hR : RwsW w A t) (hX : IntsW w L xs) (hg : IsGrp t) (hr : ∀ i, i < xs.length → 0 ≤ nth xs i ∧ nth xs i < t.length) (hu : xs.length ≤ 1048576) (hm : m < t.length) (hT : TabL w) :
    Calls Tryd.prog 77 #[.agg #[.slice A t.length c], .slice L xs.length c', .int .i64 (m : Int)] w fun e w' => ∃ C0 e0, e = .returned (.slice C0 (cjL t xs m).length e0) ∧ Ex w w' ∧ OwnL w' w.heap.size w'.heap.size C0 (cjL t xs m) := by
  have e0 : Ex w ((w.alloc (.cells #[.slice A t.length c] 27)).alloc (.cells #[.int .i64 (m : Int)] 2)) := ((Ex.refl w).alloc _).alloc _
  have b0 : Has ((w.alloc (.cells #[.slice A t.length c] 27)).alloc (.cells #[.int .i64 (m : Int)] 2)) (w.heap.size) 27 #[.slice A t.length c] := ((Has.newAt (w := w) (e := 27) (cs := #[.slice A t.length c]) (k := w.heap.size) (by simp)).alloc _)
  have b1 : Has ((w.alloc (.cells #[.slice A t.length c] 27)).alloc (.cells #[.int .i64 (m : Int)] 2)) (w.heap.size + 1) 2 #[.int .i64 (m : Int)] := (Has.newAt (w := (w.alloc (.cells #[.slice A t.length c] 27))) (e := 2) (cs := #[.int .i64 (m : Int)]) (k := w.heap.size + 1) (by simp))
  have hmf : ∀ (fn : Fn) (first cap : Array Value) (w : World), (Instr.makeFunc fn first cap).run Tryd.prog w = .ok (.func fn first cap) w := fun _ _ _ _ => rfl
  have hn8 := hg.n8
  have HML : Hid (Calls Tryd.prog 131 #[.slice L xs.length c', .func (.func 132) #[] #[.pointer (some ⟨w.heap.size, 0, none⟩), .pointer (some ⟨w.heap.size + 1, 0, none⟩)]] ((w.alloc (.cells #[.slice A t.length c] 27)).alloc (.cells #[.int .i64 (m : Int)] 2)) fun e w' => ∃ C0 e0, e = .returned (.slice C0 (conL t xs m).length e0) ∧ Ex ((w.alloc (.cells #[.slice A t.length c] 27)).alloc (.cells #[.int .i64 (m : Int)] 2)) w' ∧ OwnL w' ((w.alloc (.cells #[.slice A t.length c] 27)).alloc (.cells #[.int .i64 (m : Int)] 2)).heap.size w'.heap.size C0 (conL t xs m)) := Lib.hid (mappedList_any L xs c' 132 #[.pointer (some ⟨w.heap.size, 0, none⟩), .pointer (some ⟨w.heap.size + 1, 0, none⟩)] (fun j => (con t (nth xs j).toNat m : Int)) _ (hX.ex e0) hu
    (enters_of Tryd.func132 (by kernel_rfl) rfl)
    (fun W' he j hj => by
      have h := hr j hj
      rw [show nth xs j = ((nth xs j).toNat : Int) by omega, Int.toNat_natCast]
      exact cje_ex w.heap.size (w.heap.size + 1) A t c _ m W' (b0.ex he) (b1.ex he) (hR.ex (e0.trans he)) hg (by omega) hm))
  have hin := conL_in hg hm hr
  have HSO := Lib.hid (fun (X : Option Addr) (e : Nat) W (hX : IntsW W X (conL t xs m)) => setOf_any X (conL t xs m) e t.length W hX (by rw [conL_len]; exact hu) hn8 hin)
  have hlt := lt256 hn8 (cjS_lt hg hm hr)
  have HSL := Lib.hid (fun W (hT : TabL W) => setList_any (cjS t xs m) W hlt hT)
  have HT := Lib.hid (hT.ex e0)
  rw [conL_len] at HML HSO
  rw [show bitsK (conL t xs m) xs.length = cjS t xs m from rfl] at HSO
  have HE0 := Lib.hid e0
  have hcl : Hid (elI (cjS t xs m) = cjL t xs m) := Lib.hid rfl
  rw [hcl.out] at HSL
  obtain ⟨ys, hys⟩ : ∃ ys, cjL t xs m = ys := ⟨_, rfl⟩
  obtain ⟨s, hs⟩ : ∃ s, cjS t xs m = s := ⟨_, rfl⟩
  obtain ⟨zs, hzs⟩ : ∃ zs, conL t xs m = zs := ⟨_, rfl⟩
  rw [hys, hs] at HSL
  rw [hs, hzs] at HSO
  rw [hzs] at HML
  rw [hys]
  clear hX hR hg hr hu hm hT hn8 hin hlt hcl hys hs hzs
  go_enter Tryd.func77, Tryd.ntmps77
  go_wp2_with fail
  generalize ((w.alloc (.cells #[.slice A t.length c] 27)).alloc (.cells #[.int .i64 (m : Int)] 2)) = W0 at *
  refine HML.out.mono ?_
  rintro e W1 ⟨X, e1, rfl, he1, ho1⟩
  have HX1 := Lib.hid ho1.ints
  have HE1 := Lib.hid (HE0.out.trans he1)
  have HT1 := Lib.hid (HT.out.ex he1)
  clear e0 b0 b1 he1 ho1 HML
  go_wp2_with fail
  refine (HSO.out X e1 W1 HX1.out).mono ?_
  rintro e w' ⟨rfl, rfl⟩
  go_wp2_with fail
  refine (HSL.out W1 HT1.out).mono ?_
  rintro e W3 ⟨A', c2, rfl, he3, ho3⟩
  have HE3 := Lib.hid (HE1.out.trans he3)
  have HO3 := Lib.hid (ho3.mono HE1.out.size (Nat.le_refl _) (Nat.le_refl _))
  clear he3 ho3
  go_wp2_with fail
  go_ret
  exact ⟨A', c2, rfl, HE3.out, HO3.out⟩

set_option maxRecDepth 100000 in
set_option maxHeartbeats 1000000 in
theorem implConjugateSubgroup_ex (t0 : List (List Int)) (t1 : List Int) (m2 : Int) : ∀ (B0 : Option Addr) (d0 : Nat) (B1 : Option Addr) (d1 : Nat) (W : World), RwsW W B0 t0 → IntsW W B1 t1 → SmallT t0 → t1.length ≤ 1048576 → TabL W →
    Calls Tryd.prog 36 #[.agg #[.slice B0 t0.length d0], .slice B1 t1.length d1, .int .i64 m2] W fun e W' => ∃ (C0 : Option Addr) (e0 : Nat), e = .returned (.tuple #[.slice C0 (yConjugateSubgroup0 t0 t1 m2).length e0, .int .i64 (qConjugateSubgroup1 t0 t1 m2)]) ∧ Ex W W' ∧ OwnL W' W.heap.size W'.heap.size C0 (yConjugateSubgroup0 t0 t1 m2) := by
  intro B0 d0 B1 d1 w hR hX hs hu hT
  have e0 : Ex w ((w.alloc (.cells #[.slice B0 t0.length d0] 27)).alloc (.cells #[.int .i64 m2] 2)) := ((Ex.refl w).alloc _).alloc _
  have b0 : Has ((w.alloc (.cells #[.slice B0 t0.length d0] 27)).alloc (.cells #[.int .i64 m2] 2)) (w.heap.size) 27 #[.slice B0 t0.length d0] := ((Has.newAt (w := w) (e := 27) (cs := #[.slice B0 t0.length d0]) (k := w.heap.size) (by simp)).alloc _)
  have b1 : Has ((w.alloc (.cells #[.slice B0 t0.length d0] 27)).alloc (.cells #[.int .i64 m2] 2)) (w.heap.size + 1) 2 #[.int .i64 m2] := (Has.newAt (w := (w.alloc (.cells #[.slice B0 t0.length d0] 27))) (e := 2) (cs := #[.int .i64 m2]) (k := w.heap.size + 1) (by simp))
  have HC := Lib.hid (subgroupCode_any B0 B1 (some ⟨w.heap.size + 1, 0, none⟩) t0 t1 [m2] d0 d1 1 _ (hR.ex e0) (hX.ex e0) (.inr ⟨_, 0, rfl, b1.lt, fun j hj => by obtain rfl : j = 0 := (by simp at hj; exact hj); exact b1.cell 0⟩) hs hu (by simp) (hT.ex e0))
  simp only [List.length_cons, List.length_nil] at HC
  by_cases hz : sgC t0 t1 [m2] = 0
  · obtain ⟨hg, hb, he, -⟩ := sgC_zero hz
    obtain ⟨m, rfl, hm⟩ := below_one he
    have HQ := Lib.hid (cjo_yes hz)
    rw [hz] at HC
    have HCO := Lib.hid (fun W (he : Ex _ W) => conjugateElements_any B0 B1 t0 t1 d0 d1 m W (hR.ex (e0.trans he)) (hX.ex (e0.trans he)) hg (setB_true.1 hb).1 hu hm (hT.ex (e0.trans he)))
    obtain ⟨ys, hys⟩ : ∃ ys, cjL t0 t1 m = ys := ⟨_, rfl⟩
    rw [hys] at HCO HQ
    clear hz hg hb he hR hX hs hu hys hT hm
    go_enter Tryd.func36, Tryd.ntmps36
    go_wp2_with fail
    generalize ((w.alloc (.cells #[.slice B0 t0.length d0] 27)).alloc (.cells #[.int .i64 (m : Int)] 2)) = W0 at *
    refine HC.out.mono ?_
    rintro e W1 ⟨rfl, he1⟩
    have HE1 := Lib.hid (e0.trans he1)
    have c0 := (b0.ex he1).cell 0
    have HCO1 := Lib.hid (HCO.out W1 he1)
    clear b0 b1 e0 he1 HCO
    go_wp2_with fail
    refine HCO1.out.mono ?_
    rintro e W2 ⟨A', c2, rfl, he2, hO⟩
    have HE2 := Lib.hid (HE1.out.trans he2)
    have HO := Lib.hid (hO.mono HE1.out.size (Nat.le_refl _) (Nat.le_refl _))
    clear he2 hO c0 HCO1
    go_wp2_with fail
    go_ret2
    exact ⟨A', c2, by rw [HQ.out.1, HQ.out.2]; rfl, HE2.out, by rw [HQ.out.1]; exact HO.out⟩
  · obtain ⟨z, hzz⟩ : ∃ z, sgC t0 t1 [m2] = z := ⟨_, rfl⟩
    have HQ := Lib.hid (cjo_no hzz (hzz ▸ hz))
    rw [hzz] at HC hz
    have hzb : (z != 0) = true := by simpa using hz
    clear hz hzz hR hX hs hu hT
    go_enter Tryd.func36, Tryd.ntmps36
    go_wp2_with fail
    generalize ((w.alloc (.cells #[.slice B0 t0.length d0] 27)).alloc (.cells #[.int .i64 m2] 2)) = W0 at *
    refine HC.out.mono ?_
    rintro e W1 ⟨rfl, he1⟩
    have HE1 := Lib.hid (e0.trans he1)
    clear b0 b1 e0 he1
    go_wp2_with fail
    go_ret2
    exact ⟨none, 0, by rw [HQ.out.1, HQ.out.2]; rfl, HE1.out, by rw [HQ.out.1]; exact OwnL.nil _ _ _ (Nat.le_refl _)⟩

theorem wrap_pow : ∀ z : Nat, z < 8 → IntKind.i64.wrap ((2 : Int) ^ z) = wrap64 (2 ^ z) := by decide +kernel
theorem below1 (N : Nat) (c : Int) : belowB (N : Int) [c] = movB N c := by
  unfold belowB movB inB
  simp only [List.all_cons, List.all_nil, Bool.and_true]
  rw [Bool.eq_iff_iff]
  simp only [Bool.and_eq_true, decide_eq_true_eq]
  omega

set_option maxRecDepth 100000 in
set_option maxHeartbeats 2000000 in
theorem l07Conjugate_any (A L : Option Addr) (t : List (List Int)) (xs : List Int) (c c' m : Nat) (w : World) (hR : RwsW w A t) (hX : IntsW w L xs) (hg : IsGrp t) (hr : ∀ i, i < xs.length → 0 ≤ nth xs i ∧ nth xs i < t.length) (hu : xs.length ≤ 1048576) (hm : m < t.length) :
    Calls Tryd.prog 76 #[.agg #[.slice A t.length c], .slice L xs.length c', .int .i64 (m : Int)] w fun e w' => ∃ C0 e0, e = .returned (.slice C0 (cjL t xs m).length e0) ∧ Ex w w' ∧ OwnL w' w.heap.size w'.heap.size C0 (cjL t xs m) := by
  have e0 : Ex w (w.alloc (.cells #[.slice A t.length c] 27)) := (Ex.refl w).alloc _
  have b0 : Has (w.alloc (.cells #[.slice A t.length c] 27)) (w.heap.size) 27 #[.slice A t.length c] := (Has.newAt (w := w) (e := 27) (cs := #[.slice A t.length c]) (k := w.heap.size) (by simp))
  have hn8 := hg.n8
  have hlt := lt256 hn8 (cjS_lt hg hm hr)
  have hin := conL_in hg hm hr
  have HBL := Lib.hid (fun k (hk : k ≤ xs.length) => lt256 hn8 (bitsK_lt hin k (by rw [conL_len]; exact hk)))
  have HLI := Lib.hid (fun W => l01List_any (cjS t xs m) W hlt)
  have HE0 := Lib.hid e0
  have HB0 := Lib.hid b0
  have HG := Lib.hid hg
  have HRW := Lib.hid (hR.ex e0)
  have HX := Lib.hid (hX.ex e0)
  have HRR := Lib.hid hr
  have HM := Lib.hid hm
  have HCS : Hid (bitsK (conL t xs m) xs.length = cjS t xs m) := Lib.hid rfl
  have HCL : Hid (elI (cjS t xs m) = cjL t xs m) := Lib.hid rfl
  clear hR hX hg hr hm e0 b0 hlt hin
  go_enter Tryd.func76, Tryd.ntmps76
  go_wp2_with fail
  generalize (w.alloc (.cells #[.slice A t.length c] 27)) = W0 at *
  go_loopw [7, 8] (fun s i wr => ∃ k : Nat, k ≤ xs.length ∧ i = .int .i64 (k : Int) ∧ s = .int .i64 (bitsK (conL t xs m) k : Int) ∧ Hid (Ex W0 wr)) (fun _ i _ => xs.length - (intOf i).toNat)
  case atStart => exact ⟨0, Nat.zero_le _, rfl, rfl, Lib.hid (Ex.refl _)⟩
  case round =>
    obtain ⟨k, hk, rfl, rfl, HE3⟩ := hrel
    by_cases hlt2 : k < xs.length
    · obtain ⟨bx, ox, rfl, hbx, hcx⟩ := (HX.out.ex HE3.out).ints.at_ hlt2
      have hxr := HRR.out k hlt2
      obtain ⟨x, hx2⟩ : ∃ x : Nat, nth xs k = (x : Int) := ⟨(nth xs k).toNat, by omega⟩
      have hxN : x < t.length := by omega
      rw [hx2] at hcx
      have hcl := con_lt HG.out hxN HM.out
      have HCO := Lib.hid (fun W' (he : Ex wr.drew W') => l01Conjugate_any A t c x m W' (HRW.out.ex (HE3.out.drew.trans he)) HG.out hxN HM.out)
      have HF := Lib.hid (fun W' (he : Ex wr.drew W') => And.intro ((HB0.out.ex (HE3.out.drew.trans he)).cell 0) ((he.below.cell (p := ⟨bx, ox + k, none⟩) hbx).trans hcx))
      have hl2 := HBL.out k hk
      have HBK : Hid (bitsK (conL t xs m) (k + 1) = bitsK (conL t xs m) k ||| 2 ^ con t x m) := Lib.hid (by simp [bitsK, conL_nth hlt2, hx2])
      obtain ⟨z, hz⟩ : ∃ z, con t x m = z := ⟨_, rfl⟩
      rw [hz] at HCO hcl HBK
      have hz8 : z < 8 := by omega
      obtain ⟨s, hs⟩ : ∃ s, bitsK (conL t xs m) k = s := ⟨_, rfl⟩
      rw [hs] at hl2 HBK ⊢
      have hbo := bits_or64 s hl2 z hz8
      have hzw : min (IntKind.u64.wrap (z : Int)).toNat 64 = z := by rw [IntWalk.u64_in _ (by omega)]; omega
      clear hx2 hxr hz hcl hcx hs
      go_wp2_with fail
      refine wp_region_quiet (C := fun w' => Ex wr.drew w') (by kernel_rfl) (by kernel_rfl) (Ex.refl _) ?_
      refine BigFrame.wpQuiet_want (by rfl) fun K hK => ⟨?_, fun w' hC => ?_, hK _ ?_⟩
      rotate_left
      · (obtain ⟨q0, q1⟩ := HF.out _ hC; go_simp; first | done | with_reducible rfl | exact ⟨rfl, hC⟩)
      clear hK K
      simp only [Act.put, List.setIfInBounds_toArray, List.set_cons_zero, List.set_cons_succ]
      refine BigFrame.wpQuiet_want (by rfl) fun K hK => ⟨?_, fun w' hC => ?_, hK _ ?_⟩
      rotate_left
      · (obtain ⟨q0, q1⟩ := HF.out _ hC; go_simp; first | done | with_reducible rfl | exact ⟨rfl, hC⟩)
      clear hK K
      simp only [Act.put, List.setIfInBounds_toArray, List.set_cons_zero, List.set_cons_succ]
      refine BigFrame.wpQuiet_want (by rfl) fun K hK => ⟨?_, fun w' hC => ?_, hK _ ?_⟩
      rotate_left
      · (obtain ⟨q0, q1⟩ := HF.out _ hC; go_simp; first | done | with_reducible rfl | exact ⟨rfl, hC⟩)
      clear hK K
      simp only [Act.put, List.setIfInBounds_toArray, List.set_cons_zero, List.set_cons_succ]
      refine BigFrame.wpQuiet_want (by rfl) fun K hK => ⟨?_, fun w' hC => ?_, hK _ ?_⟩
      rotate_left
      · (obtain ⟨q0, q1⟩ := HF.out _ hC; go_simp; first | done | with_reducible rfl | exact ⟨rfl, hC⟩)
      clear hK K
      simp only [Act.put, List.setIfInBounds_toArray, List.set_cons_zero, List.set_cons_succ]
      refine BigFrame.wpQuiet_want (by rfl) fun K hK => ⟨?_, fun w' hC => ?_, hK _ ?_⟩
      rotate_left
      · (obtain ⟨q0, q1⟩ := HF.out _ hC; go_simp; first | done | with_reducible rfl | exact ⟨rfl, hC⟩)
      clear hK K
      simp only [Act.put, List.setIfInBounds_toArray, List.set_cons_zero, List.set_cons_succ]
      refine BigFrame.wpQuiet_want (by rfl) fun K hK => ⟨?_, fun w' hC => ?_, hK _ ?_⟩
      rotate_left
      · (obtain ⟨q0, q1⟩ := HF.out _ hC; go_simp; first | done | with_reducible rfl | exact ⟨rfl, hC⟩)
      clear hK K
      simp only [Act.put, List.setIfInBounds_toArray, List.set_cons_zero, List.set_cons_succ]
      refine BigFrame.wpQuiet_want (by rfl) fun K hK => ⟨?_, fun w' hC => ?_, hK _ ?_⟩
      rotate_left
      · (obtain ⟨q0, q1⟩ := HF.out _ hC; go_simp; first | done | with_reducible rfl | exact ⟨rfl, hC⟩)
      clear hK K
      simp only [Act.put, List.setIfInBounds_toArray, List.set_cons_zero, List.set_cons_succ]
      refine BigFrame.wpQuiet_want (by rfl) fun K hK => ⟨.int .i64 (z : Int), fun w' hC => (by go_simp; refine ((HCO.out w' hC)).mono ?_; rintro e w2 ⟨rfl, hb⟩; exact ⟨rfl, hC.trans hb⟩), hK _ ?_⟩
      clear hK K
      simp only [Act.put, List.setIfInBounds_toArray, List.set_cons_zero, List.set_cons_succ]
      refine BigFrame.wpQuiet_want (by rfl) fun K hK => ⟨?_, fun w' hC => ?_, hK _ ?_⟩
      rotate_left
      · (obtain ⟨q0, q1⟩ := HF.out _ hC; go_simp; first | done | with_reducible rfl | exact ⟨rfl, hC⟩)
      clear hK K
      simp only [Act.put, List.setIfInBounds_toArray, List.set_cons_zero, List.set_cons_succ]
      refine BigFrame.wpQuiet_want (by rfl) fun K hK => ⟨?_, fun w' hC => ?_, hK _ ?_⟩
      rotate_left
      · (obtain ⟨q0, q1⟩ := HF.out _ hC; go_simp; first | done | with_reducible rfl | exact ⟨rfl, hC⟩)
      clear hK K
      simp only [Act.put, List.setIfInBounds_toArray, List.set_cons_zero, List.set_cons_succ]
      refine BigFrame.wpQuiet_want (by rfl) fun K hK => ⟨?_, fun w' hC => ?_, hK _ ?_⟩
      rotate_left
      · (obtain ⟨q0, q1⟩ := HF.out _ hC; go_simp; first | done | with_reducible rfl | exact ⟨rfl, hC⟩)
      clear hK K
      simp only [Act.put, List.setIfInBounds_toArray, List.set_cons_zero, List.set_cons_succ]
      refine BigFrame.wpQuiet_want (by rfl) fun K hK => ⟨?_, fun w' hC => ?_, hK _ ?_⟩
      rotate_left
      · (obtain ⟨q0, q1⟩ := HF.out _ hC; go_simp; first | done | with_reducible rfl | exact ⟨rfl, hC⟩)
      clear hK K
      simp only [Act.put, List.setIfInBounds_toArray, List.set_cons_zero, List.set_cons_succ]
      refine wpQuiet_nil ?_
      intro w2 hC2
      have HC2 := Lib.hid hC2
      clear hC2
      go_wp2_with fail
      go_roundw
      case rel => exact ⟨k + 1, by omega, by go_num, by rw [HBK.out, ← hbo, ← wrap_pow z hz8], Lib.hid (HE3.out.drew.trans HC2.out)⟩
      case measure => simp [intOf]; omega
    · obtain rfl : k = xs.length := by omega
      rw [HCS.out]
      go_wp2_with fail
      refine (HLI.out wr).mono ?_
      rintro e W1 ⟨A', c2, rfl, he1, ho1⟩
      have hlw := HE3.out.size
      have HE4 := Lib.hid (HE0.out.trans (HE3.out.trans he1))
      have HO1 := Lib.hid (ho1.mono (Nat.le_trans HE0.out.size hlw) (Nat.le_refl _) (Nat.le_refl _))
      clear he1 ho1
      go_wp2_with fail
      go_ret
      exact ⟨A', c2, by rw [HCL.out]; rfl, HE4.out, by rw [← HCL.out]; exact HO1.out⟩

set_option maxRecDepth 100000 in
set_option maxHeartbeats 2000000 in
theorem specConjugateSubgroup_ex (t0 : List (List Int)) (t1 : List Int) (m2 : Int) : ∀ (B0 : Option Addr) (d0 : Nat) (B1 : Option Addr) (d1 : Nat) (W : World), RwsW W B0 t0 → IntsW W B1 t1 → SmallT t0 → t1.length ≤ 1048576 →
    Calls Tryd.prog 35 #[.agg #[.slice B0 t0.length d0], .slice B1 t1.length d1, .int .i64 m2] W fun e W' => ∃ (C0 : Option Addr) (e0 : Nat), e = .returned (.tuple #[.slice C0 (yConjugateSubgroup0 t0 t1 m2).length e0, .int .i64 (qConjugateSubgroup1 t0 t1 m2)]) ∧ Ex W W' ∧ OwnL W' W.heap.size W'.heap.size C0 (yConjugateSubgroup0 t0 t1 m2) := by
  intro B0 d0 B1 d1 w hR hX hs hu
  have e0 : Ex w (w.alloc (.cells #[.slice B0 t0.length d0] 27)) := (Ex.refl w).alloc _
  have b0 : Has (w.alloc (.cells #[.slice B0 t0.length d0] 27)) (w.heap.size) 27 #[.slice B0 t0.length d0] := (Has.newAt (w := w) (e := 27) (cs := #[.slice B0 t0.length d0]) (k := w.heap.size) (by simp))
  have HC := Lib.hid (l01Set_any B0 B1 t0 t1 d0 d1 _ (hR.ex e0) (hX.ex e0) hs hu)
  by_cases hc : setC t0 t1 = 0
  · obtain ⟨hg, hb⟩ := setC_f hc
    rw [hc] at HC
    have hgr := grpB_iff.1 hg
    have HEL := Lib.hid (fun kb W (he : Ex w W) => l01Elements1_ex B0 t0 d0 kb m2 W (hR.ex he) hs hgr)
    cases hmb : movB t0.length m2 with
    | false =>
      rw [hmb] at HEL
      have HQ := Lib.hid (cjo_no (sgC_el (xs := t1) hg ((below1 _ _).trans hmb)) (by decide))
      clear hc hg hb hgr hmb hR hX hs hu
      go_enter Tryd.func35, Tryd.ntmps35
      go_wp2_with fail
      generalize (w.alloc (.cells #[.slice B0 t0.length d0] 27)) = W0 at *
      refine HC.out.mono ?_
      rintro e W1 ⟨rfl, he1⟩
      have HE1 := Lib.hid (e0.trans he1)
      have c0 := (b0.ex he1).cell 0
      clear b0 e0 he1
      go_wp2_with fail
      refine (HEL.out W1.heap.size _ (HE1.out.alloc _) (Has.new _ _ _)).mono ?_
      rintro e W2 ⟨rfl, he2⟩
      have HE2 := Lib.hid ((HE1.out.alloc _).trans he2)
      clear he2 c0 HEL
      go_wp2_with fail
      go_ret2
      exact ⟨none, 0, by rw [HQ.out.1, HQ.out.2]; rfl, HE2.out, by rw [HQ.out.1]; exact OwnL.nil _ _ _ (Nat.le_refl _)⟩
    | true =>
      rw [hmb] at HEL
      have hm3 : 0 ≤ m2 ∧ m2 < t0.length := of_decide_eq_true hmb
      obtain ⟨m, rfl⟩ : ∃ m : Nat, m2 = (m : Int) := ⟨m2.toNat, by omega⟩
      have hm : m < t0.length := by omega
      have HC7 := Lib.hid (fun W (he : Ex w W) => l07Code_any B0 B1 t0 t1 d0 d1 W (hR.ex he) (hX.ex he) hs hu)
      have hsg : sgC t0 t1 [(m : Int)] = sgC t0 t1 [] := by simp [sgC, hg, hb, below1, hmb, below_nil]
      by_cases hz : sgC t0 t1 [] = 0
      · have HQ := Lib.hid (cjo_yes (hsg.trans hz))
        rw [hz] at HC7
        have HCO := Lib.hid (fun W (he : Ex w W) => l07Conjugate_any B0 B1 t0 t1 d0 d1 m W (hR.ex he) (hX.ex he) hgr (setB_true.1 hb).1 hu hm)
        obtain ⟨ys, hys⟩ : ∃ ys, cjL t0 t1 m = ys := ⟨_, rfl⟩
        rw [hys] at HQ HCO
        clear hc hg hb hgr hmb hR hX hs hu hm3 hm hsg hz hys
        go_enter Tryd.func35, Tryd.ntmps35
        go_wp2_with fail
        generalize (w.alloc (.cells #[.slice B0 t0.length d0] 27)) = W0 at *
        refine HC.out.mono ?_
        rintro e W1 ⟨rfl, he1⟩
        have HE1 := Lib.hid (e0.trans he1)
        have HB1 := Lib.hid (b0.ex he1)
        have c0 := HB1.out.cell 0
        clear b0 e0 he1
        go_wp2_with fail
        refine (HEL.out W1.heap.size _ (HE1.out.alloc _) (Has.new _ _ _)).mono ?_
        rintro e W2 ⟨rfl, he2⟩
        have HE2 := Lib.hid ((HE1.out.alloc _).trans he2)
        have HB2 := Lib.hid ((HB1.out.alloc _).ex he2)
        have c2 := HB2.out.cell 0
        clear he2 c0 HEL
        go_wp2_with fail
        refine (HC7.out W2 HE2.out).mono ?_
        rintro e W3 ⟨rfl, he3⟩
        have HE3 := Lib.hid (HE2.out.trans he3)
        have c3 := (HB2.out.ex he3).cell 0
        clear he3 c2
        go_wp2_with fail
        refine (HCO.out W3 HE3.out).mono ?_
        rintro e W4 ⟨A', c4, rfl, he4, hO⟩
        have HE4 := Lib.hid (HE3.out.trans he4)
        have HO := Lib.hid (hO.mono HE3.out.size (Nat.le_refl _) (Nat.le_refl _))
        clear he4 hO c3
        go_wp2_with fail
        go_ret2
        exact ⟨A', c4, by rw [HQ.out.1, HQ.out.2]; rfl, HE4.out, by rw [HQ.out.1]; exact HO.out⟩
      · obtain ⟨z, hzz⟩ : ∃ z, sgC t0 t1 [] = z := ⟨_, rfl⟩
        have HQ := Lib.hid (cjo_no (hsg.trans hzz) (hzz ▸ hz))
        rw [hzz] at HC7 hz
        have hzb : (z != 0) = true := by simpa using hz
        clear hc hg hb hgr hmb hR hX hs hu hm3 hm hsg hz hzz
        go_enter Tryd.func35, Tryd.ntmps35
        go_wp2_with fail
        generalize (w.alloc (.cells #[.slice B0 t0.length d0] 27)) = W0 at *
        refine HC.out.mono ?_
        rintro e W1 ⟨rfl, he1⟩
        have HE1 := Lib.hid (e0.trans he1)
        have HB1 := Lib.hid (b0.ex he1)
        have c0 := HB1.out.cell 0
        clear b0 e0 he1
        go_wp2_with fail
        refine (HEL.out W1.heap.size _ (HE1.out.alloc _) (Has.new _ _ _)).mono ?_
        rintro e W2 ⟨rfl, he2⟩
        have HE2 := Lib.hid ((HE1.out.alloc _).trans he2)
        have HB2 := Lib.hid ((HB1.out.alloc _).ex he2)
        have c2 := HB2.out.cell 0
        clear he2 c0 HEL
        go_wp2_with fail
        refine (HC7.out W2 HE2.out).mono ?_
        rintro e W3 ⟨rfl, he3⟩
        have HE3 := Lib.hid (HE2.out.trans he3)
        clear he3 c2
        go_wp2_with fail
        go_ret2
        exact ⟨none, 0, by rw [HQ.out.1, HQ.out.2]; rfl, HE3.out, by rw [HQ.out.1]; exact OwnL.nil _ _ _ (Nat.le_refl _)⟩
  · have hsg : sgC t0 t1 [m2] = setC t0 t1 := by
      rcases setC_cases t0 t1 with ⟨h, h'⟩ | ⟨h, h2, h'⟩ | h
      · rw [h', sgC_no h]
      · rw [h', sgC_set h h2]
      · exact absurd h.2.2 hc
    obtain ⟨z, hz⟩ : ∃ z, setC t0 t1 = z := ⟨_, rfl⟩
    have HQ := Lib.hid (cjo_no (hsg.trans hz) (hz ▸ hc))
    rw [hz] at HC hc
    have hzb : (z != 0) = true := by simpa using hc
    have hzb0 : (z == 0) = false := by simpa using hc
    clear hR hX hs hu hc hsg hz
    go_enter Tryd.func35, Tryd.ntmps35
    go_wp2_with fail
    generalize (w.alloc (.cells #[.slice B0 t0.length d0] 27)) = W0 at *
    refine HC.out.mono ?_
    rintro e W1 ⟨rfl, he1⟩
    have HE1 := Lib.hid (e0.trans he1)
    have c0 := (b0.ex he1).cell 0
    clear b0 e0 he1
    go_wp2_with fail
    go_ret2
    exact ⟨none, 0, by rw [HQ.out.1, HQ.out.2]; rfl, HE1.out, by rw [HQ.out.1]; exact OwnL.nil _ _ _ (Nat.le_refl _)⟩

end Go.Proofs.YtalejhbdbclfaaaDoor
