/- Cochains that are pulled back along a function of the elements, by the program; cochains whose values an element leads. -/
import Derived.Test.YtfnjpbjlikajbaaGreatDoorFif
import Derived.Test.YtfnjpbjlikajbaaGreatDoorMvt
import Derived.Test.YtfnjpbjlikajbaaGreatDoorMdl
namespace Go.Proofs.YtfnjpbjlikajbaaGreatDoor
open Go.RowKit

theorem cells_posU {N d k : Nat} (h : k < cellsN N d) : d = 0 ∨ 2 ≤ N := by
  rcases Nat.eq_zero_or_pos d with h0 | h0
  · exact .inl h0
  · right
    rcases Nat.lt_or_ge N 2 with hN | hN
    · rw [cellsN, show N - 1 = 0 by omega, Nat.zero_pow h0] at h
      omega
    · exact hN
/-- The list with the number k, each element's image; the value there. -/
noncomputable def pbL (V : Nat → Int) (N d k : Nat) : List Int := (List.range d).map fun j => V (dN N d k j)
noncomputable def pbV (V : Nat → Int) (fs : List Int) (N K d k : Nat) : Int := valR K fs (pbL V N d k)
noncomputable def pbY (V : Nat → Int) (fs : List Int) (N K d : Nat) : List Int := (List.range (cellsN N d)).map fun k => pbV V fs N K d k
theorem pbL_len (V : Nat → Int) (N d k : Nat) : (pbL V N d k).length = d := by simp [pbL]
theorem pbY_len (V : Nat → Int) (fs : List Int) (N K d : Nat) : (pbY V fs N K d).length = cellsN N d := by simp [pbY]
theorem pbL_in {V : Nat → Int} {K N d k : Nat} (hV : ∀ x, x < N → 0 ≤ V x ∧ V x < K) (hd : d = 0 ∨ 2 ≤ N) : InR K (pbL V N d k) := fun i hi => by
  rw [pbL_len] at hi
  have e : nth (pbL V N d k) i = V (dN N d k i) := by simp [nth, pbL, hi]
  rw [e]
  exact hV _ (dN_in (by omega)).2
theorem pbL_congr {V U : Nat → Int} {N d k : Nat} (h : ∀ x, x < N → V x = U x) (hd : d = 0 ∨ 2 ≤ N) : pbL V N d k = pbL U N d k := by
  unfold pbL
  refine List.map_congr_left fun j hj => h _ (dN_in (by have := List.mem_range.1 hj; omega)).2
theorem pbY_congr {V U : Nat → Int} {fs : List Int} {N K d : Nat} (h : ∀ x, x < N → V x = U x) : pbY V fs N K d = pbY U fs N K d := by
  unfold pbY
  refine List.map_congr_left fun k hk => ?_
  unfold pbV
  rw [pbL_congr h (cells_posU (List.mem_range.1 hk))]

set_option maxRecDepth 100000 in
set_option maxHeartbeats 2000000 in
theorem pbk1_ex (Bh Bf Bi : Nat) (A F L : Option Addr) (N K d k kf : Nat) (cap : Array Value) (V : Nat → Int) (fs : List Int) (c0 c1 c3 : Nat) (w : World)
    (hH : Has w Bh 36 #[.slice A K c0]) (hFc : Has w Bf 33 #[.int .i64 (d : Int), .slice F fs.length c1]) (hI : Has w Bi 118 #[.func (.func kf) #[] cap])
    (hF : IntsW w F fs) (hL : IntsW w L (lsL N d k)) (hK8 : K ≤ 8) (hK1 : 1 ≤ K) (hd : d ≤ 4) (hdN : d = 0 ∨ 2 ≤ N) (hV : ∀ x, x < N → 0 ≤ V x ∧ V x < K) (hfl : fs.length = cellsN K d)
    (eg : ∀ args w, (callFunc kf args).run Tryz.prog w = .ok (.enter kf args) w)
    (hf : ∀ W', Ex w W' → ∀ x : Nat, x < N → Calls Tryz.prog kf (#[.int .i64 (x : Int)] ++ cap) W' fun e w' => e = .returned (.int .i64 (V x)) ∧ Ex W' w') :
    Calls Tryz.prog 129 #[.slice L (lsL N d k).length c3, .pointer (some ⟨Bh, 0, none⟩), .pointer (some ⟨Bf, 0, none⟩), .pointer (some ⟨Bi, 0, none⟩)] w fun e w' => e = .returned (.int .i64 (pbV V fs N K d k)) ∧ Ex w w' := by
  have hml := fun W (he : Ex w W) => mappedList_any L (lsL N d k) c3 kf cap (fun j => V (dN N d k j)) W (hL.ex he) (by rw [lsL_len]; omega) eg
    (fun W' he' j hj => by
      rw [lsL_len] at hj
      rw [nth_lsL hj]
      exact hf W' (he.trans he') _ (dN_in (by omega)).2)
  rw [lsL_len] at hml ⊢
  have HML : Hid (∀ W, Ex w W → Calls Tryz.prog 102 #[.slice L d c3, .func (.func kf) #[] cap] W fun e w' => ∃ C0 e0, e = .returned (.slice C0 (pbL V N d k).length e0) ∧ Ex W w' ∧ OwnL w' W.heap.size w'.heap.size C0 (pbL V N d k)) := Lib.hid hml
  have HVA := Lib.hid (fun (X : Option Addr) (e : Nat) W (he : Ex w W) (hX : IntsW W X (pbL V N d k)) => valueAt_yes A F X d K fs (pbL V N d k) c0 c1 e W (hF.ex he) hX hK8 hK1 hd (pbL_len V N d k) hfl (inR_belowL (pbL_in hV hdN)))
  obtain ⟨v, hv⟩ : ∃ v, valR K fs (pbL V N d k) = v := ⟨_, rfl⟩
  have HR : Hid (pbV V fs N K d k = v) := Lib.hid (by rw [pbV, hv])
  rw [hv] at HVA
  have HH := Lib.hid hH
  have HFC := Lib.hid hFc
  have HII := Lib.hid hI
  have hC0 := And.intro (hH.cell 0) (And.intro (hFc.cell 0) (And.intro (hFc.cell 1) (hI.cell 0)))
  clear hml hH hFc hI hF hL hfl hv hdN hV eg hf
  go_enter Tryz.func129, Tryz.ntmps129
  go_wp2_with fail
  refine Late.region (C := fun w' => w'.cell? ⟨Bh, 0, none⟩ = some (.slice A K c0) ∧ w'.cell? ⟨Bf, 0, none⟩ = some (.int .i64 (d : Int)) ∧ w'.cell? ⟨Bf, 1, none⟩ = some (.slice F fs.length c1) ∧ w'.cell? ⟨Bi, 0, none⟩ = some (.func (.func kf) #[] cap)) (fun _ => true) (by kernel_rfl) hC0 (fun hC => ?_)
  refine Late.take (i := 0) (oi := _) (v := ?_) rfl (by kernel_rfl) (by kernel_rfl) (by kernel_rfl) (by kernel_rfl) (fun _ _ _ h => h) (Or.inl ⟨by rfl, ?_⟩) hC ?_
  rotate_left
  · (intro w hSw; (try dsimp only at hSw); go_simp; first | done | with_reducible rfl)
  simp only [Act.put]
  refine Late.take (i := 1) (oi := _) (v := ?_) rfl (by kernel_rfl) (by kernel_rfl) (by kernel_rfl) (by kernel_rfl) (fun _ _ _ h => h) (Or.inl ⟨by rfl, ?_⟩) hC ?_
  rotate_left
  · (intro w hSw; (try dsimp only at hSw); go_simp; first | done | with_reducible rfl)
  simp only [Act.put]
  refine Late.take (i := 2) (oi := _) (v := ?_) rfl (by kernel_rfl) (by kernel_rfl) (by kernel_rfl) (by kernel_rfl) (fun _ _ _ h => h) (Or.inl ⟨by rfl, ?_⟩) hC ?_
  rotate_left
  · (intro w hSw; (try dsimp only at hSw); go_simp; first | done | with_reducible rfl)
  simp only [Act.put]
  refine Late.take (i := 3) (oi := _) (v := ?_) rfl (by kernel_rfl) (by kernel_rfl) (by kernel_rfl) (by kernel_rfl) (fun _ _ _ h => h) (Or.inl ⟨by rfl, ?_⟩) hC ?_
  rotate_left
  · (intro w hSw; (try dsimp only at hSw); go_simp; first | done | with_reducible rfl)
  simp only [Act.put]
  refine Late.one (i := 4) (o := _) (by kernel_rfl) rfl (fun K' hK' => ?_)
  go_simp
  refine (HML.out w.drew (Ex.refl w).drew).mono ?_
  rintro e W1 ⟨X, e1, rfl, he1, ho1⟩
  have hx1 : Ex w W1 := (Ex.refl w).drew.trans he1
  have HX1 := Lib.hid ho1.ints
  have hC1 := And.intro ((HH.out.ex hx1).cell 0) (And.intro ((HFC.out.ex hx1).cell 0) (And.intro ((HFC.out.ex hx1).cell 1) ((HII.out.ex hx1).cell 0)))
  have HE1 := Lib.hid hx1
  refine hK'.out _ _ (fun _ => hC1) (fun _ => ?_)
  clear hK' K' hC hC0 he1 ho1 hx1
  try simp only [Act.put, List.setIfInBounds_toArray, List.set_cons_zero, List.set_cons_succ]
  refine Late.one (i := 5) (o := _) (by kernel_rfl) rfl (fun K' hK' => ?_)
  go_simp
  refine (HVA.out X e1 W1 HE1.out HX1.out).mono ?_
  rintro e W2 ⟨rfl, he2⟩
  have hx2 := HE1.out.trans he2
  have HE2 := Lib.hid hx2
  have hC2 := And.intro ((HH.out.ex hx2).cell 0) (And.intro ((HFC.out.ex hx2).cell 0) (And.intro ((HFC.out.ex hx2).cell 1) ((HII.out.ex hx2).cell 0)))
  refine hK'.out _ _ (fun _ => hC2) (fun _ => ?_)
  clear hK' K' hC1 he2 hx2
  try simp only [Act.put, List.setIfInBounds_toArray, List.set_cons_zero, List.set_cons_succ]
  refine Late.one (i := 6) (o := _) (by kernel_rfl) rfl (fun K' hK' => ?_)
  go_simp
  refine hK'.out _ _ (fun _ => hC2) (fun _ => ?_)
  clear hK' K'
  try simp only [Act.put, List.setIfInBounds_toArray, List.set_cons_zero, List.set_cons_succ]
  refine Late.done (by kernel_rfl) ?_ _
  go_wp2_with fail
  go_ret
  exact ⟨by rw [HR.out]; rfl, HE2.out⟩

set_option maxRecDepth 100000 in
set_option maxHeartbeats 2000000 in
theorem pulledBack_any (A A' F : Option Addr) (N K d kf : Nat) (cap : Array Value) (V : Nat → Int) (fs : List Int) (c c' c1 : Nat) (w : World)
    (hF : IntsW w F fs) (hN8 : N ≤ 8) (hN1 : 1 ≤ N) (hK8 : K ≤ 8) (hK1 : 1 ≤ K) (hd : d ≤ 3) (hV : ∀ x, x < N → 0 ≤ V x ∧ V x < K) (hfl : fs.length = cellsN K d)
    (eg : ∀ args w, (callFunc kf args).run Tryz.prog w = .ok (.enter kf args) w)
    (hf : ∀ W', Ex w W' → ∀ x : Nat, x < N → Calls Tryz.prog kf (#[.int .i64 (x : Int)] ++ cap) W' fun e w' => e = .returned (.int .i64 (V x)) ∧ Ex W' w') :
    Calls Tryz.prog 87 #[.agg #[.slice A N c], .agg #[.slice A' K c'], .agg #[.int .i64 (d : Int), .slice F fs.length c1], .func (.func kf) #[] cap] w fun e w' => ∃ A5 n5, e = .returned (.agg #[.int .i64 (d : Int), .slice A5 (cellsN N d) n5]) ∧ Ex w w' ∧ OwnL w' w.heap.size w'.heap.size A5 (pbY V fs N K d) := by
  have e0 : Ex w (((((w.alloc (.cells #[.slice A N c] 36)).alloc (.cells #[.slice A' K c'] 36)).alloc (.cells #[.int .i64 (d : Int), .slice F fs.length c1] 33)).alloc (.cells #[.func (.func kf) #[] cap] 118)).alloc (.cells #[.int .i64 0, .slice none 0 0] 33)) := (((((Ex.refl w).alloc _).alloc _).alloc _).alloc _).alloc _
  have b0 : Has (((((w.alloc (.cells #[.slice A N c] 36)).alloc (.cells #[.slice A' K c'] 36)).alloc (.cells #[.int .i64 (d : Int), .slice F fs.length c1] 33)).alloc (.cells #[.func (.func kf) #[] cap] 118)).alloc (.cells #[.int .i64 0, .slice none 0 0] 33)) (w.heap.size) 36 #[.slice A N c] := (((((Has.newAt (w := w) (e := 36) (cs := #[.slice A N c]) (k := w.heap.size) (by simp)).alloc _).alloc _).alloc _).alloc _)
  have b1 : Has (((((w.alloc (.cells #[.slice A N c] 36)).alloc (.cells #[.slice A' K c'] 36)).alloc (.cells #[.int .i64 (d : Int), .slice F fs.length c1] 33)).alloc (.cells #[.func (.func kf) #[] cap] 118)).alloc (.cells #[.int .i64 0, .slice none 0 0] 33)) (w.heap.size + 1) 36 #[.slice A' K c'] := ((((Has.newAt (w := (w.alloc (.cells #[.slice A N c] 36))) (e := 36) (cs := #[.slice A' K c']) (k := w.heap.size + 1) (by simp)).alloc _).alloc _).alloc _)
  have b2 : Has (((((w.alloc (.cells #[.slice A N c] 36)).alloc (.cells #[.slice A' K c'] 36)).alloc (.cells #[.int .i64 (d : Int), .slice F fs.length c1] 33)).alloc (.cells #[.func (.func kf) #[] cap] 118)).alloc (.cells #[.int .i64 0, .slice none 0 0] 33)) (w.heap.size + 1 + 1) 33 #[.int .i64 (d : Int), .slice F fs.length c1] := (((Has.newAt (w := ((w.alloc (.cells #[.slice A N c] 36)).alloc (.cells #[.slice A' K c'] 36))) (e := 33) (cs := #[.int .i64 (d : Int), .slice F fs.length c1]) (k := w.heap.size + 1 + 1) (by simp)).alloc _).alloc _)
  have b3 : Has (((((w.alloc (.cells #[.slice A N c] 36)).alloc (.cells #[.slice A' K c'] 36)).alloc (.cells #[.int .i64 (d : Int), .slice F fs.length c1] 33)).alloc (.cells #[.func (.func kf) #[] cap] 118)).alloc (.cells #[.int .i64 0, .slice none 0 0] 33)) (w.heap.size + 1 + 1 + 1) 118 #[.func (.func kf) #[] cap] := ((Has.newAt (w := (((w.alloc (.cells #[.slice A N c] 36)).alloc (.cells #[.slice A' K c'] 36)).alloc (.cells #[.int .i64 (d : Int), .slice F fs.length c1] 33))) (e := 118) (cs := #[.func (.func kf) #[] cap]) (k := w.heap.size + 1 + 1 + 1) (by simp)).alloc _)
  have b4 : Has (((((w.alloc (.cells #[.slice A N c] 36)).alloc (.cells #[.slice A' K c'] 36)).alloc (.cells #[.int .i64 (d : Int), .slice F fs.length c1] 33)).alloc (.cells #[.func (.func kf) #[] cap] 118)).alloc (.cells #[.int .i64 0, .slice none 0 0] 33)) (w.heap.size + 1 + 1 + 1 + 1) 33 #[.int .i64 0, .slice none 0 0] := (Has.newAt (w := ((((w.alloc (.cells #[.slice A N c] 36)).alloc (.cells #[.slice A' K c'] 36)).alloc (.cells #[.int .i64 (d : Int), .slice F fs.length c1] 33)).alloc (.cells #[.func (.func kf) #[] cap] 118))) (e := 33) (cs := #[.int .i64 0, .slice none 0 0]) (k := w.heap.size + 1 + 1 + 1 + 1) (by simp))
  have hmf : ∀ (fn : Fn) (first cap : Array Value) (w : World), (Instr.makeFunc fn first cap).run Tryz.prog w = .ok (.func fn first cap) w := fun _ _ _ _ => rfl
  have HCW := Lib.hid (cochainWith_any A N c d 129 #[.pointer (some ⟨w.heap.size + 1, 0, none⟩), .pointer (some ⟨w.heap.size + 1 + 1, 0, none⟩), .pointer (some ⟨w.heap.size + 1 + 1 + 1, 0, none⟩)]
    (fun k => pbV V fs N K d k) (((((w.alloc (.cells #[.slice A N c] 36)).alloc (.cells #[.slice A' K c'] 36)).alloc (.cells #[.int .i64 (d : Int), .slice F fs.length c1] 33)).alloc (.cells #[.func (.func kf) #[] cap] 118)).alloc (.cells #[.int .i64 0, .slice none 0 0] 33)) hN8 hN1 (by omega) (enters_of Tryz.func129 (by kernel_rfl) rfl)
    (fun W' he' k hk B e hL _ => pbk1_ex (w.heap.size + 1) (w.heap.size + 1 + 1) (w.heap.size + 1 + 1 + 1) A' F B N K d k kf cap V fs c' c1 e W' (b1.ex he') (b2.ex he') (b3.ex he') (hF.ex (e0.trans he')) hL hK8 hK1 (by omega) (cells_posU hk) hV hfl eg (fun W'' he'' x hx => hf W'' (e0.trans (he'.trans he'')) x hx)))
  have HE0 := Lib.hid e0
  have HB4 := Lib.hid b4
  have c0 := b0.cell 0
  have c2 := b2.cell 0
  have HY : Hid (((List.range (cellsN N d)).map fun k => pbV V fs N K d k) = pbY V fs N K d) := Lib.hid rfl
  rw [HY.out] at HCW
  have HYL := Lib.hid (pbY_len V fs N K d)
  obtain ⟨ys, hys⟩ : ∃ ys, pbY V fs N K d = ys := ⟨_, rfl⟩
  rw [hys] at HCW HYL ⊢
  obtain ⟨cn, hcn⟩ : ∃ cn, cellsN N d = cn := ⟨_, rfl⟩
  rw [hcn] at HCW HYL ⊢
  clear hF hV hfl eg hf b0 b1 b2 b3 b4 e0 hys hcn HY
  go_enter Tryz.func87, Tryz.ntmps87
  go_wp2_with fail
  generalize (((((w.alloc (.cells #[.slice A N c] 36)).alloc (.cells #[.slice A' K c'] 36)).alloc (.cells #[.int .i64 (d : Int), .slice F fs.length c1] 33)).alloc (.cells #[.func (.func kf) #[] cap] 118)).alloc (.cells #[.int .i64 0, .slice none 0 0] 33)) = W0 at *
  refine HCW.out.mono ?_
  rintro e W1 ⟨A5, n5, rfl, he1, ho1⟩
  have HB41 := Lib.hid (HB4.out.ex he1)
  have k0 := HB41.out.cell 0
  have k1 := HB41.out.cell 1
  have f0 := HB41.out.free 0
  have f1 := HB41.out.free 1
  have hlt := HB4.out.lt
  have hlw := HE0.out.size
  have HE1 := Lib.hid (HE0.out.trans he1)
  have HO1 := Lib.hid ho1
  clear he1 ho1 HCW c0 c2
  go_wp2_with fail
  have H4 := HB41.out.put2 (u := .int .i64 (d : Int)) (v := .slice A5 cn n5)
  have c4 := H4.cell 0
  have c4' := H4.cell 1
  refine bodyPost_ret (v := .agg #[.int .i64 (d : Int), .slice A5 cn n5]) (by simp [results, Tryz.results87, go_sem, c4, c4']) rfl ⟨A5, n5, rfl, (HE1.out.setCell (by show w.heap.size ≤ w.heap.size + 1 + 1 + 1 + 1; omega) _).setCell (by show w.heap.size ≤ w.heap.size + 1 + 1 + 1 + 1; omega) _, ?_⟩
  exact ((HO1.out.above (Only.set _ _ _ _) hlt).above (Only.set _ _ _ _) hlt).mono hlw (by simp) (Nat.le_refl _)

/-- The values of a cochain, led by a unit. -/
noncomputable def ledY (M : Nat) (u : Int) (fs : List Int) : List Int := (List.range fs.length).map fun k => u * nth fs k % (M : Int)
theorem ledY_len (M : Nat) (u : Int) (fs : List Int) : (ledY M u fs).length = fs.length := by simp [ledY]

set_option maxRecDepth 100000 in
set_option maxHeartbeats 2000000 in
theorem led1_ex (Bm Bc : Nat) (U : Option Addr) (M c : Nat) (us : List Int) (c1 : Nat) (x : Int) (w : World) (hM : Has w Bm 38 #[.int .i64 (M : Int), .slice U us.length c1]) (hC : Has w Bc 2 #[.int .i64 (c : Int)])
    (hU : IntsW w U us) (hM2 : 2 ≤ M) (hM12 : M ≤ 12) (_ : us.length ≤ 8) (hr : InR M us) (hc : c < us.length) (hx : 0 ≤ x ∧ x < M) :
    Calls Tryz.prog 107 #[.int .i64 x, .pointer (some ⟨Bm, 0, none⟩), .pointer (some ⟨Bc, 0, none⟩)] w fun e w' => e = .returned (.int .i64 (nth us c * x % (M : Int))) ∧ Ex w w' := by
  obtain ⟨bu, ou, rfl, hbu, hcu⟩ := hU.ints.at_ hc
  have hub := hr c hc
  obtain ⟨u, hu⟩ : ∃ u, nth us c = u := ⟨_, rfl⟩
  rw [hu] at hub hcu ⊢
  have huv0 : 0 ≤ u * x := Int.mul_nonneg hub.1 hx.1
  have huv : u * x ≤ 144 := by
    have h1 : u * x ≤ 12 * x := Int.mul_le_mul_of_nonneg_right (by omega) hx.1
    omega
  have hM0 : ¬ M = 0 := by omega
  have hwm : IntKind.i64.wrap (u * x) = u * x := IntWalk.i64_in _ (by omega)
  have HTM : Hid (Int.tmod (u * x) (M : Int) = u * x % (M : Int)) := Lib.hid (Int.tmod_eq_emod_of_nonneg huv0)
  have HSK := Lib.hid (fun W (he : Ex w W) => And.intro ((hM.ex he).cell 0) (And.intro ((hM.ex he).cell 1) (And.intro ((hC.ex he).cell 0) ((he.below.cell (p := ⟨bu, ou + c, none⟩) hbu).trans hcu))))
  clear hM hC hU hr hu hcu
  go_enter Tryz.func107, Tryz.ntmps107
  go_wp2_with fail
  refine wp_region_quiet (C := fun w' => Ex w w') (by kernel_rfl) (by kernel_rfl) (Ex.refl w).drew ?_
  refine BigFrame.wpQuiet_want (by rfl) fun K hK => ⟨?_, fun w' hC => ?_, hK _ ?_⟩
  rotate_left
  · (obtain ⟨q0, q1, q2, q3⟩ := HSK.out _ hC; go_simp; first | done | with_reducible rfl | exact ⟨rfl, hC⟩)
  clear hK K
  simp only [Act.put, List.setIfInBounds_toArray, List.set_cons_zero, List.set_cons_succ]
  refine BigFrame.wpQuiet_want (by rfl) fun K hK => ⟨?_, fun w' hC => ?_, hK _ ?_⟩
  rotate_left
  · (obtain ⟨q0, q1, q2, q3⟩ := HSK.out _ hC; go_simp; first | done | with_reducible rfl | exact ⟨rfl, hC⟩)
  clear hK K
  simp only [Act.put, List.setIfInBounds_toArray, List.set_cons_zero, List.set_cons_succ]
  refine BigFrame.wpQuiet_want (by rfl) fun K hK => ⟨?_, fun w' hC => ?_, hK _ ?_⟩
  rotate_left
  · (obtain ⟨q0, q1, q2, q3⟩ := HSK.out _ hC; go_simp; first | done | with_reducible rfl | exact ⟨rfl, hC⟩)
  clear hK K
  simp only [Act.put, List.setIfInBounds_toArray, List.set_cons_zero, List.set_cons_succ]
  refine BigFrame.wpQuiet_want (by rfl) fun K hK => ⟨?_, fun w' hC => ?_, hK _ ?_⟩
  rotate_left
  · (obtain ⟨q0, q1, q2, q3⟩ := HSK.out _ hC; go_simp; first | done | with_reducible rfl | exact ⟨rfl, hC⟩)
  clear hK K
  simp only [Act.put, List.setIfInBounds_toArray, List.set_cons_zero, List.set_cons_succ]
  refine BigFrame.wpQuiet_want (by rfl) fun K hK => ⟨?_, fun w' hC => ?_, hK _ ?_⟩
  rotate_left
  · (obtain ⟨q0, q1, q2, q3⟩ := HSK.out _ hC; go_simp; first | done | with_reducible rfl | exact ⟨rfl, hC⟩)
  clear hK K
  simp only [Act.put, List.setIfInBounds_toArray, List.set_cons_zero, List.set_cons_succ]
  refine BigFrame.wpQuiet_want (by rfl) fun K hK => ⟨?_, fun w' hC => ?_, hK _ ?_⟩
  rotate_left
  · (obtain ⟨q0, q1, q2, q3⟩ := HSK.out _ hC; go_simp; first | done | with_reducible rfl | exact ⟨rfl, hC⟩)
  clear hK K
  simp only [Act.put, List.setIfInBounds_toArray, List.set_cons_zero, List.set_cons_succ]
  refine BigFrame.wpQuiet_want (by rfl) fun K hK => ⟨?_, fun w' hC => ?_, hK _ ?_⟩
  rotate_left
  · (obtain ⟨q0, q1, q2, q3⟩ := HSK.out _ hC; go_simp; first | done | with_reducible rfl | exact ⟨rfl, hC⟩)
  clear hK K
  simp only [Act.put, List.setIfInBounds_toArray, List.set_cons_zero, List.set_cons_succ]
  refine BigFrame.wpQuiet_want (by rfl) fun K hK => ⟨?_, fun w' hC => ?_, hK _ ?_⟩
  rotate_left
  · (obtain ⟨q0, q1, q2, q3⟩ := HSK.out _ hC; go_simp; first | done | with_reducible rfl | exact ⟨rfl, hC⟩)
  clear hK K
  simp only [Act.put, List.setIfInBounds_toArray, List.set_cons_zero, List.set_cons_succ]
  refine BigFrame.wpQuiet_want (by rfl) fun K hK => ⟨?_, fun w' hC => ?_, hK _ ?_⟩
  rotate_left
  · (obtain ⟨q0, q1, q2, q3⟩ := HSK.out _ hC; go_simp; first | done | with_reducible rfl | exact ⟨rfl, hC⟩)
  clear hK K
  simp only [Act.put, List.setIfInBounds_toArray, List.set_cons_zero, List.set_cons_succ]
  refine BigFrame.wpQuiet_want (by rfl) fun K hK => ⟨?_, fun w' hC => ?_, hK _ ?_⟩
  rotate_left
  · (obtain ⟨q0, q1, q2, q3⟩ := HSK.out _ hC; go_simp; first | done | with_reducible rfl | exact ⟨rfl, hC⟩)
  clear hK K
  simp only [Act.put, List.setIfInBounds_toArray, List.set_cons_zero, List.set_cons_succ]
  refine BigFrame.wpQuiet_want (by rfl) fun K hK => ⟨?_, fun w' hC => ?_, hK _ ?_⟩
  rotate_left
  · (obtain ⟨q0, q1, q2, q3⟩ := HSK.out _ hC; go_simp; first | done | with_reducible rfl | exact ⟨rfl, hC⟩)
  clear hK K
  simp only [Act.put, List.setIfInBounds_toArray, List.set_cons_zero, List.set_cons_succ]
  refine wpQuiet_nil ?_
  intro w2 hC2
  have HC2 := Lib.hid hC2
  clear hC2
  go_wp2_with fail
  go_ret
  exact ⟨by rw [← HTM.out]; rfl, HC2.out⟩

set_option maxRecDepth 100000 in
set_option maxHeartbeats 2000000 in
theorem ledCochain_any (U F : Option Addr) (M d c : Nat) (us fs : List Int) (c1 c2 : Nat) (w : World) (hU : IntsW w U us) (hF : IntsW w F fs) (hM2 : 2 ≤ M) (hM12 : M ≤ 12) (hl : us.length ≤ 8) (hr : InR M us) (hc : c < us.length) (hfr : InR M fs) (hfl : fs.length ≤ 1048576) :
    Calls Tryz.prog 66 #[.agg #[.int .i64 (M : Int), .slice U us.length c1], .int .i64 (c : Int), .agg #[.int .i64 (d : Int), .slice F fs.length c2]] w fun e w' => ∃ A5 n5, e = .returned (.agg #[.int .i64 (d : Int), .slice A5 (ledY M (nth us c) fs).length n5]) ∧ Ex w w' ∧ OwnL w' w.heap.size w'.heap.size A5 (ledY M (nth us c) fs) := by
  have e0 : Ex w ((((w.alloc (.cells #[.int .i64 (M : Int), .slice U us.length c1] 38)).alloc (.cells #[.int .i64 (c : Int)] 2)).alloc (.cells #[.int .i64 (d : Int), .slice F fs.length c2] 33)).alloc (.cells #[.int .i64 0, .slice none 0 0] 33)) := ((((Ex.refl w).alloc _).alloc _).alloc _).alloc _
  have b0 : Has ((((w.alloc (.cells #[.int .i64 (M : Int), .slice U us.length c1] 38)).alloc (.cells #[.int .i64 (c : Int)] 2)).alloc (.cells #[.int .i64 (d : Int), .slice F fs.length c2] 33)).alloc (.cells #[.int .i64 0, .slice none 0 0] 33)) (w.heap.size) 38 #[.int .i64 (M : Int), .slice U us.length c1] := ((((Has.newAt (w := w) (e := 38) (cs := #[.int .i64 (M : Int), .slice U us.length c1]) (k := w.heap.size) (by simp)).alloc _).alloc _).alloc _)
  have b1 : Has ((((w.alloc (.cells #[.int .i64 (M : Int), .slice U us.length c1] 38)).alloc (.cells #[.int .i64 (c : Int)] 2)).alloc (.cells #[.int .i64 (d : Int), .slice F fs.length c2] 33)).alloc (.cells #[.int .i64 0, .slice none 0 0] 33)) (w.heap.size + 1) 2 #[.int .i64 (c : Int)] := (((Has.newAt (w := (w.alloc (.cells #[.int .i64 (M : Int), .slice U us.length c1] 38))) (e := 2) (cs := #[.int .i64 (c : Int)]) (k := w.heap.size + 1) (by simp)).alloc _).alloc _)
  have b2 : Has ((((w.alloc (.cells #[.int .i64 (M : Int), .slice U us.length c1] 38)).alloc (.cells #[.int .i64 (c : Int)] 2)).alloc (.cells #[.int .i64 (d : Int), .slice F fs.length c2] 33)).alloc (.cells #[.int .i64 0, .slice none 0 0] 33)) (w.heap.size + 1 + 1) 33 #[.int .i64 (d : Int), .slice F fs.length c2] := ((Has.newAt (w := ((w.alloc (.cells #[.int .i64 (M : Int), .slice U us.length c1] 38)).alloc (.cells #[.int .i64 (c : Int)] 2))) (e := 33) (cs := #[.int .i64 (d : Int), .slice F fs.length c2]) (k := w.heap.size + 1 + 1) (by simp)).alloc _)
  have b3 : Has ((((w.alloc (.cells #[.int .i64 (M : Int), .slice U us.length c1] 38)).alloc (.cells #[.int .i64 (c : Int)] 2)).alloc (.cells #[.int .i64 (d : Int), .slice F fs.length c2] 33)).alloc (.cells #[.int .i64 0, .slice none 0 0] 33)) (w.heap.size + 1 + 1 + 1) 33 #[.int .i64 0, .slice none 0 0] := (Has.newAt (w := (((w.alloc (.cells #[.int .i64 (M : Int), .slice U us.length c1] 38)).alloc (.cells #[.int .i64 (c : Int)] 2)).alloc (.cells #[.int .i64 (d : Int), .slice F fs.length c2] 33))) (e := 33) (cs := #[.int .i64 0, .slice none 0 0]) (k := w.heap.size + 1 + 1 + 1) (by simp))
  have hmf : ∀ (fn : Fn) (first cap : Array Value) (w : World), (Instr.makeFunc fn first cap).run Tryz.prog w = .ok (.func fn first cap) w := fun _ _ _ _ => rfl
  have HML : Hid (∀ W, Ex ((((w.alloc (.cells #[.int .i64 (M : Int), .slice U us.length c1] 38)).alloc (.cells #[.int .i64 (c : Int)] 2)).alloc (.cells #[.int .i64 (d : Int), .slice F fs.length c2] 33)).alloc (.cells #[.int .i64 0, .slice none 0 0] 33)) W → Calls Tryz.prog 102 #[.slice F fs.length c2, .func (.func 107) #[] #[.pointer (some ⟨w.heap.size, 0, none⟩), .pointer (some ⟨w.heap.size + 1, 0, none⟩)]] W fun e w' => ∃ C0 e0, e = .returned (.slice C0 (ledY M (nth us c) fs).length e0) ∧ Ex W w' ∧ OwnL w' W.heap.size w'.heap.size C0 (ledY M (nth us c) fs)) := Lib.hid (fun W he => mappedList_any F fs c2 107 #[.pointer (some ⟨w.heap.size, 0, none⟩), .pointer (some ⟨w.heap.size + 1, 0, none⟩)] (fun k => nth us c * nth fs k % (M : Int)) W (hF.ex (e0.trans he)) hfl
    (enters_of Tryz.func107 (by kernel_rfl) rfl)
    (fun W' he' k hk => led1_ex w.heap.size (w.heap.size + 1) U M c us c1 (nth fs k) W' (b0.ex (he.trans he')) (b1.ex (he.trans he')) (hU.ex (e0.trans (he.trans he'))) hM2 hM12 hl hr hc (hfr k hk)))
  obtain ⟨ys, hys⟩ : ∃ ys, ledY M (nth us c) fs = ys := ⟨_, rfl⟩
  rw [hys] at HML ⊢
  have HE0 := Lib.hid e0
  have HB2 := Lib.hid b2
  have HB3 := Lib.hid b3
  have hC0 := And.intro (b2.cell 0) (b2.cell 1)
  have hlt := b3.lt
  clear hU hF hr hfr b0 b1 b2 b3 e0 hys
  go_enter Tryz.func66, Tryz.ntmps66
  go_wp2_with fail
  generalize ((((w.alloc (.cells #[.int .i64 (M : Int), .slice U us.length c1] 38)).alloc (.cells #[.int .i64 (c : Int)] 2)).alloc (.cells #[.int .i64 (d : Int), .slice F fs.length c2] 33)).alloc (.cells #[.int .i64 0, .slice none 0 0] 33)) = W0 at *
  refine Late.region (C := fun w' => w'.cell? ⟨w.heap.size + 1 + 1, 0, none⟩ = some (.int .i64 (d : Int)) ∧ w'.cell? ⟨w.heap.size + 1 + 1, 1, none⟩ = some (.slice F fs.length c2)) (fun j => decide (j < 7)) (by kernel_rfl) hC0 (fun hC => ?_)
  refine Late.take (i := 0) (oi := _) (v := ?_) rfl (by kernel_rfl) (by kernel_rfl) (by kernel_rfl) (by kernel_rfl) (fun _ _ _ h => h) (Or.inl ⟨by rfl, ?_⟩) hC ?_
  rotate_left
  · (intro w hSw; (try dsimp only at hSw); go_simp; first | done | with_reducible rfl)
  simp only [Act.put]
  refine Late.take (i := 1) (oi := _) (v := ?_) rfl (by kernel_rfl) (by kernel_rfl) (by kernel_rfl) (by kernel_rfl) (fun _ _ _ h => h) (Or.inl ⟨by rfl, ?_⟩) hC ?_
  rotate_left
  · (intro w hSw; (try dsimp only at hSw); go_simp; first | done | with_reducible rfl)
  simp only [Act.put]
  refine Late.take (i := 2) (oi := _) (v := ?_) rfl (by kernel_rfl) (by kernel_rfl) (by kernel_rfl) (by kernel_rfl) (fun _ _ _ h => h) (Or.inl ⟨by rfl, ?_⟩) hC ?_
  rotate_left
  · (intro w hSw; (try dsimp only at hSw); go_simp; first | done | with_reducible rfl)
  simp only [Act.put]
  refine Late.take (i := 3) (oi := _) (v := ?_) rfl (by kernel_rfl) (by kernel_rfl) (by kernel_rfl) (by kernel_rfl) (fun _ _ _ h => h) (Or.inl ⟨by rfl, ?_⟩) hC ?_
  rotate_left
  · (intro w hSw; (try dsimp only at hSw); go_simp; first | done | with_reducible rfl)
  simp only [Act.put]
  refine Late.take (i := 4) (oi := _) (v := ?_) rfl (by kernel_rfl) (by kernel_rfl) (by kernel_rfl) (by kernel_rfl) (fun _ _ _ h => h) (Or.inl ⟨by rfl, ?_⟩) hC ?_
  rotate_left
  · (intro w hSw; (try dsimp only at hSw); go_simp; first | done | with_reducible rfl)
  simp only [Act.put]
  refine Late.one (i := 5) (o := _) (by kernel_rfl) rfl (fun K' hK' => ?_)
  go_simp
  refine (HML.out W0.drew (Ex.refl W0).drew).mono ?_
  rintro e W1 ⟨A5, n5, rfl, he1, ho1⟩
  have hx1 : Ex W0 W1 := (Ex.refl W0).drew.trans he1
  have hC1 := And.intro ((HB2.out.ex hx1).cell 0) ((HB2.out.ex hx1).cell 1)
  have HB31 := Lib.hid (HB3.out.ex hx1)
  have k0 := HB31.out.cell 0
  have k1 := HB31.out.cell 1
  have f0 := HB31.out.free 0
  have f1 := HB31.out.free 1
  have hlw := HE0.out.size
  have HE1 := Lib.hid (HE0.out.trans hx1)
  have HO1 := Lib.hid ho1
  have hlt1 : w.heap.size + 1 + 1 + 1 < W0.drew.heap.size := hlt
  have hlw1 : w.heap.size ≤ W0.drew.heap.size := hlw
  refine hK'.out _ _ (fun _ => hC1) (fun _ => ?_)
  clear hK' K' hC hC0 he1 ho1 hx1
  try simp only [Act.put, List.setIfInBounds_toArray, List.set_cons_zero, List.set_cons_succ]
  refine Late.take (i := 6) (oi := _) (v := ?_) rfl (by kernel_rfl) (by kernel_rfl) (by kernel_rfl) (by kernel_rfl) (fun _ _ _ h => h) (Or.inl ⟨by rfl, ?_⟩) hC1 ?_
  rotate_left
  · (intro w hSw; (try dsimp only at hSw); go_simp; first | done | with_reducible rfl)
  simp only [Act.put]
  refine Late.one (i := 7) (o := _) (by kernel_rfl) rfl (fun K' hK' => ?_)
  go_simp
  refine hK'.out _ _ (fun h => by cases h) (fun _ => ?_)
  clear hK' K' hC1
  try simp only [Act.put, List.setIfInBounds_toArray, List.set_cons_zero, List.set_cons_succ]
  refine Late.done (by kernel_rfl) ?_ _
  go_wp2_with fail
  have H4 := HB31.out.put2 (u := .int .i64 (d : Int)) (v := .slice A5 ys.length n5)
  have c4 := H4.cell 0
  have c4' := H4.cell 1
  refine bodyPost_ret (v := .agg #[.int .i64 (d : Int), .slice A5 ys.length n5]) (by simp [results, Tryz.results66, go_sem, c4, c4']) rfl ⟨A5, n5, rfl, (HE1.out.setCell (by show w.heap.size ≤ w.heap.size + 1 + 1 + 1; omega) _).setCell (by show w.heap.size ≤ w.heap.size + 1 + 1 + 1; omega) _, ?_⟩
  exact ((HO1.out.above (Only.set _ _ _ _) hlt1).above (Only.set _ _ _ _) hlt1).mono hlw1 (by simp) (Nat.le_refl _)

end Go.Proofs.YtfnjpbjlikajbaaGreatDoor
