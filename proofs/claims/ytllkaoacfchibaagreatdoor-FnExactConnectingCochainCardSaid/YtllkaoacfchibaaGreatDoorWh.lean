/- Chapter 8: cochains that are changed by a method's value, by the program. -/
import Derived.Test.YtllkaoacfchibaaGreatDoorWd
import Derived.Test.YtllkaoacfchibaaGreatDoorCel
namespace Go.Proofs.YtllkaoacfchibaaGreatDoor
open Go.RowKit

set_option maxRecDepth 100000 in
set_option maxHeartbeats 2000000 in
theorem mappedM_any (L : Option Addr) (xs : List Int) (c kf : Nat) (nm : String) (T : TypeId) (v : Value) (V : Nat → Int) (w : World) (hX : IntsW w L xs) (hx : xs.length ≤ 1048576)
    (hme : ∀ w, (method 350 T v nm).run Tryz.prog w = .ok (kf, v) w)
    (eg : ∀ args w, (callFunc kf args).run Tryz.prog w = .ok (.enter kf args) w)
    (hF : ∀ W', Ex w W' → ∀ k, k < xs.length → Calls Tryz.prog kf #[v, .int .i64 (nth xs k)] W' fun e w' => e = .returned (.int .i64 (V k)) ∧ Ex W' w') :
    Calls Tryz.prog 156 #[.slice L xs.length c, .func (.method nm) #[.iface T v] #[]] w fun e w' => ∃ C0 e0, e = .returned (.slice C0 ((List.range xs.length).map V).length e0) ∧ Ex w w' ∧ OwnL w' w.heap.size w'.heap.size C0 ((List.range xs.length).map V) := by
  have hmk := makeI xs.length hx
  have HF := Lib.hid hF
  have HEG := Lib.hid eg
  have HME := Lib.hid hme
  have HX := Lib.hid hX
  obtain ⟨g, hg⟩ : ∃ g, w.heap.size = g := ⟨_, rfl⟩
  have HGG := Lib.hid hg
  have hb := Has.new w 2 (tab xs.length fun _ => .int .i64 0)
  have he := Ex.new w (.cells (tab xs.length fun _ => .int .i64 0) 2)
  rw [hg] at hb
  clear hF eg hme hX hg
  go_enter Tryz.func156, Tryz.ntmps156
  go_wp2_with fail
  rw [HGG.out]
  generalize w.alloc (.cells (tab xs.length fun _ => .int .i64 0) 2) = W0 at *
  have HB := Lib.hid hb
  have HE := Lib.hid he
  clear hb he hmk
  go_loopw [13] (fun i wr => ∃ k : Nat, k ≤ xs.length ∧ i = .int .i64 (k : Int) ∧ Hid (Ex w wr) ∧ Hid (Has wr g 2 (tab xs.length fun p => .int .i64 (if p < k then V p else 0)))) (fun i _ => xs.length - (intOf i).toNat)
  case atStart => exact ⟨0, Nat.zero_le _, rfl, HE, Lib.hid (by simpa using HB.out)⟩
  case round =>
    obtain ⟨k, hk, rfl, HE1, HB1⟩ := hrel
    by_cases hlt : k < xs.length
    · obtain ⟨bx, ox, rfl, hbx, hcx⟩ := (HX.out.ex HE1.out).ints.at_ hlt
      have HC := Lib.hid (HF.out wr HE1.out k hlt)
      have hk0 : (0 : Int) ≤ (k : Int) := by omega
      have hkn : (k : Int) < (xs.length : Int) := by omega
      obtain ⟨x, hxx⟩ : ∃ x, nth xs k = x := ⟨_, rfl⟩
      obtain ⟨z, hz⟩ : ∃ z, V k = z := ⟨_, rfl⟩
      rw [hxx] at hcx HC
      rw [hz] at HC
      have HZ := Lib.hid hz
      have hegw := HEG.out
      have hmew := HME.out
      clear hz hxx
      go_wp2_with fail
      refine HC.out.mono ?_
      rintro e' W2 ⟨rfl, he2⟩
      have HE2 := Lib.hid (HE1.out.trans he2)
      have HB2 := Lib.hid (HB1.out.ex he2)
      have c2 : W2.cell? ⟨g, k, none⟩ = some (.int .i64 (if k < k then V k else 0)) := by rw [HB2.out.cell, tab_get hlt]
      have f2 := HB2.out.free k
      have hgw : w.heap.size ≤ g := by have := HGG.out; omega
      clear hegw hmew he2 hcx
      go_wp2_with fail
      go_roundw
      case rel =>
        refine ⟨k + 1, by omega, by go_num, Lib.hid (HE2.out.setCell (p := ⟨g, k, none⟩) hgw _), Lib.hid ?_⟩
        have h := HB2.out.put k (.int .i64 z)
        rw [tab_set hlt] at h
        refine Eq.mp (congrArg (fun f => Has _ g 2 f) (tab_congr fun p hp => ?_)) h
        by_cases hpk : p = k
        · subst hpk
          rw [if_pos rfl, if_pos (by omega), HZ.out]
        · rw [if_neg hpk]
          by_cases h2 : p < k
          · rw [if_pos h2, if_pos (by omega)]
          · rw [if_neg h2, if_neg (by omega)]
      case measure => simp [intOf]; omega
    · obtain rfl : k = xs.length := by omega
      go_wp2_with fail
      go_ret
      refine ⟨some ⟨g, 0, none⟩, _, by simp only [List.length_map, List.length_range]; rfl, HE1.out, OwnL.of_has (n := xs.length) (e := 2) ?_ (by simp) (by have := HGG.out; omega)⟩
      rw [tab_congr (g := fun p => .int .i64 (if p < xs.length then V p else 0)) (fun p hp => by simp [nth, hp])]
      exact HB1.out

theorem meth_factor (n : Nat) (v : Value) (w : World) : (method (n + 1) 149 v "loop.example/g01363/impl.of").run Tryz.prog w = .ok (245, v) w := by kernel_rfl

set_option maxHeartbeats 1000000 in
theorem of_factor (q : Nat) (x : Int) (w : World) (_ : 0 < q) (_ : q ≤ 12) (hx0 : 0 ≤ x) (_ : x < 1048576) :
    Calls Tryz.prog 245 #[.int .i64 (q : Int), .int .i64 x] w fun e w' => e = .returned (.int .i64 ((q : Int) * x)) ∧ Ex w w' := by
  have hxy0 : 0 ≤ x * (q : Int) := Int.mul_nonneg hx0 (by omega)
  have hxy1 : x * (q : Int) ≤ 12 * 1048576 := by
    have h1 : x * (q : Int) ≤ x * 12 := Int.mul_le_mul_of_nonneg_left (by omega) hx0
    omega
  obtain ⟨z, hz'⟩ : ∃ z, x * (q : Int) = z := ⟨_, rfl⟩
  have hwz : IntKind.i64.wrap (x * (q : Int)) = z := by rw [hz']; exact IntWalk.i64_in _ (by omega)
  have HZ : Hid ((q : Int) * x = z) := Lib.hid (by rw [Int.mul_comm]; exact hz')
  clear hz'
  go_enter Tryz.func245, Tryz.ntmps245
  go_wp2_with fail
  go_ret
  exact ⟨by rw [HZ.out]; rfl, Ex.refl _⟩

set_option maxRecDepth 100000 in
set_option maxHeartbeats 4000000 in
theorem changed_factor (Fa : Option Addr) (n : Int) (fs : List Int) (q c1 : Nat) (w : World) (hX : IntsW w Fa fs) (hfl : fs.length ≤ 343) (hfr : InR 1048576 fs) (hq0 : 0 < q) (hq : q ≤ 12) :
    Calls Tryz.prog 122 #[.agg #[.int .i64 n, .slice Fa fs.length c1], .int .i64 (q : Int)] w fun e w' => ∃ C0 n0, e = .returned (.agg #[.int .i64 n, .slice C0 fs.length n0]) ∧ Ex w w' ∧ OwnL w' w.heap.size w'.heap.size C0 (tmL fs q) := by
  have e0 : Ex w ((w.alloc (.cells #[.int .i64 n, .slice Fa fs.length c1] 33)).alloc (.cells #[.int .i64 0, .slice none 0 0] 33)) := ((Ex.refl w).alloc _).alloc _
  have b0 : Has ((w.alloc (.cells #[.int .i64 n, .slice Fa fs.length c1] 33)).alloc (.cells #[.int .i64 0, .slice none 0 0] 33)) (w.heap.size) 33 #[.int .i64 n, .slice Fa fs.length c1] := ((Has.newAt (w := w) (e := 33) (cs := #[.int .i64 n, .slice Fa fs.length c1]) (k := w.heap.size) (by simp)).alloc _)
  have b1 : Has ((w.alloc (.cells #[.int .i64 n, .slice Fa fs.length c1] 33)).alloc (.cells #[.int .i64 0, .slice none 0 0] 33)) (w.heap.size + 1) 33 #[.int .i64 0, .slice none 0 0] := (Has.newAt (w := (w.alloc (.cells #[.int .i64 n, .slice Fa fs.length c1] 33))) (e := 33) (cs := #[.int .i64 0, .slice none 0 0]) (k := w.heap.size + 1) (by simp))
  have hmf : ∀ (fn : Fn) (first cap : Array Value) (w : World), (Instr.makeFunc fn first cap).run Tryz.prog w = .ok (.func fn first cap) w := fun _ _ _ _ => rfl
  have HML : Hid (∀ W, Ex w W → Calls Tryz.prog 156 #[.slice Fa fs.length c1, .func (.method "loop.example/g01363/impl.of") #[.iface 149 (.int .i64 (q : Int))] #[]] W fun e w' => ∃ C0 e0, e = .returned (.slice C0 (tmL fs q).length e0) ∧ Ex W w' ∧ OwnL w' W.heap.size w'.heap.size C0 (tmL fs q)) := Lib.hid (fun W he => mappedM_any Fa fs c1 245 "loop.example/g01363/impl.of" 149 (.int .i64 (q : Int)) (fun k => (q : Int) * nth fs k) W (hX.ex he) (by omega) (fun w => meth_factor 349 _ w)
    (enters_of Tryz.func245 (by kernel_rfl) rfl) (fun W' _ k hk => of_factor q (nth fs k) W' hq0 hq (hfr k hk).1 (hfr k hk).2))
  have HL : Hid ((tmL fs q).length = fs.length) := Lib.hid tmL_len
  obtain ⟨ys, hys⟩ : ∃ ys, tmL fs q = ys := ⟨_, rfl⟩
  rw [hys] at HML HL ⊢
  have HE0 := Lib.hid e0
  have HB0 := Lib.hid b0
  have HB1 := Lib.hid b1
  have hC0 := And.intro (b0.cell 0) (b0.cell 1)
  have hlt := b1.lt
  have hlw := e0.size
  clear hX hfr b0 b1 e0 hys
  go_enter Tryz.func122, Tryz.ntmps122
  go_wp2_with fail
  generalize ((w.alloc (.cells #[.int .i64 n, .slice Fa fs.length c1] 33)).alloc (.cells #[.int .i64 0, .slice none 0 0] 33)) = W0 at *
  refine Late.region (C := fun w' => w'.cell? ⟨w.heap.size, 0, none⟩ = some (.int .i64 n) ∧ w'.cell? ⟨w.heap.size, 1, none⟩ = some (.slice Fa fs.length c1)) (fun j => decide (j < 9)) (by kernel_rfl) hC0 (fun hC => ?_)
  refine Late.take (i := 0) (oi := _) (v := ?_) rfl (by kernel_rfl) (by kernel_rfl) (by kernel_rfl) (by kernel_rfl) (fun _ _ _ h => h) (Or.inl ⟨by rfl, ?_⟩) hC ?_
  rotate_left
  · (intro w hSw; (try dsimp only at hSw); go_simp; first | done | with_reducible rfl)
  simp only [Act.put]
  refine Late.take (i := 1) (oi := _) (v := ?_) rfl (by kernel_rfl) (by kernel_rfl) (by kernel_rfl) (by kernel_rfl) (fun _ _ _ h => h) (Or.inl ⟨by rfl, ?_⟩) hC ?_
  rotate_left
  · (intro w hSw; (try dsimp only at hSw); go_simp; first | done | with_reducible rfl)
  simp only [Act.put]
  refine Late.take (i := 2) (oi := _) (v := ?_) rfl (by kernel_rfl) (by kernel_rfl) (by kernel_rfl) (by kernel_rfl) (fun _ _ _ h => h) (Or.inl ⟨by rfl, ?_⟩) hC ?_
  rotate_left
  · (intro w hSw; (try dsimp only at hSw); go_simp; first | done | with_reducible rfl)
  simp only [Act.put]
  refine Late.take (i := 3) (oi := _) (v := ?_) rfl (by kernel_rfl) (by kernel_rfl) (by kernel_rfl) (by kernel_rfl) (fun _ _ _ h => h) (Or.inl ⟨by rfl, ?_⟩) hC ?_
  rotate_left
  · (intro w hSw; (try dsimp only at hSw); go_simp; first | done | with_reducible rfl)
  simp only [Act.put]
  refine Late.take (i := 4) (oi := _) (v := ?_) rfl (by kernel_rfl) (by kernel_rfl) (by kernel_rfl) (by kernel_rfl) (fun _ _ _ h => h) (Or.inl ⟨by rfl, ?_⟩) hC ?_
  rotate_left
  · (intro w hSw; (try dsimp only at hSw); go_simp; first | done | with_reducible rfl)
  simp only [Act.put]
  refine Late.take (i := 5) (oi := _) (v := ?_) rfl (by kernel_rfl) (by kernel_rfl) (by kernel_rfl) (by kernel_rfl) (fun _ _ _ h => h) (Or.inl ⟨by rfl, ?_⟩) hC ?_
  rotate_left
  · (intro w hSw; (try dsimp only at hSw); go_simp; first | done | with_reducible rfl)
  simp only [Act.put]
  refine Late.take (i := 6) (oi := _) (v := ?_) rfl (by kernel_rfl) (by kernel_rfl) (by kernel_rfl) (by kernel_rfl) (fun _ _ _ h => h) (Or.inl ⟨by rfl, ?_⟩) hC ?_
  rotate_left
  · (intro w hSw; (try dsimp only at hSw); go_simp; first | done | with_reducible rfl)
  simp only [Act.put]
  refine Late.one (i := 7) (o := _) (by kernel_rfl) rfl (fun K' hK' => ?_)
  go_simp
  refine (HML.out W0.drew HE0.out.drew).mono ?_
  rintro e W1 ⟨A5, n5, rfl, he1, ho1⟩
  rw [HL.out]
  have hx1 : Ex W0 W1 := (Ex.refl W0).drew.trans he1
  have hC1 := And.intro ((HB0.out.ex hx1).cell 0) ((HB0.out.ex hx1).cell 1)
  have HB11 := Lib.hid (HB1.out.ex hx1)
  have k0 := HB11.out.cell 0
  have k1 := HB11.out.cell 1
  have f0 := HB11.out.free 0
  have f1 := HB11.out.free 1
  have HE1 := Lib.hid (HE0.out.trans hx1)
  have HO1 := Lib.hid ho1
  have hlt' : w.heap.size + 1 < W0.drew.heap.size := hlt
  have hlw' : w.heap.size ≤ W0.drew.heap.size := hlw
  refine hK'.out _ _ (fun _ => hC1) (fun _ => ?_)
  clear hK' K' hC hC0 he1 ho1 hx1
  try simp only [Act.put]
  refine Late.one (i := 8) (o := _) (by kernel_rfl) rfl (fun K' hK' => ?_)
  go_simp
  refine hK'.out _ _ (fun _ => hC1) (fun _ => ?_)
  clear hK' K'
  try simp only [Act.put]
  refine Late.one (i := 9) (o := _) (by kernel_rfl) rfl (fun K' hK' => ?_)
  go_simp
  refine hK'.out _ _ (fun h => by cases h) (fun _ => ?_)
  clear hK' K' hC1
  try simp only [Act.put]
  refine Late.done (by kernel_rfl) ?_ _
  go_wp2_with fail
  have H4 := HB11.out.put2 (u := .int .i64 n) (v := .slice A5 fs.length n5)
  have c4 := H4.cell 0
  have c4' := H4.cell 1
  refine bodyPost_ret (v := .agg #[.int .i64 n, .slice A5 fs.length n5]) (by simp [results, Tryz.results122, go_sem, c4, c4']) rfl ⟨A5, n5, rfl, (HE1.out.setCell (by show w.heap.size ≤ w.heap.size + 1; omega) _).setCell (by show w.heap.size ≤ w.heap.size + 1; omega) _, ?_⟩
  exact ((HO1.out.above (Only.set _ _ _ _) hlt').above (Only.set _ _ _ _) hlt').mono hlw' (by simp) (Nat.le_refl _)

theorem meth_modulus (n : Nat) (v : Value) (w : World) : (method (n + 1) 151 v "loop.example/g01363/impl.of").run Tryz.prog w = .ok (246, v) w := by kernel_rfl

set_option maxHeartbeats 1000000 in
theorem of_modulus (q : Nat) (x : Int) (w : World) (_ : 0 < q) (_ : q ≤ 12) (hx0 : 0 ≤ x) (_ : x < 1048576) :
    Calls Tryz.prog 246 #[.int .i64 (q : Int), .int .i64 x] w fun e w' => e = .returned (.int .i64 (x % (q : Int))) ∧ Ex w w' := by
  have hne : ((q : Int) != 0) = true := by simp; omega
  have hne0 : ¬ q = 0 := by omega
  have hm0 := Int.emod_nonneg x (show (q : Int) ≠ 0 by omega)
  have hm1 := Int.emod_lt_of_pos x (show (0 : Int) < q by omega)
  obtain ⟨z, hz'⟩ : ∃ z, x % (q : Int) = z := ⟨_, rfl⟩
  have hwz : Int.tmod x (q : Int) = z := by rw [Int.tmod_eq_emod_of_nonneg hx0, hz']
  rw [hz'] at hm0 hm1
  have hwz' : IntKind.i64.wrap z = z := IntWalk.i64_in _ (by omega)
  have HZ : Hid (x % (q : Int) = z) := Lib.hid hz'
  clear hz'
  go_enter Tryz.func246, Tryz.ntmps246
  go_wp2_with fail
  go_ret
  exact ⟨by rw [HZ.out]; rfl, Ex.refl _⟩

set_option maxRecDepth 100000 in
set_option maxHeartbeats 4000000 in
theorem changed_modulus (Fa : Option Addr) (n : Int) (fs : List Int) (q c1 : Nat) (w : World) (hX : IntsW w Fa fs) (hfl : fs.length ≤ 343) (hfr : InR 1048576 fs) (hq0 : 0 < q) (hq : q ≤ 12) :
    Calls Tryz.prog 124 #[.agg #[.int .i64 n, .slice Fa fs.length c1], .int .i64 (q : Int)] w fun e w' => ∃ C0 n0, e = .returned (.agg #[.int .i64 n, .slice C0 fs.length n0]) ∧ Ex w w' ∧ OwnL w' w.heap.size w'.heap.size C0 (rsL fs q) := by
  have e0 : Ex w ((w.alloc (.cells #[.int .i64 n, .slice Fa fs.length c1] 33)).alloc (.cells #[.int .i64 0, .slice none 0 0] 33)) := ((Ex.refl w).alloc _).alloc _
  have b0 : Has ((w.alloc (.cells #[.int .i64 n, .slice Fa fs.length c1] 33)).alloc (.cells #[.int .i64 0, .slice none 0 0] 33)) (w.heap.size) 33 #[.int .i64 n, .slice Fa fs.length c1] := ((Has.newAt (w := w) (e := 33) (cs := #[.int .i64 n, .slice Fa fs.length c1]) (k := w.heap.size) (by simp)).alloc _)
  have b1 : Has ((w.alloc (.cells #[.int .i64 n, .slice Fa fs.length c1] 33)).alloc (.cells #[.int .i64 0, .slice none 0 0] 33)) (w.heap.size + 1) 33 #[.int .i64 0, .slice none 0 0] := (Has.newAt (w := (w.alloc (.cells #[.int .i64 n, .slice Fa fs.length c1] 33))) (e := 33) (cs := #[.int .i64 0, .slice none 0 0]) (k := w.heap.size + 1) (by simp))
  have hmf : ∀ (fn : Fn) (first cap : Array Value) (w : World), (Instr.makeFunc fn first cap).run Tryz.prog w = .ok (.func fn first cap) w := fun _ _ _ _ => rfl
  have HML : Hid (∀ W, Ex w W → Calls Tryz.prog 156 #[.slice Fa fs.length c1, .func (.method "loop.example/g01363/impl.of") #[.iface 151 (.int .i64 (q : Int))] #[]] W fun e w' => ∃ C0 e0, e = .returned (.slice C0 (rsL fs q).length e0) ∧ Ex W w' ∧ OwnL w' W.heap.size w'.heap.size C0 (rsL fs q)) := Lib.hid (fun W he => mappedM_any Fa fs c1 246 "loop.example/g01363/impl.of" 151 (.int .i64 (q : Int)) (fun k => nth fs k % (q : Int)) W (hX.ex he) (by omega) (fun w => meth_modulus 349 _ w)
    (enters_of Tryz.func246 (by kernel_rfl) rfl) (fun W' _ k hk => of_modulus q (nth fs k) W' hq0 hq (hfr k hk).1 (hfr k hk).2))
  have HL : Hid ((rsL fs q).length = fs.length) := Lib.hid rsL_len
  obtain ⟨ys, hys⟩ : ∃ ys, rsL fs q = ys := ⟨_, rfl⟩
  rw [hys] at HML HL ⊢
  have HE0 := Lib.hid e0
  have HB0 := Lib.hid b0
  have HB1 := Lib.hid b1
  have hC0 := And.intro (b0.cell 0) (b0.cell 1)
  have hlt := b1.lt
  have hlw := e0.size
  clear hX hfr b0 b1 e0 hys
  go_enter Tryz.func124, Tryz.ntmps124
  go_wp2_with fail
  generalize ((w.alloc (.cells #[.int .i64 n, .slice Fa fs.length c1] 33)).alloc (.cells #[.int .i64 0, .slice none 0 0] 33)) = W0 at *
  refine Late.region (C := fun w' => w'.cell? ⟨w.heap.size, 0, none⟩ = some (.int .i64 n) ∧ w'.cell? ⟨w.heap.size, 1, none⟩ = some (.slice Fa fs.length c1)) (fun j => decide (j < 9)) (by kernel_rfl) hC0 (fun hC => ?_)
  refine Late.take (i := 0) (oi := _) (v := ?_) rfl (by kernel_rfl) (by kernel_rfl) (by kernel_rfl) (by kernel_rfl) (fun _ _ _ h => h) (Or.inl ⟨by rfl, ?_⟩) hC ?_
  rotate_left
  · (intro w hSw; (try dsimp only at hSw); go_simp; first | done | with_reducible rfl)
  simp only [Act.put]
  refine Late.take (i := 1) (oi := _) (v := ?_) rfl (by kernel_rfl) (by kernel_rfl) (by kernel_rfl) (by kernel_rfl) (fun _ _ _ h => h) (Or.inl ⟨by rfl, ?_⟩) hC ?_
  rotate_left
  · (intro w hSw; (try dsimp only at hSw); go_simp; first | done | with_reducible rfl)
  simp only [Act.put]
  refine Late.take (i := 2) (oi := _) (v := ?_) rfl (by kernel_rfl) (by kernel_rfl) (by kernel_rfl) (by kernel_rfl) (fun _ _ _ h => h) (Or.inl ⟨by rfl, ?_⟩) hC ?_
  rotate_left
  · (intro w hSw; (try dsimp only at hSw); go_simp; first | done | with_reducible rfl)
  simp only [Act.put]
  refine Late.take (i := 3) (oi := _) (v := ?_) rfl (by kernel_rfl) (by kernel_rfl) (by kernel_rfl) (by kernel_rfl) (fun _ _ _ h => h) (Or.inl ⟨by rfl, ?_⟩) hC ?_
  rotate_left
  · (intro w hSw; (try dsimp only at hSw); go_simp; first | done | with_reducible rfl)
  simp only [Act.put]
  refine Late.take (i := 4) (oi := _) (v := ?_) rfl (by kernel_rfl) (by kernel_rfl) (by kernel_rfl) (by kernel_rfl) (fun _ _ _ h => h) (Or.inl ⟨by rfl, ?_⟩) hC ?_
  rotate_left
  · (intro w hSw; (try dsimp only at hSw); go_simp; first | done | with_reducible rfl)
  simp only [Act.put]
  refine Late.take (i := 5) (oi := _) (v := ?_) rfl (by kernel_rfl) (by kernel_rfl) (by kernel_rfl) (by kernel_rfl) (fun _ _ _ h => h) (Or.inl ⟨by rfl, ?_⟩) hC ?_
  rotate_left
  · (intro w hSw; (try dsimp only at hSw); go_simp; first | done | with_reducible rfl)
  simp only [Act.put]
  refine Late.take (i := 6) (oi := _) (v := ?_) rfl (by kernel_rfl) (by kernel_rfl) (by kernel_rfl) (by kernel_rfl) (fun _ _ _ h => h) (Or.inl ⟨by rfl, ?_⟩) hC ?_
  rotate_left
  · (intro w hSw; (try dsimp only at hSw); go_simp; first | done | with_reducible rfl)
  simp only [Act.put]
  refine Late.one (i := 7) (o := _) (by kernel_rfl) rfl (fun K' hK' => ?_)
  go_simp
  refine (HML.out W0.drew HE0.out.drew).mono ?_
  rintro e W1 ⟨A5, n5, rfl, he1, ho1⟩
  rw [HL.out]
  have hx1 : Ex W0 W1 := (Ex.refl W0).drew.trans he1
  have hC1 := And.intro ((HB0.out.ex hx1).cell 0) ((HB0.out.ex hx1).cell 1)
  have HB11 := Lib.hid (HB1.out.ex hx1)
  have k0 := HB11.out.cell 0
  have k1 := HB11.out.cell 1
  have f0 := HB11.out.free 0
  have f1 := HB11.out.free 1
  have HE1 := Lib.hid (HE0.out.trans hx1)
  have HO1 := Lib.hid ho1
  have hlt' : w.heap.size + 1 < W0.drew.heap.size := hlt
  have hlw' : w.heap.size ≤ W0.drew.heap.size := hlw
  refine hK'.out _ _ (fun _ => hC1) (fun _ => ?_)
  clear hK' K' hC hC0 he1 ho1 hx1
  try simp only [Act.put]
  refine Late.one (i := 8) (o := _) (by kernel_rfl) rfl (fun K' hK' => ?_)
  go_simp
  refine hK'.out _ _ (fun _ => hC1) (fun _ => ?_)
  clear hK' K'
  try simp only [Act.put]
  refine Late.one (i := 9) (o := _) (by kernel_rfl) rfl (fun K' hK' => ?_)
  go_simp
  refine hK'.out _ _ (fun h => by cases h) (fun _ => ?_)
  clear hK' K' hC1
  try simp only [Act.put]
  refine Late.done (by kernel_rfl) ?_ _
  go_wp2_with fail
  have H4 := HB11.out.put2 (u := .int .i64 n) (v := .slice A5 fs.length n5)
  have c4 := H4.cell 0
  have c4' := H4.cell 1
  refine bodyPost_ret (v := .agg #[.int .i64 n, .slice A5 fs.length n5]) (by simp [results, Tryz.results124, go_sem, c4, c4']) rfl ⟨A5, n5, rfl, (HE1.out.setCell (by show w.heap.size ≤ w.heap.size + 1; omega) _).setCell (by show w.heap.size ≤ w.heap.size + 1; omega) _, ?_⟩
  exact ((HO1.out.above (Only.set _ _ _ _) hlt').above (Only.set _ _ _ _) hlt').mono hlw' (by simp) (Nat.le_refl _)

end Go.Proofs.YtllkaoacfchibaaGreatDoor
