/- Chapter 8: the connecting map, by the program. -/
import Derived.Test.YtllkaoacfchibaaGreatDoorWj
import Derived.Test.YtllkaoacfchibaaGreatDoorBu
namespace Go.Proofs.YtllkaoacfchibaaGreatDoor
open Go.RowKit

theorem meth_divisor (n : Nat) (v : Value) (w : World) : (method (n + 1) 137 v "loop.example/g01363/impl.of").run Tryz.prog w = .ok (244, v) w := by kernel_rfl

set_option maxHeartbeats 1000000 in
theorem of_divisor (q : Nat) (x : Int) (w : World) (_ : 0 < q) (_ : q ≤ 12) (hx0 : 0 ≤ x) (_ : x < 1048576) :
    Calls Tryz.prog 244 #[.int .i64 (q : Int), .int .i64 x] w fun e w' => e = .returned (.int .i64 (x / (q : Int))) ∧ Ex w w' := by
  have hne : ((q : Int) != 0) = true := by simp; omega
  have hne0 : ¬ q = 0 := by omega
  have hm0 := Int.ediv_nonneg hx0 (show (0 : Int) ≤ (q : Int) by omega)
  have hm1 : x / (q : Int) ≤ x := Int.ediv_le_self _ hx0
  obtain ⟨z, hz'⟩ : ∃ z, x / (q : Int) = z := ⟨_, rfl⟩
  have hwt : Int.tdiv x (q : Int) = z := by rw [Int.tdiv_eq_ediv_of_nonneg hx0, hz']
  rw [hz'] at hm0 hm1
  have hwz' : IntKind.i64.wrap z = z := IntWalk.i64_in _ (by omega)
  have hwz : IntKind.i64.wrap (x / (q : Int)) = z := by rw [hz']; exact hwz'
  have HZ : Hid (x / (q : Int) = z) := Lib.hid hz'
  clear hz'
  go_enter Tryz.func244, Tryz.ntmps244
  go_wp2_with fail
  go_ret
  exact ⟨by rw [HZ.out]; rfl, Ex.refl _⟩

set_option maxRecDepth 100000 in
set_option maxHeartbeats 4000000 in
theorem changed_divisor (Fa : Option Addr) (n : Int) (fs : List Int) (q c1 : Nat) (w : World) (hX : IntsW w Fa fs) (hfl : fs.length ≤ 343) (hfr : InR 1048576 fs) (hq0 : 0 < q) (hq : q ≤ 12) :
    Calls Tryz.prog 108 #[.agg #[.int .i64 n, .slice Fa fs.length c1], .int .i64 (q : Int)] w fun e w' => ∃ C0 n0, e = .returned (.agg #[.int .i64 n, .slice C0 fs.length n0]) ∧ Ex w w' ∧ OwnL w' w.heap.size w'.heap.size C0 (dvL fs q) := by
  have e0 : Ex w ((w.alloc (.cells #[.int .i64 n, .slice Fa fs.length c1] 33)).alloc (.cells #[.int .i64 0, .slice none 0 0] 33)) := ((Ex.refl w).alloc _).alloc _
  have b0 : Has ((w.alloc (.cells #[.int .i64 n, .slice Fa fs.length c1] 33)).alloc (.cells #[.int .i64 0, .slice none 0 0] 33)) (w.heap.size) 33 #[.int .i64 n, .slice Fa fs.length c1] := ((Has.newAt (w := w) (e := 33) (cs := #[.int .i64 n, .slice Fa fs.length c1]) (k := w.heap.size) (by simp)).alloc _)
  have b1 : Has ((w.alloc (.cells #[.int .i64 n, .slice Fa fs.length c1] 33)).alloc (.cells #[.int .i64 0, .slice none 0 0] 33)) (w.heap.size + 1) 33 #[.int .i64 0, .slice none 0 0] := (Has.newAt (w := (w.alloc (.cells #[.int .i64 n, .slice Fa fs.length c1] 33))) (e := 33) (cs := #[.int .i64 0, .slice none 0 0]) (k := w.heap.size + 1) (by simp))
  have hmf : ∀ (fn : Fn) (first cap : Array Value) (w : World), (Instr.makeFunc fn first cap).run Tryz.prog w = .ok (.func fn first cap) w := fun _ _ _ _ => rfl
  have HML : Hid (∀ W, Ex w W → Calls Tryz.prog 156 #[.slice Fa fs.length c1, .func (.method "loop.example/g01363/impl.of") #[.iface 137 (.int .i64 (q : Int))] #[]] W fun e w' => ∃ C0 e0, e = .returned (.slice C0 (dvL fs q).length e0) ∧ Ex W w' ∧ OwnL w' W.heap.size w'.heap.size C0 (dvL fs q)) := Lib.hid (fun W he => mappedM_any Fa fs c1 244 "loop.example/g01363/impl.of" 137 (.int .i64 (q : Int)) (fun k => nth fs k / (q : Int)) W (hX.ex he) (by omega) (fun w => meth_divisor 349 _ w)
    (enters_of Tryz.func244 (by kernel_rfl) rfl) (fun W' _ k hk => of_divisor q (nth fs k) W' hq0 hq (hfr k hk).1 (hfr k hk).2))
  have HL : Hid ((dvL fs q).length = fs.length) := Lib.hid dvL_len
  obtain ⟨ys, hys⟩ : ∃ ys, dvL fs q = ys := ⟨_, rfl⟩
  rw [hys] at HML HL ⊢
  have HE0 := Lib.hid e0
  have HB0 := Lib.hid b0
  have HB1 := Lib.hid b1
  have hC0 := And.intro (b0.cell 0) (b0.cell 1)
  have hlt := b1.lt
  have hlw := e0.size
  clear hX hfr b0 b1 e0 hys
  go_enter Tryz.func108, Tryz.ntmps108
  go_wp2_with fail
  generalize ((w.alloc (.cells #[.int .i64 n, .slice Fa fs.length c1] 33)).alloc (.cells #[.int .i64 0, .slice none 0 0] 33)) = W0 at *
  refine Late.region (C := fun w' => w'.cell? ⟨w.heap.size, 0, none⟩ = some (.int .i64 n) ∧ w'.cell? ⟨w.heap.size, 1, none⟩ = some (.slice Fa fs.length c1)) (fun j => decide (j < 9)) (by kernel_rfl) hC0 (fun hC => ?_)
  refine Late.take (i := 0) (oi := _) (v := ?_) rfl (by kernel_rfl) (by kernel_rfl) (by kernel_rfl) (by kernel_rfl) (fun _ _ _ h => h) (Or.inl ⟨by rfl, ?_⟩) hC ?_
  rotate_left
  · (intro w hSw; (try dsimp only at hSw); go_simp; first | done | with_reducible rfl)
  simp only [Act.put]
  refine Late.take (i := 1) (oi := _) (v := ?_) rfl (by kernel_rfl) (by kernel_rfl) (by kernel_rfl) (by kernel_rfl) (fun _ _ _ h => h) (Or.inl ⟨by rfl, ?_⟩) hC ?_
  rotate_left
  · (intro w hSw; (try dsimp only at hSw); go_simp; first | done | with_reducible rfl)
  simp only [Act.put]
  refine Late.take (i := 2) (oi := _) (v := ?_) rfl (by kernel_rfl) (by kernel_rfl) (by kernel_rfl) (by kernel_rfl) (fun _ _ _ h => h) (Or.inl ⟨by rfl, ?_⟩) hC ?_
  rotate_left
  · (intro w hSw; (try dsimp only at hSw); go_simp; first | done | with_reducible rfl)
  simp only [Act.put]
  refine Late.take (i := 3) (oi := _) (v := ?_) rfl (by kernel_rfl) (by kernel_rfl) (by kernel_rfl) (by kernel_rfl) (fun _ _ _ h => h) (Or.inl ⟨by rfl, ?_⟩) hC ?_
  rotate_left
  · (intro w hSw; (try dsimp only at hSw); go_simp; first | done | with_reducible rfl)
  simp only [Act.put]
  refine Late.take (i := 4) (oi := _) (v := ?_) rfl (by kernel_rfl) (by kernel_rfl) (by kernel_rfl) (by kernel_rfl) (fun _ _ _ h => h) (Or.inl ⟨by rfl, ?_⟩) hC ?_
  rotate_left
  · (intro w hSw; (try dsimp only at hSw); go_simp; first | done | with_reducible rfl)
  simp only [Act.put]
  refine Late.take (i := 5) (oi := _) (v := ?_) rfl (by kernel_rfl) (by kernel_rfl) (by kernel_rfl) (by kernel_rfl) (fun _ _ _ h => h) (Or.inl ⟨by rfl, ?_⟩) hC ?_
  rotate_left
  · (intro w hSw; (try dsimp only at hSw); go_simp; first | done | with_reducible rfl)
  simp only [Act.put]
  refine Late.take (i := 6) (oi := _) (v := ?_) rfl (by kernel_rfl) (by kernel_rfl) (by kernel_rfl) (by kernel_rfl) (fun _ _ _ h => h) (Or.inl ⟨by rfl, ?_⟩) hC ?_
  rotate_left
  · (intro w hSw; (try dsimp only at hSw); go_simp; first | done | with_reducible rfl)
  simp only [Act.put]
  refine Late.one (i := 7) (o := _) (by kernel_rfl) rfl (fun K' hK' => ?_)
  go_simp
  refine (HML.out W0.drew HE0.out.drew).mono ?_
  rintro e W1 ⟨A5, n5, rfl, he1, ho1⟩
  rw [HL.out]
  have hx1 : Ex W0 W1 := (Ex.refl W0).drew.trans he1
  have hC1 := And.intro ((HB0.out.ex hx1).cell 0) ((HB0.out.ex hx1).cell 1)
  have HB11 := Lib.hid (HB1.out.ex hx1)
  have k0 := HB11.out.cell 0
  have k1 := HB11.out.cell 1
  have f0 := HB11.out.free 0
  have f1 := HB11.out.free 1
  have HE1 := Lib.hid (HE0.out.trans hx1)
  have HO1 := Lib.hid ho1
  have hlt' : w.heap.size + 1 < W0.drew.heap.size := hlt
  have hlw' : w.heap.size ≤ W0.drew.heap.size := hlw
  refine hK'.out _ _ (fun _ => hC1) (fun _ => ?_)
  clear hK' K' hC hC0 he1 ho1 hx1
  try simp only [Act.put]
  refine Late.one (i := 8) (o := _) (by kernel_rfl) rfl (fun K' hK' => ?_)
  go_simp
  refine hK'.out _ _ (fun _ => hC1) (fun _ => ?_)
  clear hK' K'
  try simp only [Act.put]
  refine Late.one (i := 9) (o := _) (by kernel_rfl) rfl (fun K' hK' => ?_)
  go_simp
  refine hK'.out _ _ (fun h => by cases h) (fun _ => ?_)
  clear hK' K' hC1
  try simp only [Act.put]
  refine Late.done (by kernel_rfl) ?_ _
  go_wp2_with fail
  have H4 := HB11.out.put2 (u := .int .i64 n) (v := .slice A5 fs.length n5)
  have c4 := H4.cell 0
  have c4' := H4.cell 1
  refine bodyPost_ret (v := .agg #[.int .i64 n, .slice A5 fs.length n5]) (by simp [results, Tryz.results108, go_sem, c4, c4']) rfl ⟨A5, n5, rfl, (HE1.out.setCell (by show w.heap.size ≤ w.heap.size + 1; omega) _).setCell (by show w.heap.size ≤ w.heap.size + 1; omega) _, ?_⟩
  exact ((HO1.out.above (Only.set _ _ _ _) hlt').above (Only.set _ _ _ _) hlt').mono hlw' (by simp) (Nat.le_refl _)


theorem fld_lead (a b c d e v : Value) (w : World) : (Instr.field 69 (.agg #[a, b, c, d, e, v]) 3).run Tryz.prog w = .ok v w := by kernel_rfl

/-- What is asked of a cochain that has a connecting one. -/
def ConL (t : List (List Int)) (Q : Nat) (n : Int) (fs : List Int) : Prop := ∃ d : Nat, n = (d : Int) ∧ d ≤ 2 ∧ fs.length = cellsN t.length d ∧ InR Q fs
theorem dvL_le {xs : List Int} {q : Nat} : (dvL xs q).length = xs.length := dvL_len
theorem bdY_len (t : List (List Int)) (M n : Nat) (us fs : List Int) : (bdY t M n us fs).length = cellsN t.length (n + 1) := by simp [bdY]
theorem bdY_in {t : List (List Int)} {M n : Nat} {us fs : List Int} (h : 0 < M) : InR M (bdY t M n us fs) := fun i hi => by
  rw [bdY_len] at hi
  have e : nth (bdY t M n us fs) i = bdV t M us fs (lsL t.length (n + 1) i) := by simp [nth, bdY, hi]
  rw [e, bdV]
  exact ⟨Int.emod_nonneg _ (by omega), Int.emod_lt_of_pos _ (by omega)⟩

set_option maxRecDepth 100000 in
set_option maxHeartbeats 8000000 in
theorem connection1_ex (S LB c c1 n1 n2 K M Q d cc : Nat) (A U A1 A2 Fa : Option Addr) (t : List (List Int)) (us fs : List Int) (w : World)
    (hS : Has w S 75 #[.slice A t.length c, .int .i64 (K : Int), .slice A1 t.length n1, .int .i64 (M : Int), .slice U t.length c1, .int .i64 (Q : Int), .slice A2 t.length n2]) (hL : Has w LB 67 #[.func (.func 165) #[] #[]])
    (hR : RwsW w A t) (hU : IntsW w U us) (hX : IntsW w Fa fs) (hMF : ModF t M us) (hSF : SeqF M K Q) (hd : d ≤ 2) (hfl : fs.length = cellsN t.length d) (hfr : InR Q fs) :
    Calls Tryz.prog 107 #[.agg #[.int .i64 (d : Int), .slice Fa fs.length cc], .pointer (some ⟨S, 0, none⟩), .pointer (some ⟨LB, 0, none⟩)] w fun e w' => ∃ C0 n0, e = .returned (.agg #[.int .i64 ((d : Int) + 1), .slice C0 (dvL (bdY t M d us fs) Q).length n0]) ∧ Ex w w' ∧ OwnL w' w.heap.size w'.heap.size C0 (dvL (bdY t M d us fs) Q) := by
  have e0 : Ex w ((w.alloc (.cells #[.int .i64 (d : Int), .slice Fa fs.length cc] 33)).alloc (.cells #[.int .i64 0, .slice none 0 0] 33)) := ((Ex.refl w).alloc _).alloc _
  have b0 : Has ((w.alloc (.cells #[.int .i64 (d : Int), .slice Fa fs.length cc] 33)).alloc (.cells #[.int .i64 0, .slice none 0 0] 33)) (w.heap.size) 33 #[.int .i64 (d : Int), .slice Fa fs.length cc] := ((Has.newAt (w := w) (e := 33) (cs := #[.int .i64 (d : Int), .slice Fa fs.length cc]) (k := w.heap.size) (by simp)).alloc _)
  have b1 : Has ((w.alloc (.cells #[.int .i64 (d : Int), .slice Fa fs.length cc] 33)).alloc (.cells #[.int .i64 0, .slice none 0 0] 33)) (w.heap.size + 1) 33 #[.int .i64 0, .slice none 0 0] := (Has.newAt (w := (w.alloc (.cells #[.int .i64 (d : Int), .slice Fa fs.length cc] 33))) (e := 33) (cs := #[.int .i64 0, .slice none 0 0]) (k := w.heap.size + 1) (by simp))
  have hq2 := hSF.q2
  have hQM : Q ≤ M := by have := hSF.div; rw [← this]; exact Nat.div_le_self _ _
  have hm12 := hMF.m12
  have h343 : fs.length ≤ 343 := by
    rw [hfl]
    exact Nat.le_trans (Nat.pow_le_pow_left (show t.length - 1 ≤ 7 by have := hMF.g.n8; omega) _) (Nat.le_trans (Nat.pow_le_pow_right (show 0 < 7 by omega) (show d ≤ 3 by omega)) (by decide))
  have HLI := Lib.hid (fun W (he : Ex w W) => (by
    have h := lifting1_ex cc Fa (d : Int) fs W (hX.ex he) ⟨h343, fun i hi => ⟨(hfr i hi).1, by have := (hfr i hi).2; omega⟩⟩
    rw [tmL_one] at h
    exact h : Calls Tryz.prog 165 #[.agg #[.int .i64 (d : Int), .slice Fa fs.length cc]] W fun e w' => ∃ C0 n0, e = .returned (.agg #[.int .i64 (d : Int), .slice C0 fs.length n0]) ∧ Ex W w' ∧ OwnL w' W.heap.size w'.heap.size C0 fs))
  have HBO := Lib.hid (fun W C0 n0 (he : Ex w W) (hI : IntsW W C0 fs) => boundaryOf_any A U C0 t M d us fs c c1 n0 W (hR.ex he) (hU.ex he) hI hMF hd hfl (fun i hi => ⟨(hfr i hi).1, by have := (hfr i hi).2; omega⟩))
  have hbl : (bdY t M d us fs).length ≤ 343 := by
    rw [bdY_len]
    exact Nat.le_trans (Nat.pow_le_pow_left (show t.length - 1 ≤ 7 by have := hMF.g.n8; omega) _) (Nat.le_trans (Nat.pow_le_pow_right (show 0 < 7 by omega) (show d + 1 ≤ 3 by omega)) (by decide))
  have HCH := Lib.hid (fun W C0 n0 (hI : IntsW W C0 (bdY t M d us fs)) => changed_divisor C0 ((d : Int) + 1) (bdY t M d us fs) Q n0 W hI hbl (fun i hi => by have := bdY_in (t := t) (n := d) (us := us) (fs := fs) (show 0 < M by omega) i hi; exact ⟨this.1, by omega⟩) (by omega) (by omega))
  have HBY : Hid (((List.range (cellsN t.length (d + 1))).map fun j => bdV t M us fs (lsL t.length (d + 1) j)) = bdY t M d us fs ∧ cellsN t.length (d + 1) = (bdY t M d us fs).length ∧ (dvL (bdY t M d us fs) Q).length = (bdY t M d us fs).length) := Lib.hid ⟨rfl, (bdY_len ..).symm, dvL_len⟩
  rw [HBY.out.1, HBY.out.2.1, hMF.len] at HBO
  obtain ⟨ys, hys⟩ : ∃ ys, bdY t M d us fs = ys := ⟨_, rfl⟩
  rw [hys] at HBO HCH HBY ⊢
  have HCF := Lib.hid (fun (W : World) (he : Ex _ W) => And.intro ((hS.ex (e0.trans he)).cell 0) (And.intro ((hS.ex (e0.trans he)).cell 3) (And.intro ((hS.ex (e0.trans he)).cell 4) (And.intro ((hS.ex (e0.trans he)).cell 5) (And.intro ((hL.ex (e0.trans he)).cell 0) (And.intro ((b0.ex he).cell 0) ((b0.ex he).cell 1)))))))
  have HE0 := Lib.hid e0
  have HB1 := Lib.hid b1
  have hlt := b1.lt
  have hlw := e0.size
  have hC0 := HCF.out _ (Ex.refl _)
  have hen := enters_of Tryz.func165 (by kernel_rfl) rfl
  clear hS hL hR hU hX hMF hSF hfl hfr h343 hbl b0 b1 e0 hys
  go_enter Tryz.func107, Tryz.ntmps107
  go_wp2_with fail
  generalize ((w.alloc (.cells #[.int .i64 (d : Int), .slice Fa fs.length cc] 33)).alloc (.cells #[.int .i64 0, .slice none 0 0] 33)) = W0 at *
  refine Late.region (C := fun w' => w'.cell? ⟨S, 0, none⟩ = some (.slice A t.length c) ∧ w'.cell? ⟨S, 3, none⟩ = some (.int .i64 (M : Int)) ∧ w'.cell? ⟨S, 4, none⟩ = some (.slice U t.length c1) ∧ w'.cell? ⟨S, 5, none⟩ = some (.int .i64 (Q : Int)) ∧ w'.cell? ⟨LB, 0, none⟩ = some (.func (.func 165) #[] #[]) ∧ w'.cell? ⟨w.heap.size, 0, none⟩ = some (.int .i64 (d : Int)) ∧ w'.cell? ⟨w.heap.size, 1, none⟩ = some (.slice Fa fs.length cc)) (fun j => decide (j < 12)) (by kernel_rfl) hC0 (fun hC => ?_)
  refine Late.take (i := 0) (oi := _) (v := ?_) rfl (by kernel_rfl) (by kernel_rfl) (by kernel_rfl) (by kernel_rfl) (fun _ _ _ h => h) (Or.inl ⟨by rfl, ?_⟩) hC ?_
  rotate_left
  · (intro w hSw; (try dsimp only at hSw); go_simp; first | done | with_reducible rfl)
  simp only [Act.put]
  refine Late.take (i := 1) (oi := _) (v := ?_) rfl (by kernel_rfl) (by kernel_rfl) (by kernel_rfl) (by kernel_rfl) (fun _ _ _ h => h) (Or.inl ⟨by rfl, ?_⟩) hC ?_
  rotate_left
  · (intro w hSw; (try dsimp only at hSw); go_simp; first | done | with_reducible rfl)
  simp only [Act.put]
  refine Late.take (i := 2) (oi := _) (v := ?_) rfl (by kernel_rfl) (by kernel_rfl) (by kernel_rfl) (by kernel_rfl) (fun _ _ _ h => h) (Or.inl ⟨by rfl, ?_⟩) hC ?_
  rotate_left
  · (intro w hSw; (try dsimp only at hSw); go_simp; first | done | with_reducible rfl)
  simp only [Act.put]
  refine Late.take (i := 3) (oi := _) (v := ?_) rfl (by kernel_rfl) (by kernel_rfl) (by kernel_rfl) (by kernel_rfl) (fun _ _ _ h => h) (Or.inl ⟨by rfl, ?_⟩) hC ?_
  rotate_left
  · (intro w hSw; (try dsimp only at hSw); go_simp; first | done | with_reducible rfl)
  simp only [Act.put]
  refine Late.take (i := 4) (oi := _) (v := ?_) rfl (by kernel_rfl) (by kernel_rfl) (by kernel_rfl) (by kernel_rfl) (fun _ _ _ h => h) (Or.inl ⟨by rfl, ?_⟩) hC ?_
  rotate_left
  · (intro w hSw; (try dsimp only at hSw); go_simp; first | done | with_reducible rfl)
  simp only [Act.put]
  refine Late.take (i := 5) (oi := _) (v := ?_) rfl (by kernel_rfl) (by kernel_rfl) (by kernel_rfl) (by kernel_rfl) (fun _ _ _ h => h) (Or.inl ⟨by rfl, ?_⟩) hC ?_
  rotate_left
  · (intro w hSw; (try dsimp only at hSw); go_simp; first | done | with_reducible rfl)
  simp only [Act.put]
  refine Late.take (i := 8) (oi := _) (v := ?_) rfl (by kernel_rfl) (by kernel_rfl) (by kernel_rfl) (by kernel_rfl) (fun _ _ _ h => h) (Or.inl ⟨by rfl, ?_⟩) hC ?_
  rotate_left
  · (intro w hSw; (try dsimp only at hSw); go_simp; first | done | with_reducible rfl)
  simp only [Act.put]
  refine Late.take (i := 9) (oi := _) (v := ?_) rfl (by kernel_rfl) (by kernel_rfl) (by kernel_rfl) (by kernel_rfl) (fun _ _ _ h => h) (Or.inl ⟨by rfl, ?_⟩) hC ?_
  rotate_left
  · (intro w hSw; (try dsimp only at hSw); go_simp; first | done | with_reducible rfl)
  simp only [Act.put]
  refine Late.take (i := 10) (oi := _) (v := ?_) rfl (by kernel_rfl) (by kernel_rfl) (by kernel_rfl) (by kernel_rfl) (fun _ _ _ h => h) (Or.inl ⟨by rfl, ?_⟩) hC ?_
  rotate_left
  · (intro w hSw; (try dsimp only at hSw); go_simp; first | done | with_reducible rfl)
  simp only [Act.put]
  clear hC hC0
  refine Late.one (i := 6) (o := _) (by kernel_rfl) rfl (fun K' hK' => ?_)
  go_simp
  refine (HLI.out W0.drew HE0.out.drew).mono ?_
  rintro e W1 ⟨C1, m1, rfl, he1, ho1⟩
  have hx1 : Ex W0 W1 := (Ex.refl W0).drew.trans he1
  have HX1 := Lib.hid hx1
  have HI1 := Lib.hid ho1.ints
  have hC1 := HCF.out W1 hx1
  refine hK'.out _ _ (fun _ => hC1) (fun _ => ?_)
  clear hK' K' hC1 he1 ho1 hx1
  try simp only [Act.put]
  refine Late.one (i := 7) (o := _) (by kernel_rfl) rfl (fun K' hK' => ?_)
  go_simp
  refine (HBO.out W1 C1 m1 (HE0.out.trans HX1.out) HI1.out).mono ?_
  rintro e W2 ⟨C2, m2, rfl, he2, ho2⟩
  have HX2 := Lib.hid (HX1.out.trans he2)
  have HI2 := Lib.hid ho2.ints
  have hC2 := HCF.out W2 HX2.out
  refine hK'.out _ _ (fun _ => hC2) (fun _ => ?_)
  clear hK' K' hC2 he2 ho2
  try simp only [Act.put]
  refine Late.one (i := 11) (o := _) (by kernel_rfl) rfl (fun K' hK' => ?_)
  go_simp
  refine (HCH.out W2 C2 m2 HI2.out).mono ?_
  rintro e W3 ⟨C3, m3, rfl, he3, ho3⟩
  have HX3 := Lib.hid (HX2.out.trans he3)
  have HB3 := Lib.hid (HB1.out.ex HX3.out)
  have HO3 := Lib.hid ho3
  have hC3 := HCF.out W3 HX3.out
  have k0 := HB3.out.cell 0
  have k1 := HB3.out.cell 1
  have f0 := HB3.out.free 0
  have f1 := HB3.out.free 1
  have hs2 := HX2.out.size
  refine hK'.out _ _ (fun _ => hC3) (fun _ => ?_)
  clear hK' K' hC3 he3 ho3
  try simp only [Act.put]
  refine Late.one (i := 12) (o := _) (by kernel_rfl) rfl (fun K' hK' => ?_)
  go_simp
  refine hK'.out _ _ (fun h => by cases h) (fun _ => ?_)
  clear hK' K'
  try simp only [Act.put]
  refine Late.done (by kernel_rfl) ?_ _
  go_wp2_with fail
  have H4 := HB3.out.put2 (u := .int .i64 ((d : Int) + 1)) (v := .slice C3 ys.length m3)
  have c4 := H4.cell 0
  have c4' := H4.cell 1
  refine bodyPost_ret (v := .agg #[.int .i64 ((d : Int) + 1), .slice C3 ys.length m3]) (by simp [results, Tryz.results107, go_sem, c4, c4']) rfl ⟨C3, m3, by rw [HBY.out.2.2], ((HE0.out.trans HX3.out).setCell (by show w.heap.size ≤ w.heap.size + 1; omega) _).setCell (by show w.heap.size ≤ w.heap.size + 1; omega) _, ?_⟩
  exact ((HO3.out.above (Only.set _ _ _ _) (by omega)).above (Only.set _ _ _ _) (by omega)).mono (by omega) (by simp) (Nat.le_refl _)

set_option maxRecDepth 100000 in
set_option maxHeartbeats 8000000 in
theorem connection_map (t : List (List Int)) (M0 : Nat) (us : List Int) (hMF : ModF t M0 us) (w0 : World) : MapC (fun A U => RwsW w0 A t ∧ IntsW w0 U us) 47 t.length us (fun _ _ Q => Q) (fun _ _ Q => rdL us Q) (fun M _ Q n fs => M = M0 ∧ ConL t Q n fs) (fun n => n + 1) (fun M _ Q n fs => dvL (bdY t M n.toNat us fs) Q) w0 := by
  have hl := hMF.len
  refine ⟨enters_of Tryz.func47 (by kernel_rfl) rfl, fun A U c c1 M K Q A1 n1 A2 n2 lo w hw hG hlo hS hM hU h1 h2 => ?_⟩
  obtain ⟨hR, hU0⟩ := hG
  have hmf : ∀ (fn : Fn) (first cap : Array Value) (w : World), (Instr.makeFunc fn first cap).run Tryz.prog w = .ok (.func fn first cap) w := fun _ _ _ _ => rfl
  have hsf := fun (a : Addr) (c : Array Value) (w : World) => run_store Tryz.prog w a (.func (.func 107) #[] c) .plain rfl
  show Calls Tryz.prog 47 _ w fun e w' => ∃ AX nX Y AY lY nY more kf cap, e = .returned (.agg #[.int .i64 (Q : Int), .slice AX (rdL us Q).length nX, .int .i64 Y, .slice AY lY nY, .int .i64 more, .func (.func kf) #[] cap]) ∧ Ex w w' ∧ ((AX = A1 ∧ rdL us Q = rdL us K) ∨ (AX = U ∧ rdL us Q = us) ∨ (AX = A2 ∧ rdL us Q = rdL us Q)) ∧ LeadOK (fun n fs => M = M0 ∧ ConL t Q n fs) (fun n => n + 1) (fun n fs => dvL (bdY t M n.toNat us fs) Q) kf cap w0.heap.size lo w'
  rw [show (rdL us Q).length = t.length by rw [rdL_len, hl]]
  have e0 : Ex w ((w.alloc (.cells #[.slice A t.length c, .int .i64 (K : Int), .slice A1 t.length n1, .int .i64 (M : Int), .slice U t.length c1, .int .i64 (Q : Int), .slice A2 t.length n2] 75)).alloc (.cells #[.int .i64 0, .slice none 0 0, .int .i64 0, .slice none 0 0, .int .i64 0, .nilFunc] 69)) := ((Ex.refl w).alloc _).alloc _
  have b0 : Has ((w.alloc (.cells #[.slice A t.length c, .int .i64 (K : Int), .slice A1 t.length n1, .int .i64 (M : Int), .slice U t.length c1, .int .i64 (Q : Int), .slice A2 t.length n2] 75)).alloc (.cells #[.int .i64 0, .slice none 0 0, .int .i64 0, .slice none 0 0, .int .i64 0, .nilFunc] 69)) (w.heap.size) 75 #[.slice A t.length c, .int .i64 (K : Int), .slice A1 t.length n1, .int .i64 (M : Int), .slice U t.length c1, .int .i64 (Q : Int), .slice A2 t.length n2] := ((Has.newAt (w := w) (e := 75) (cs := #[.slice A t.length c, .int .i64 (K : Int), .slice A1 t.length n1, .int .i64 (M : Int), .slice U t.length c1, .int .i64 (Q : Int), .slice A2 t.length n2]) (k := w.heap.size) (by simp)).alloc _)
  have b1 : Has ((w.alloc (.cells #[.slice A t.length c, .int .i64 (K : Int), .slice A1 t.length n1, .int .i64 (M : Int), .slice U t.length c1, .int .i64 (Q : Int), .slice A2 t.length n2] 75)).alloc (.cells #[.int .i64 0, .slice none 0 0, .int .i64 0, .slice none 0 0, .int .i64 0, .nilFunc] 69)) (w.heap.size + 1) 69 #[.int .i64 0, .slice none 0 0, .int .i64 0, .slice none 0 0, .int .i64 0, .nilFunc] := (Has.newAt (w := (w.alloc (.cells #[.slice A t.length c, .int .i64 (K : Int), .slice A1 t.length n1, .int .i64 (M : Int), .slice U t.length c1, .int .i64 (Q : Int), .slice A2 t.length n2] 75))) (e := 69) (cs := #[.int .i64 0, .slice none 0 0, .int .i64 0, .slice none 0 0, .int .i64 0, .nilFunc]) (k := w.heap.size + 1) (by simp))
  have HLI := Lib.hid (fun W => lifting_ex t.length A U c c1 M K Q A1 n1 A2 n2 W)
  have HLD : Hid (∀ W LB, Ex w0 W → lo ≤ w.heap.size → lo ≤ LB → Has W w.heap.size 75 #[.slice A t.length c, .int .i64 (K : Int), .slice A1 t.length n1, .int .i64 (M : Int), .slice U t.length c1, .int .i64 (Q : Int), .slice A2 t.length n2] → Has W LB 67 #[.func (.func 165) #[] #[]] → LeadOK (fun n fs => M = M0 ∧ ConL t Q n fs) (fun n => n + 1) (fun n fs => dvL (bdY t M n.toNat us fs) Q) 107 #[.pointer (some ⟨w.heap.size, 0, none⟩), .pointer (some ⟨LB, 0, none⟩)] w0.heap.size lo W) :=
    Lib.hid (fun W LB hW hl1 hl2 hB hL => ⟨enters_of Tryz.func107 (by kernel_rfl) rfl, fun W' he Fa n fs cc hI hc => by
      obtain ⟨rfl, d, rfl, hd, hfl, hfr⟩ := hc
      have h := he.base hW
      exact connection1_ex w.heap.size LB c c1 n1 n2 K M Q d cc A U A1 A2 Fa t us fs W' (he.has hB (.inr hl1)) (he.has hL (.inr hl2)) (hR.ex h) (hU0.ex h) hI hMF hS hd hfl hfr⟩)
  have HE0 := Lib.hid e0
  have HB0 := Lib.hid b0
  have HB1 := Lib.hid b1
  have HW := Lib.hid hw
  have k0 := b0.cell 0
  have k1 := b0.cell 1
  have k2 := b0.cell 2
  have k3 := b0.cell 3
  have k4 := b0.cell 4
  have k5 := b0.cell 5
  have k6 := b0.cell 6
  have hlb := b1.lt
  have hlw := e0.size
  clear hR hU hU0 h1 h2 hS hM hMF hl hw b0 b1 e0
  go_enter Tryz.func47, Tryz.ntmps47
  go_wp2_with fail
  generalize ((w.alloc (.cells #[.slice A t.length c, .int .i64 (K : Int), .slice A1 t.length n1, .int .i64 (M : Int), .slice U t.length c1, .int .i64 (Q : Int), .slice A2 t.length n2] 75)).alloc (.cells #[.int .i64 0, .slice none 0 0, .int .i64 0, .slice none 0 0, .int .i64 0, .nilFunc] 69)) = W0 at *
  refine (HLI.out W0).mono ?_
  rintro e W1 ⟨rfl, he1⟩
  have hsl := fun (a : Addr) (w : World) => run_store Tryz.prog w a (.func (.func 165) #[] #[]) .plain rfl
  have hEn := he1.alloc (.cells #[.func (.func 165) #[] #[]] 67)
  have HX2 := Lib.hid hEn
  have HB02 := Lib.hid (HB0.out.ex hEn)
  have HB12 := Lib.hid (HB1.out.ex hEn)
  have HL2 := Lib.hid (Has.new W1 67 #[.func (.func 165) #[] #[]])
  have hs1 := he1.size
  have hfl := fun w => fld_lead (.int .i64 (Q : Int)) (.slice A2 t.length n2) (.int .i64 (M : Int)) (.slice U t.length c1) (.int .i64 0) (.func (.func 165) #[] #[]) w
  clear he1 hEn k0 k1 k2 k3 k4 k5 k6 HLI
  go_upto_region 2 with fail
  generalize W1.alloc (.cells #[.func (.func 165) #[] #[]] 67) = W2 at *
  have k0 := HB02.out.cell 0
  have k1 := HB02.out.cell 1
  have k2 := HB02.out.cell 2
  have k3 := HB02.out.cell 3
  have k4 := HB02.out.cell 4
  have k5 := HB02.out.cell 5
  have k6 := HB02.out.cell 6
  have d0 := HB12.out.cell 0
  have f0 := HB12.out.free 0
  have d1 := HB12.out.cell 1
  have f1 := HB12.out.free 1
  have d2 := HB12.out.cell 2
  have f2 := HB12.out.free 2
  have d3 := HB12.out.cell 3
  have f3 := HB12.out.free 3
  have d4 := HB12.out.cell 4
  have f4 := HB12.out.free 4
  have d5 := HB12.out.cell 5
  have f5 := HB12.out.free 5
  go_wp2_with fail
  go_wp2_with fail
  have H4 := Has.put6 (u0 := .int .i64 (Q : Int)) (u1 := .slice A2 t.length n2) (u2 := .int .i64 (K : Int)) (u3 := .slice A1 t.length n1) (u4 := .int .i64 1) (u5 := .func (.func 107) #[] #[.pointer (some ⟨w.heap.size, 0, none⟩), .pointer (some ⟨W1.heap.size, 0, none⟩)]) HB12.out
  have e0 := H4.cell 0
  have e1 := H4.cell 1
  have e2 := H4.cell 2
  have e3 := H4.cell 3
  have e4 := H4.cell 4
  have e5 := H4.cell 5
  have HE9 := Lib.hid (Ex.put6 (g := w.heap.size + 1) (u0 := .int .i64 (Q : Int)) (u1 := .slice A2 t.length n2) (u2 := .int .i64 (K : Int)) (u3 := .slice A1 t.length n1) (u4 := .int .i64 1) (u5 := .func (.func 107) #[] #[.pointer (some ⟨w.heap.size, 0, none⟩), .pointer (some ⟨W1.heap.size, 0, none⟩)]) (HE0.out.trans HX2.out) (by omega))
  refine bodyPost_ret (v := .agg #[.int .i64 (Q : Int), .slice A2 t.length n2, .int .i64 (K : Int), .slice A1 t.length n1, .int .i64 1, .func (.func 107) #[] #[.pointer (some ⟨w.heap.size, 0, none⟩), .pointer (some ⟨W1.heap.size, 0, none⟩)]]) (by simp [results, Tryz.results47, go_sem, e0, e1, e2, e3, e4, e5]) rfl ⟨A2, n2, _, _, _, _, _, _, _, rfl, HE9.out, .inr (.inr (by first | exact ⟨rfl, rfl⟩ | exact ⟨rfl, trivial⟩ | rfl)), ?_⟩
  exact HLD.out _ W1.heap.size (HW.out.trans HE9.out) hlo (by omega) (HB02.out.far6 (by omega)) (HL2.out.far6 (by omega))

end Go.Proofs.YtllkaoacfchibaaGreatDoor
