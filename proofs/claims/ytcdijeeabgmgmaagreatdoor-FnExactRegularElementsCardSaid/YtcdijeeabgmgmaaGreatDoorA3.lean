/- Factor sets of trivial modules: the program's tests and their codes. -/
import Derived.IntWalk
import Derived.Deep.RegionHeld3
import Derived.Test.YtcdijeeabgmgmaaGreatDoorA1
import Derived.Test.YtcdijeeabgmgmaaGreatDoorTv
namespace Go.Proofs.YtcdijeeabgmgmaaGreatDoor
open Go.RowKit

theorem Has.put4 {W : World} {g : Nat} {e : TypeId} {x y z a u v p q : Value} (h : Has W g e #[x, y, z, a]) : Has ((((W.setCell ⟨g, 0, none⟩ u).setCell ⟨g, 1, none⟩ v).setCell ⟨g, 2, none⟩ p).setCell ⟨g, 3, none⟩ q) g e #[u, v, p, q] := by simpa using (((h.put 0 u).put 1 v).put 2 p).put 3 q

set_option maxRecDepth 100000 in
set_option maxHeartbeats 1000000 in
theorem fsModule_any (B0 B2 : Option Addr) (t : List (List Int)) (m n : Int) (fs : List Int) (d0 d2 : Nat) (w : World) (hn1 : 1 ≤ t.length) (hn8 : t.length ≤ 8) :
    Calls Tryz.prog 137 #[.agg #[.slice B0 t.length d0, .int .i64 m, .int .i64 n, .slice B2 fs.length d2]] w fun e w' => ∃ A' n', e = .returned (.agg #[.int .i64 m, .slice A' (ones t.length).length n']) ∧ Ex w w' ∧ OwnL w' w.heap.size w'.heap.size A' (ones t.length) := by
  have e0 : Ex w ((w.alloc (.cells #[.slice B0 t.length d0, .int .i64 m, .int .i64 n, .slice B2 fs.length d2] 62)).alloc (.cells #[.int .i64 0, .slice none 0 0] 52)) := ((Ex.refl w).alloc _).alloc _
  have b0 : Has ((w.alloc (.cells #[.slice B0 t.length d0, .int .i64 m, .int .i64 n, .slice B2 fs.length d2] 62)).alloc (.cells #[.int .i64 0, .slice none 0 0] 52)) (w.heap.size) 62 #[.slice B0 t.length d0, .int .i64 m, .int .i64 n, .slice B2 fs.length d2] := ((Has.newAt (w := w) (e := 62) (cs := #[.slice B0 t.length d0, .int .i64 m, .int .i64 n, .slice B2 fs.length d2]) (k := w.heap.size) (by simp)).alloc _)
  have b1 : Has ((w.alloc (.cells #[.slice B0 t.length d0, .int .i64 m, .int .i64 n, .slice B2 fs.length d2] 62)).alloc (.cells #[.int .i64 0, .slice none 0 0] 52)) (w.heap.size + 1) 52 #[.int .i64 0, .slice none 0 0] := (Has.newAt (w := (w.alloc (.cells #[.slice B0 t.length d0, .int .i64 m, .int .i64 n, .slice B2 fs.length d2] 62))) (e := 52) (cs := #[.int .i64 0, .slice none 0 0]) (k := w.heap.size + 1) (by simp))
  have c0 := b0.cell 0
  have c1 := b0.cell 1
  have HB1 := Lib.hid b1
  have HE := Lib.hid e0
  rw [ones_len]
  clear b0 b1 e0
  go_enter Tryz.func137, Tryz.ntmps137
  go_wp2_with fail
  generalize ((w.alloc (.cells #[.slice B0 t.length d0, .int .i64 m, .int .i64 n, .slice B2 fs.length d2] 62)).alloc (.cells #[.int .i64 0, .slice none 0 0] 52)) = W0 at *
  refine (trivialModule_any B0 t.length d0 m W0 hn1 hn8).mono ?_
  rintro e W2 ⟨A2, n2, rfl, he2, ho2⟩
  have HB2 := Lib.hid (HB1.out.ex he2)
  have k2 := HB2.out.cell 0
  have k2' := HB2.out.cell 1
  have f2 := HB2.out.free 0
  have f2' := HB2.out.free 1
  have hzl := HB1.out.lt
  have HO2 := Lib.hid ho2
  clear ho2 c0 c1
  go_wp2_with fail
  have H4 := HB2.out.put2 (u := .int .i64 m) (v := .slice A2 t.length n2)
  have c4 := H4.cell 0
  have c4' := H4.cell 1
  refine bodyPost_ret (v := .agg #[.int .i64 m, .slice A2 t.length n2]) (by simp [results, Tryz.results137, go_sem, c4, c4']) rfl ⟨A2, n2, rfl, ((HE.out.trans he2).setCell (by show w.heap.size ≤ w.heap.size + 1; omega) _).setCell (by show w.heap.size ≤ w.heap.size + 1; omega) _, ?_⟩
  exact ((HO2.out.above (Only.set _ _ _ _) hzl).above (Only.set _ _ _ _) hzl).mono HE.out.size (by simp) (Nat.le_refl _)

set_option maxRecDepth 100000 in
set_option maxHeartbeats 1000000 in
theorem hasGroup_any (B0 B2 : Option Addr) (t : List (List Int)) (m n : Int) (fs : List Int) (d0 d2 : Nat) (w : World) (hR : RwsW w B0 t) (hs : SmallT t) :
    Calls Tryz.prog 101 #[.agg #[.slice B0 t.length d0, .int .i64 m, .int .i64 n, .slice B2 fs.length d2]] w fun e w' => e = .returned (.bool (grpB t)) ∧ Ex w w' := by
  have e0 : Ex w (w.alloc (.cells #[.slice B0 t.length d0, .int .i64 m, .int .i64 n, .slice B2 fs.length d2] 62)) := (Ex.refl w).alloc _
  have b0 : Has (w.alloc (.cells #[.slice B0 t.length d0, .int .i64 m, .int .i64 n, .slice B2 fs.length d2] 62)) (w.heap.size) 62 #[.slice B0 t.length d0, .int .i64 m, .int .i64 n, .slice B2 fs.length d2] := (Has.newAt (w := w) (e := 62) (cs := #[.slice B0 t.length d0, .int .i64 m, .int .i64 n, .slice B2 fs.length d2]) (k := w.heap.size) (by simp))
  have c0 := b0.cell 0
  have HC := Lib.hid (implIsGroup_ex B0 t d0 _ (hR.ex e0) hs)
  have HE := Lib.hid e0
  clear b0 e0 hR hs
  go_enter Tryz.func101, Tryz.ntmps101
  go_wp2_with fail
  refine HC.out.mono ?_
  rintro e W1 ⟨rfl, he1⟩
  have HE1 := Lib.hid (HE.out.trans he1)
  clear he1
  go_wp2_with fail
  go_ret
  exact ⟨rfl, HE1.out⟩

set_option maxRecDepth 100000 in
set_option maxHeartbeats 1000000 in
theorem hasModulus_any (B0 B2 : Option Addr) (t : List (List Int)) (m n : Int) (fs : List Int) (d0 d2 : Nat) (w : World) :
    Calls Tryz.prog 102 #[.agg #[.slice B0 t.length d0, .int .i64 m, .int .i64 n, .slice B2 fs.length d2]] w fun e w' => e = .returned (.bool (inB m 2 12)) ∧ Ex w w' := by
  have e0 : Ex w (w.alloc (.cells #[.slice B0 t.length d0, .int .i64 m, .int .i64 n, .slice B2 fs.length d2] 62)) := (Ex.refl w).alloc _
  have b0 : Has (w.alloc (.cells #[.slice B0 t.length d0, .int .i64 m, .int .i64 n, .slice B2 fs.length d2] 62)) (w.heap.size) 62 #[.slice B0 t.length d0, .int .i64 m, .int .i64 n, .slice B2 fs.length d2] := (Has.newAt (w := w) (e := 62) (cs := #[.slice B0 t.length d0, .int .i64 m, .int .i64 n, .slice B2 fs.length d2]) (k := w.heap.size) (by simp))
  have c0 := b0.cell 1
  have HE := Lib.hid e0
  clear b0 e0
  go_enter Tryz.func102, Tryz.ntmps102
  go_wp2_with fail
  refine (isModulus_e m _).mono ?_
  rintro e w' ⟨rfl, rfl⟩
  go_wp2_with fail
  go_ret
  exact ⟨rfl, HE.out⟩

set_option maxRecDepth 100000 in
set_option maxHeartbeats 1000000 in
theorem hasDegree_any (B0 B2 : Option Addr) (t : List (List Int)) (m n : Int) (fs : List Int) (d0 d2 : Nat) (w : World) :
    Calls Tryz.prog 104 #[.agg #[.slice B0 t.length d0, .int .i64 m, .int .i64 n, .slice B2 fs.length d2]] w fun e w' => e = .returned (.bool (decide (n = 2))) ∧ Ex w w' := by
  have e0 : Ex w (w.alloc (.cells #[.slice B0 t.length d0, .int .i64 m, .int .i64 n, .slice B2 fs.length d2] 62)) := (Ex.refl w).alloc _
  have b0 : Has (w.alloc (.cells #[.slice B0 t.length d0, .int .i64 m, .int .i64 n, .slice B2 fs.length d2] 62)) (w.heap.size) 62 #[.slice B0 t.length d0, .int .i64 m, .int .i64 n, .slice B2 fs.length d2] := (Has.newAt (w := w) (e := 62) (cs := #[.slice B0 t.length d0, .int .i64 m, .int .i64 n, .slice B2 fs.length d2]) (k := w.heap.size) (by simp))
  have c0 := b0.cell 2
  have HE := Lib.hid e0
  clear b0 e0
  by_cases h : n = 2
  · subst h
    go_enter Tryz.func104, Tryz.ntmps104
    go_wp2_with fail
    go_ret
    exact ⟨rfl, HE.out⟩
  · have h' : (n == 2) = false := by simpa using h
    have HD := Lib.hid (decide_eq_false h)
    clear h
    go_enter Tryz.func104, Tryz.ntmps104
    go_wp2_with fail
    go_ret
    exact ⟨by rw [HD.out]; simp, HE.out⟩

set_option maxRecDepth 100000 in
set_option maxHeartbeats 2000000 in
theorem hasCochain_w (B0 B2 : Option Addr) (t : List (List Int)) (m n : Int) (fs : List Int) (d0 d2 : Nat) (r : Bool) (w : World) (hn1 : 1 ≤ t.length) (hn8 : t.length ≤ 8)
    (hC : ∀ (A' : Option Addr) (n' : Nat) (W : World), Ex w W → IntsW W A' (ones t.length) → Calls Tryz.prog 86 #[.agg #[.slice B0 t.length d0], .agg #[.int .i64 m, .slice A' (ones t.length).length n'], .agg #[.int .i64 n, .slice B2 fs.length d2]] W fun e w' => e = .returned (.bool r) ∧ Ex W w') :
    Calls Tryz.prog 103 #[.agg #[.slice B0 t.length d0, .int .i64 m, .int .i64 n, .slice B2 fs.length d2]] w fun e w' => e = .returned (.bool r) ∧ Ex w w' := by
  have e0 : Ex w (w.alloc (.cells #[.slice B0 t.length d0, .int .i64 m, .int .i64 n, .slice B2 fs.length d2] 62)) := (Ex.refl w).alloc _
  have b0 : Has (w.alloc (.cells #[.slice B0 t.length d0, .int .i64 m, .int .i64 n, .slice B2 fs.length d2] 62)) (w.heap.size) 62 #[.slice B0 t.length d0, .int .i64 m, .int .i64 n, .slice B2 fs.length d2] := (Has.newAt (w := w) (e := 62) (cs := #[.slice B0 t.length d0, .int .i64 m, .int .i64 n, .slice B2 fs.length d2]) (k := w.heap.size) (by simp))
  have HC := Lib.hid hC
  have HM := Lib.hid (fun W => fsModule_any B0 B2 t m n fs d0 d2 W hn1 hn8)
  have HB := Lib.hid b0
  have HE := Lib.hid e0
  have HK := Lib.hid (fun (W' : World) (hb : Ex (w.alloc (.cells #[.slice B0 t.length d0, .int .i64 m, .int .i64 n, .slice B2 fs.length d2] 62)) W') => And.intro ((b0.ex hb).cell 0) (And.intro ((b0.ex hb).cell 1) (And.intro ((b0.ex hb).cell 2) ((b0.ex hb).cell 3))))
  clear hC b0 e0 hn1 hn8
  go_enter Tryz.func103, Tryz.ntmps103
  go_wp2_with fail
  generalize (w.alloc (.cells #[.slice B0 t.length d0, .int .i64 m, .int .i64 n, .slice B2 fs.length d2] 62)) = W0 at *
  have hC0 := HK.out _ (Ex.refl W0).drew
  refine Late.region (C := fun w' => w'.cell? ⟨w.heap.size, 0, none⟩ = some (.slice B0 t.length d0) ∧ w'.cell? ⟨w.heap.size, 1, none⟩ = some (.int .i64 m) ∧ w'.cell? ⟨w.heap.size, 2, none⟩ = some (.int .i64 n) ∧ w'.cell? ⟨w.heap.size, 3, none⟩ = some (.slice B2 fs.length d2)) (fun j => decide (j < 7)) (by kernel_rfl) hC0 (fun hC => ?_)
  refine Late.take (i := 0) (oi := _) (v := ?_) rfl (by kernel_rfl) (by kernel_rfl) (by kernel_rfl) (by kernel_rfl) (fun _ _ _ h => h) (Or.inl ⟨by rfl, ?_⟩) hC ?_
  rotate_left
  · (intro w hSw; (try dsimp only at hSw); go_simp; first | done | with_reducible rfl)
  simp only [Act.put]
  refine Late.take (i := 1) (oi := _) (v := ?_) rfl (by kernel_rfl) (by kernel_rfl) (by kernel_rfl) (by kernel_rfl) (fun _ _ _ h => h) (Or.inl ⟨by rfl, ?_⟩) hC ?_
  rotate_left
  · (intro w hSw; (try dsimp only at hSw); go_simp; first | done | with_reducible rfl)
  simp only [Act.put]
  refine Late.take (i := 2) (oi := _) (v := ?_) rfl (by kernel_rfl) (by kernel_rfl) (by kernel_rfl) (by kernel_rfl) (fun _ _ _ h => h) (Or.inl ⟨by rfl, ?_⟩) hC ?_
  rotate_left
  · (intro w hSw; (try dsimp only at hSw); go_simp; first | done | with_reducible rfl)
  simp only [Act.put]
  refine Late.take (i := 4) (oi := _) (v := ?_) rfl (by kernel_rfl) (by kernel_rfl) (by kernel_rfl) (by kernel_rfl) (fun _ _ _ h => h) (Or.inl ⟨by rfl, ?_⟩) hC ?_
  rotate_left
  · (intro w hSw; (try dsimp only at hSw); go_simp; first | done | with_reducible rfl)
  simp only [Act.put]
  refine Late.take (i := 5) (oi := _) (v := ?_) rfl (by kernel_rfl) (by kernel_rfl) (by kernel_rfl) (by kernel_rfl) (fun _ _ _ h => h) (Or.inl ⟨by rfl, ?_⟩) hC ?_
  rotate_left
  · (intro w hSw; (try dsimp only at hSw); go_simp; first | done | with_reducible rfl)
  simp only [Act.put]
  refine Late.one (i := 3) (o := _) (by kernel_rfl) rfl (fun K' hK' => ?_)
  try rw [if_pos (by rfl)]
  go_simp
  refine (HM.out _).mono ?_
  rintro e W2 ⟨A2, n2, rfl, he2, ho2⟩
  have HE2 := Lib.hid ((Ex.refl W0).drew.trans he2)
  have HI2 := Lib.hid ho2.ints
  have hC2 := HK.out _ HE2.out
  refine hK'.out _ _ (fun _ => hC2) (fun _ => ?_)
  clear hK' K' hC hC0 he2 ho2
  try simp only [Act.put, List.setIfInBounds_toArray, List.set_cons_zero, List.set_cons_succ]
  refine Late.one (i := 6) (o := _) (by kernel_rfl) rfl (fun K' hK' => ?_)
  try rw [if_pos (by rfl)]
  go_simp
  refine (HC.out A2 n2 W2 (HE.out.trans HE2.out) HI2.out).mono ?_
  rintro e W3 ⟨rfl, he3⟩
  have HE3 := Lib.hid ((HE.out.trans HE2.out).trans he3)
  have hC3 := HK.out _ (HE2.out.trans he3)
  refine hK'.out _ _ (fun _ => hC3) (fun _ => ?_)
  clear hK' K' hC2 he3
  try simp only [Act.put, List.setIfInBounds_toArray, List.set_cons_zero, List.set_cons_succ]
  refine Late.one (i := 7) (o := _) (by kernel_rfl) rfl (fun K' hK' => ?_)
  go_simp
  refine hK'.out _ _ (fun h => by cases h) (fun _ => ?_)
  clear hK' K'
  try simp only [Act.put, List.setIfInBounds_toArray, List.set_cons_zero, List.set_cons_succ]
  refine Late.done (by kernel_rfl) ?_ _
  go_wp2_with fail
  go_ret
  exact ⟨rfl, HE3.out⟩

set_option maxRecDepth 100000 in
set_option maxHeartbeats 2000000 in
theorem hasCocycle_w (B0 B2 : Option Addr) (t : List (List Int)) (m n : Int) (fs : List Int) (d0 d2 : Nat) (r : Bool) (w : World) (hn1 : 1 ≤ t.length) (hn8 : t.length ≤ 8)
    (hC : ∀ (A' : Option Addr) (n' : Nat) (W : World), Ex w W → IntsW W A' (ones t.length) → Calls Tryz.prog 138 #[.agg #[.slice B0 t.length d0], .agg #[.int .i64 m, .slice A' (ones t.length).length n'], .agg #[.int .i64 n, .slice B2 fs.length d2]] W fun e w' => e = .returned (.bool r) ∧ Ex W w') :
    Calls Tryz.prog 105 #[.agg #[.slice B0 t.length d0, .int .i64 m, .int .i64 n, .slice B2 fs.length d2]] w fun e w' => e = .returned (.bool r) ∧ Ex w w' := by
  have e0 : Ex w (w.alloc (.cells #[.slice B0 t.length d0, .int .i64 m, .int .i64 n, .slice B2 fs.length d2] 62)) := (Ex.refl w).alloc _
  have b0 : Has (w.alloc (.cells #[.slice B0 t.length d0, .int .i64 m, .int .i64 n, .slice B2 fs.length d2] 62)) (w.heap.size) 62 #[.slice B0 t.length d0, .int .i64 m, .int .i64 n, .slice B2 fs.length d2] := (Has.newAt (w := w) (e := 62) (cs := #[.slice B0 t.length d0, .int .i64 m, .int .i64 n, .slice B2 fs.length d2]) (k := w.heap.size) (by simp))
  have HC := Lib.hid hC
  have HM := Lib.hid (fun W => fsModule_any B0 B2 t m n fs d0 d2 W hn1 hn8)
  have HB := Lib.hid b0
  have HE := Lib.hid e0
  have HK := Lib.hid (fun (W' : World) (hb : Ex (w.alloc (.cells #[.slice B0 t.length d0, .int .i64 m, .int .i64 n, .slice B2 fs.length d2] 62)) W') => And.intro ((b0.ex hb).cell 0) (And.intro ((b0.ex hb).cell 1) (And.intro ((b0.ex hb).cell 2) ((b0.ex hb).cell 3))))
  clear hC b0 e0 hn1 hn8
  go_enter Tryz.func105, Tryz.ntmps105
  go_wp2_with fail
  generalize (w.alloc (.cells #[.slice B0 t.length d0, .int .i64 m, .int .i64 n, .slice B2 fs.length d2] 62)) = W0 at *
  have hC0 := HK.out _ (Ex.refl W0).drew
  refine Late.region (C := fun w' => w'.cell? ⟨w.heap.size, 0, none⟩ = some (.slice B0 t.length d0) ∧ w'.cell? ⟨w.heap.size, 1, none⟩ = some (.int .i64 m) ∧ w'.cell? ⟨w.heap.size, 2, none⟩ = some (.int .i64 n) ∧ w'.cell? ⟨w.heap.size, 3, none⟩ = some (.slice B2 fs.length d2)) (fun j => decide (j < 7)) (by kernel_rfl) hC0 (fun hC => ?_)
  refine Late.take (i := 0) (oi := _) (v := ?_) rfl (by kernel_rfl) (by kernel_rfl) (by kernel_rfl) (by kernel_rfl) (fun _ _ _ h => h) (Or.inl ⟨by rfl, ?_⟩) hC ?_
  rotate_left
  · (intro w hSw; (try dsimp only at hSw); go_simp; first | done | with_reducible rfl)
  simp only [Act.put]
  refine Late.take (i := 1) (oi := _) (v := ?_) rfl (by kernel_rfl) (by kernel_rfl) (by kernel_rfl) (by kernel_rfl) (fun _ _ _ h => h) (Or.inl ⟨by rfl, ?_⟩) hC ?_
  rotate_left
  · (intro w hSw; (try dsimp only at hSw); go_simp; first | done | with_reducible rfl)
  simp only [Act.put]
  refine Late.take (i := 2) (oi := _) (v := ?_) rfl (by kernel_rfl) (by kernel_rfl) (by kernel_rfl) (by kernel_rfl) (fun _ _ _ h => h) (Or.inl ⟨by rfl, ?_⟩) hC ?_
  rotate_left
  · (intro w hSw; (try dsimp only at hSw); go_simp; first | done | with_reducible rfl)
  simp only [Act.put]
  refine Late.take (i := 4) (oi := _) (v := ?_) rfl (by kernel_rfl) (by kernel_rfl) (by kernel_rfl) (by kernel_rfl) (fun _ _ _ h => h) (Or.inl ⟨by rfl, ?_⟩) hC ?_
  rotate_left
  · (intro w hSw; (try dsimp only at hSw); go_simp; first | done | with_reducible rfl)
  simp only [Act.put]
  refine Late.take (i := 5) (oi := _) (v := ?_) rfl (by kernel_rfl) (by kernel_rfl) (by kernel_rfl) (by kernel_rfl) (fun _ _ _ h => h) (Or.inl ⟨by rfl, ?_⟩) hC ?_
  rotate_left
  · (intro w hSw; (try dsimp only at hSw); go_simp; first | done | with_reducible rfl)
  simp only [Act.put]
  refine Late.one (i := 3) (o := _) (by kernel_rfl) rfl (fun K' hK' => ?_)
  try rw [if_pos (by rfl)]
  go_simp
  refine (HM.out _).mono ?_
  rintro e W2 ⟨A2, n2, rfl, he2, ho2⟩
  have HE2 := Lib.hid ((Ex.refl W0).drew.trans he2)
  have HI2 := Lib.hid ho2.ints
  have hC2 := HK.out _ HE2.out
  refine hK'.out _ _ (fun _ => hC2) (fun _ => ?_)
  clear hK' K' hC hC0 he2 ho2
  try simp only [Act.put, List.setIfInBounds_toArray, List.set_cons_zero, List.set_cons_succ]
  refine Late.one (i := 6) (o := _) (by kernel_rfl) rfl (fun K' hK' => ?_)
  try rw [if_pos (by rfl)]
  go_simp
  refine (HC.out A2 n2 W2 (HE.out.trans HE2.out) HI2.out).mono ?_
  rintro e W3 ⟨rfl, he3⟩
  have HE3 := Lib.hid ((HE.out.trans HE2.out).trans he3)
  have hC3 := HK.out _ (HE2.out.trans he3)
  refine hK'.out _ _ (fun _ => hC3) (fun _ => ?_)
  clear hK' K' hC2 he3
  try simp only [Act.put, List.setIfInBounds_toArray, List.set_cons_zero, List.set_cons_succ]
  refine Late.one (i := 7) (o := _) (by kernel_rfl) rfl (fun K' hK' => ?_)
  go_simp
  refine hK'.out _ _ (fun h => by cases h) (fun _ => ?_)
  clear hK' K'
  try simp only [Act.put, List.setIfInBounds_toArray, List.set_cons_zero, List.set_cons_succ]
  refine Late.done (by kernel_rfl) ?_ _
  go_wp2_with fail
  go_ret
  exact ⟨rfl, HE3.out⟩


/-- The functions of the tests. -/
def fnF : Nat → Nat
  | 0 => 101
  | 1 => 102
  | 2 => 103
  | 3 => 104
  | _ => 105
theorem fnF_enters (j : Nat) : ∀ args w, (callFunc (fnF j) args).run Tryz.prog w = .ok (.enter (fnF j) args) w := by
  match j with
  | 0 => exact enters_of Tryz.func101 (by kernel_rfl) rfl
  | 1 => exact enters_of Tryz.func102 (by kernel_rfl) rfl
  | 2 => exact enters_of Tryz.func103 (by kernel_rfl) rfl
  | 3 => exact enters_of Tryz.func104 (by kernel_rfl) rfl
  | _ + 4 => exact enters_of Tryz.func105 (by kernel_rfl) rfl

theorem tests_any (B0 B2 : Option Addr) (t : List (List Int)) (m n : Int) (fs : List Int) (d0 d2 : Nat) (w : World) (hR : RwsW w B0 t) (hF : IntsW w B2 fs) (hs : SmallT t) (hf : fs.length ≤ 1048576) :
    ∀ j, j < 5 → (∀ i, i < j → tsF t m n fs i = true) → Calls Tryz.prog (fnF j) #[.agg #[.slice B0 t.length d0, .int .i64 m, .int .i64 n, .slice B2 fs.length d2]] w fun e w' => e = .returned (.bool (tsF t m n fs j)) ∧ Ex w w' := by
  intro j hj hb
  rcases (by omega : j = 0 ∨ j = 1 ∨ j = 2 ∨ j = 3 ∨ j = 4) with rfl | rfl | rfl | rfl | rfl
  · exact hasGroup_any B0 B2 t m n fs d0 d2 w hR hs
  · exact hasModulus_any B0 B2 t m n fs d0 d2 w
  · obtain ⟨M, rfl, hg, h2, h12, _, _⟩ := ts_mod (hb 0 (by omega)) (hb 1 (by omega))
    refine hasCochain_w B0 B2 t M n fs d0 d2 _ w hg.n1 hg.n8 fun A' n' W he _ => ?_
    exact fitsModule_any B0 A' B2 t M (ones t.length) n fs d0 n' d2 W hg.n1 hg.n8 h12 (hF.ex he) hf
  · exact hasDegree_any B0 B2 t m n fs d0 d2 w
  · obtain ⟨M, rfl, hg, h2, h12, hgm, hF'⟩ := ts_mod (hb 0 (by omega)) (hb 1 (by omega))
    have hc : cocB t.length (M : Int) n fs = true := hb 2 (by omega)
    have hn : n = 2 := of_decide_eq_true (hb 3 (by omega))
    subst hn
    obtain ⟨M', k, hM', hk, _, hk3, hl, h343, hr⟩ := gmc_facts (t := t) (m := (M : Int)) (us := ones t.length) (n := 2) (fs := fs) (by rw [gmcB, hgm, hc]; rfl)
    have e1 : M = M' := by omega
    have e2 : k = 2 := by omega
    subst e1 e2
    refine hasCocycle_w B0 B2 t M 2 fs d0 d2 _ w hg.n1 hg.n8 fun A' n' W he hI => ?_
    exact isCocycle_any B0 A' B2 t M 2 (ones t.length) fs d0 n' d2 W (hR.ex he) hI (hF.ex he) hF' (by omega) hl hr

set_option maxRecDepth 100000 in
set_option maxHeartbeats 4000000 in
theorem fsCode_any (B0 B2 : Option Addr) (t : List (List Int)) (m n : Int) (fs : List Int) (d0 d2 : Nat) (w : World) (hR : RwsW w B0 t) (hF : IntsW w B2 fs) (hs : SmallT t) (hf : fs.length ≤ 1048576) :
    Calls Tryz.prog 71 #[.agg #[.slice B0 t.length d0, .int .i64 m, .int .i64 n, .slice B2 fs.length d2]] w fun e w' => e = .returned (.int .i64 (c10 t m n fs)) ∧ Ex w w' := by
  have e0 : Ex w ((w.alloc (.cells #[.slice B0 t.length d0, .int .i64 m, .int .i64 n, .slice B2 fs.length d2] 62)).alloc (.cells #[.func (.func 101) #[] #[], .int .i64 1, .func (.func 102) #[] #[], .int .i64 2, .func (.func 103) #[] #[], .int .i64 1, .func (.func 104) #[] #[], .int .i64 2, .func (.func 105) #[] #[], .int .i64 5] 137)) := ((Ex.refl w).alloc _).alloc _
  have b0 : Has ((w.alloc (.cells #[.slice B0 t.length d0, .int .i64 m, .int .i64 n, .slice B2 fs.length d2] 62)).alloc (.cells #[.func (.func 101) #[] #[], .int .i64 1, .func (.func 102) #[] #[], .int .i64 2, .func (.func 103) #[] #[], .int .i64 1, .func (.func 104) #[] #[], .int .i64 2, .func (.func 105) #[] #[], .int .i64 5] 137)) (w.heap.size) 62 #[.slice B0 t.length d0, .int .i64 m, .int .i64 n, .slice B2 fs.length d2] := ((Has.newAt (w := w) (e := 62) (cs := #[.slice B0 t.length d0, .int .i64 m, .int .i64 n, .slice B2 fs.length d2]) (k := w.heap.size) (by simp)).alloc _)
  have b1 : Has ((w.alloc (.cells #[.slice B0 t.length d0, .int .i64 m, .int .i64 n, .slice B2 fs.length d2] 62)).alloc (.cells #[.func (.func 101) #[] #[], .int .i64 1, .func (.func 102) #[] #[], .int .i64 2, .func (.func 103) #[] #[], .int .i64 1, .func (.func 104) #[] #[], .int .i64 2, .func (.func 105) #[] #[], .int .i64 5] 137)) (w.heap.size + 1) 137 #[.func (.func 101) #[] #[], .int .i64 1, .func (.func 102) #[] #[], .int .i64 2, .func (.func 103) #[] #[], .int .i64 1, .func (.func 104) #[] #[], .int .i64 2, .func (.func 105) #[] #[], .int .i64 5] := (Has.newAt (w := (w.alloc (.cells #[.slice B0 t.length d0, .int .i64 m, .int .i64 n, .slice B2 fs.length d2] 62))) (e := 137) (cs := #[.func (.func 101) #[] #[], .int .i64 1, .func (.func 102) #[] #[], .int .i64 2, .func (.func 103) #[] #[], .int .i64 1, .func (.func 104) #[] #[], .int .i64 2, .func (.func 105) #[] #[], .int .i64 5]) (k := w.heap.size + 1) (by simp))
  have HT := Lib.hid (fun j (hj : j < 5) (hb : ∀ i, i < j → tsF t m n fs i = true) W (he : Ex w W) => tests_any B0 B2 t m n fs d0 d2 W (hR.ex he) (hF.ex he) hs hf j hj hb)
  have HCA := Lib.hid (fun j (hj : j < 5) (hb : ∀ i, i < j → tsF t m n fs i = true) (h : tsF t m n fs j = false) => c10_at hj hb h)
  have HCN := Lib.hid (fun (h : ∀ i, i < 5 → tsF t m n fs i = true) => c10_none h)
  have HKS := Lib.hid (fun (W' : World) (hb : Ex ((w.alloc (.cells #[.slice B0 t.length d0, .int .i64 m, .int .i64 n, .slice B2 fs.length d2] 62)).alloc (.cells #[.func (.func 101) #[] #[], .int .i64 1, .func (.func 102) #[] #[], .int .i64 2, .func (.func 103) #[] #[], .int .i64 1, .func (.func 104) #[] #[], .int .i64 2, .func (.func 105) #[] #[], .int .i64 5] 137)) W') => And.intro ((b0.ex hb).cell 0) (And.intro ((b0.ex hb).cell 1) (And.intro ((b0.ex hb).cell 2) ((b0.ex hb).cell 3))))
  have HKL := Lib.hid (fun j (hj : j < 5) (W' : World) (hb : Ex ((w.alloc (.cells #[.slice B0 t.length d0, .int .i64 m, .int .i64 n, .slice B2 fs.length d2] 62)).alloc (.cells #[.func (.func 101) #[] #[], .int .i64 1, .func (.func 102) #[] #[], .int .i64 2, .func (.func 103) #[] #[], .int .i64 1, .func (.func 104) #[] #[], .int .i64 2, .func (.func 105) #[] #[], .int .i64 5] 137)) W') => (by
    have h := b1.ex hb
    rcases (by omega : j = 0 ∨ j = 1 ∨ j = 2 ∨ j = 3 ∨ j = 4) with rfl | rfl | rfl | rfl | rfl
    · exact ⟨h.cell 0, h.cell 1⟩
    · exact ⟨h.cell 2, h.cell 3⟩
    · exact ⟨h.cell 4, h.cell 5⟩
    · exact ⟨h.cell 6, h.cell 7⟩
    · exact ⟨h.cell 8, h.cell 9⟩ : W'.cell? ⟨w.heap.size + 1, j * 2, none⟩ = some (.func (.func (fnF j)) #[] #[]) ∧ W'.cell? ⟨w.heap.size + 1, j * 2 + 1, none⟩ = some (.int .i64 (cdF j))))
  have HE0 := Lib.hid e0
  obtain ⟨ts, hts⟩ : ∃ ts, tsF t m n fs = ts := ⟨_, rfl⟩
  obtain ⟨C, hC⟩ : ∃ C, c10 t m n fs = C := ⟨_, rfl⟩
  rw [hts] at HT HCA HCN
  rw [hC] at HCA HCN ⊢
  clear hR hF hs hf b0 b1 e0 hts hC
  go_enter Tryz.func71, Tryz.ntmps71
  go_wp2_with fail
  generalize ((w.alloc (.cells #[.slice B0 t.length d0, .int .i64 m, .int .i64 n, .slice B2 fs.length d2] 62)).alloc (.cells #[.func (.func 101) #[] #[], .int .i64 1, .func (.func 102) #[] #[], .int .i64 2, .func (.func 103) #[] #[], .int .i64 1, .func (.func 104) #[] #[], .int .i64 2, .func (.func 105) #[] #[], .int .i64 5] 137)) = W0 at *
  go_loopw [14] (fun i wr => ∃ k : Nat, k ≤ 5 ∧ i = .int .i64 (k : Int) ∧ Hid (Ex W0 wr) ∧ Hid (∀ j, j < k → ts j = true)) (fun i _ => 5 - (intOf i).toNat)
  case atStart => exact ⟨0, by omega, rfl, Lib.hid (Ex.refl _), Lib.hid fun j hj => absurd hj (by omega)⟩
  case round =>
    obtain ⟨k, hk, rfl, HE, HP⟩ := hrel
    by_cases hlt : k < 5
    · obtain ⟨c0, c1⟩ := HKL.out k hlt wr HE.out
      have HCK := Lib.hid (HCA.out k hlt HP.out)
      have HTK := Lib.hid (fun W (he : Ex w W) => HT.out k hlt HP.out W he)
      have hegw := fnF_enters k
      obtain ⟨f, hf⟩ : ∃ f, fnF k = f := ⟨_, rfl⟩
      obtain ⟨cd, hcd⟩ : ∃ cd, cdF k = cd := ⟨_, rfl⟩
      obtain ⟨b, hb⟩ : ∃ b, ts k = b := ⟨_, rfl⟩
      rw [hf] at c0 HTK hegw
      rw [hcd] at c1 HCK
      rw [hb] at HCK HTK
      have HBK := Lib.hid hb
      obtain ⟨s0, s1, s2, s3⟩ := HKS.out _ (HE.out.alloc (.cells #[.func (.func f) #[] #[], .int .i64 cd] 137))
      have hsf := fun (a : Addr) (w : World) => run_store Tryz.prog w a (.func (.func f) #[] #[]) .plain rfl
      have hbx := Has.new wr 137 #[.func (.func f) #[] #[], .int .i64 cd]
      have x0 := hbx.cell 0
      have HX := Lib.hid hbx
      clear hf hcd hb hbx
      cases b with
      | true =>
        go_wp2_with fail
        refine (HTK.out _ (HE0.out.trans (HE.out.alloc _))).mono ?_
        rintro e w' ⟨rfl, he⟩
        have HE2 := Lib.hid ((HE.out.alloc _).trans he)
        clear he hegw x0 s0 s1 s2 s3
        go_wp2_with fail
        go_roundw
        case rel => exact ⟨k + 1, by omega, by go_num, HE2, Lib.hid (fun j hj => by
          rcases Nat.lt_or_ge j k with h | h
          · exact HP.out j h
          · obtain rfl : j = k := by omega
            exact HBK.out)⟩
        case measure => simp [intOf]; omega
      | false =>
        go_wp2_with fail
        refine (HTK.out _ (HE0.out.trans (HE.out.alloc _))).mono ?_
        rintro e w' ⟨rfl, he⟩
        have HE2 := Lib.hid (HE0.out.trans ((HE.out.alloc _).trans he))
        have y1 := (HX.out.ex he).cell 1
        have HCC := Lib.hid (by first | exact HCK.out trivial | exact HCK.out rfl)
        clear he hegw x0 s0 s1 s2 s3
        go_wp2_with fail
        go_ret
        exact ⟨by rw [HCC.out]; rfl, HE2.out⟩
    · obtain rfl : k = 5 := by omega
      have HCC := Lib.hid (HCN.out HP.out)
      go_wp2_with fail
      go_ret
      exact ⟨by rw [HCC.out]; rfl, HE0.out.trans HE.out⟩

set_option maxRecDepth 100000 in
set_option maxHeartbeats 2000000 in
theorem factorSetOf_any (B0 B2 : Option Addr) (t : List (List Int)) (m n : Int) (fs : List Int) (d0 d2 : Nat) (w : World) (hR : RwsW w B0 t) (hF : IntsW w B2 fs) (hs : SmallT t) (hf : fs.length ≤ 1048576) :
    Calls Tryz.prog 37 #[.agg #[.slice B0 t.length d0], .int .i64 m, .agg #[.int .i64 n, .slice B2 fs.length d2]] w fun e w' => ∃ v, e = .returned (.tuple #[v, .int .i64 (c10 t m n fs)]) ∧ Ex w w' ∧
      (c10 t m n fs = 0 → v = .agg #[.slice B0 t.length d0, .int .i64 m, .int .i64 n, .slice B2 fs.length d2]) ∧ (c10 t m n fs ≠ 0 → v = .agg #[.slice none 0 0, .int .i64 0, .int .i64 0, .slice none 0 0]) := by
  have e0 : Ex w ((((w.alloc (.cells #[.slice B0 t.length d0] 32)).alloc (.cells #[.int .i64 n, .slice B2 fs.length d2] 34)).alloc (.cells #[.slice none 0 0, .int .i64 0, .int .i64 0, .slice none 0 0] 62)).alloc (.cells #[.slice B0 t.length d0, .int .i64 m, .int .i64 n, .slice B2 fs.length d2] 62)) := ((((Ex.refl w).alloc _).alloc _).alloc _).alloc _
  have b0 : Has ((((w.alloc (.cells #[.slice B0 t.length d0] 32)).alloc (.cells #[.int .i64 n, .slice B2 fs.length d2] 34)).alloc (.cells #[.slice none 0 0, .int .i64 0, .int .i64 0, .slice none 0 0] 62)).alloc (.cells #[.slice B0 t.length d0, .int .i64 m, .int .i64 n, .slice B2 fs.length d2] 62)) (w.heap.size) 32 #[.slice B0 t.length d0] := ((((Has.newAt (w := w) (e := 32) (cs := #[.slice B0 t.length d0]) (k := w.heap.size) (by simp)).alloc _).alloc _).alloc _)
  have b1 : Has ((((w.alloc (.cells #[.slice B0 t.length d0] 32)).alloc (.cells #[.int .i64 n, .slice B2 fs.length d2] 34)).alloc (.cells #[.slice none 0 0, .int .i64 0, .int .i64 0, .slice none 0 0] 62)).alloc (.cells #[.slice B0 t.length d0, .int .i64 m, .int .i64 n, .slice B2 fs.length d2] 62)) (w.heap.size + 1) 34 #[.int .i64 n, .slice B2 fs.length d2] := (((Has.newAt (w := (w.alloc (.cells #[.slice B0 t.length d0] 32))) (e := 34) (cs := #[.int .i64 n, .slice B2 fs.length d2]) (k := w.heap.size + 1) (by simp)).alloc _).alloc _)
  have b2 : Has ((((w.alloc (.cells #[.slice B0 t.length d0] 32)).alloc (.cells #[.int .i64 n, .slice B2 fs.length d2] 34)).alloc (.cells #[.slice none 0 0, .int .i64 0, .int .i64 0, .slice none 0 0] 62)).alloc (.cells #[.slice B0 t.length d0, .int .i64 m, .int .i64 n, .slice B2 fs.length d2] 62)) (w.heap.size + 1 + 1) 62 #[.slice none 0 0, .int .i64 0, .int .i64 0, .slice none 0 0] := ((Has.newAt (w := ((w.alloc (.cells #[.slice B0 t.length d0] 32)).alloc (.cells #[.int .i64 n, .slice B2 fs.length d2] 34))) (e := 62) (cs := #[.slice none 0 0, .int .i64 0, .int .i64 0, .slice none 0 0]) (k := w.heap.size + 1 + 1) (by simp)).alloc _)
  have b3 : Has ((((w.alloc (.cells #[.slice B0 t.length d0] 32)).alloc (.cells #[.int .i64 n, .slice B2 fs.length d2] 34)).alloc (.cells #[.slice none 0 0, .int .i64 0, .int .i64 0, .slice none 0 0] 62)).alloc (.cells #[.slice B0 t.length d0, .int .i64 m, .int .i64 n, .slice B2 fs.length d2] 62)) (w.heap.size + 1 + 1 + 1) 62 #[.slice B0 t.length d0, .int .i64 m, .int .i64 n, .slice B2 fs.length d2] := (Has.newAt (w := (((w.alloc (.cells #[.slice B0 t.length d0] 32)).alloc (.cells #[.int .i64 n, .slice B2 fs.length d2] 34)).alloc (.cells #[.slice none 0 0, .int .i64 0, .int .i64 0, .slice none 0 0] 62))) (e := 62) (cs := #[.slice B0 t.length d0, .int .i64 m, .int .i64 n, .slice B2 fs.length d2]) (k := w.heap.size + 1 + 1 + 1) (by simp))
  have c0 := b0.cell 0
  have c1 := b1.cell 0
  have c1' := b1.cell 1
  have HCC := Lib.hid (fsCode_any B0 B2 t m n fs d0 d2 _ (hR.ex e0) (hF.ex e0) hs hf)
  have s0 := b3.cell 0
  have s1 := b3.cell 1
  have s2 := b3.cell 2
  have s3 := b3.cell 3
  have HB2 := Lib.hid b2
  have HB3 := Lib.hid b3
  have HE0 := Lib.hid e0
  obtain ⟨C, hC⟩ : ∃ C, c10 t m n fs = C := ⟨_, rfl⟩
  rw [hC] at HCC ⊢
  clear hR hF hs hf b0 b1 b2 b3 e0 hC
  by_cases hz : C = 0
  · subst hz
    go_enter Tryz.func37, Tryz.ntmps37
    go_wp2_with fail
    refine HCC.out.mono ?_
    rintro e W1 ⟨rfl, he1⟩
    have H2 := HB2.out.ex he1
    have H3 := HB3.out.ex he1
    have HE1 := Lib.hid (HE0.out.trans he1)
    have x0 := H3.cell 0
    have x1 := H3.cell 1
    have x2 := H3.cell 2
    have x3 := H3.cell 3
    have y0 := H2.cell 0
    have y1 := H2.cell 1
    have y2 := H2.cell 2
    have y3 := H2.cell 3
    have g0 := H2.free 0
    have g1 := H2.free 1
    have g2 := H2.free 2
    have g3 := H2.free 3
    have HH := Lib.hid H2
    clear c0 c1 c1' s0 s1 s2 s3 he1 H2 H3
    go_wp2_with fail
    have H4 := HH.out.put4 (u := .slice B0 t.length d0) (v := .int .i64 m) (p := .int .i64 n) (q := .slice B2 fs.length d2)
    have z0 := H4.cell 0
    have z1 := H4.cell 1
    have z2 := H4.cell 2
    have z3 := H4.cell 3
    refine bodyPost_ret (v := .tuple #[.agg #[.slice B0 t.length d0, .int .i64 m, .int .i64 n, .slice B2 fs.length d2], .int .i64 0]) (by simp [results, Tryz.results37, go_sem, z0, z1, z2, z3]) rfl ⟨_, rfl, ?_, fun _ => rfl, fun h => absurd rfl h⟩
    exact (((HE1.out.setCell (by show w.heap.size ≤ w.heap.size + 1 + 1; omega) _).setCell (by show w.heap.size ≤ w.heap.size + 1 + 1; omega) _).setCell (by show w.heap.size ≤ w.heap.size + 1 + 1; omega) _).setCell (by show w.heap.size ≤ w.heap.size + 1 + 1; omega) _
  · have hz' : (C != 0) = true := by simpa using hz
    have HZ := Lib.hid hz
    clear hz
    go_enter Tryz.func37, Tryz.ntmps37
    go_wp2_with fail
    refine HCC.out.mono ?_
    rintro e W1 ⟨rfl, he1⟩
    have H2 := HB2.out.ex he1
    have HE1 := Lib.hid (HE0.out.trans he1)
    have y0 := H2.cell 0
    have y1 := H2.cell 1
    have y2 := H2.cell 2
    have y3 := H2.cell 3
    have g0 := H2.free 0
    have g1 := H2.free 1
    have g2 := H2.free 2
    have g3 := H2.free 3
    have HH := Lib.hid H2
    clear c0 c1 c1' s0 s1 s2 s3 he1 H2
    go_wp2_with fail
    have H4 := HH.out.put4 (u := .slice none 0 0) (v := .int .i64 0) (p := .int .i64 0) (q := .slice none 0 0)
    have z0 := H4.cell 0
    have z1 := H4.cell 1
    have z2 := H4.cell 2
    have z3 := H4.cell 3
    refine bodyPost_ret (v := .tuple #[.agg #[.slice none 0 0, .int .i64 0, .int .i64 0, .slice none 0 0], .int .i64 C]) (by simp [results, Tryz.results37, go_sem, z0, z1, z2, z3]) rfl ⟨_, rfl, ?_, fun h => absurd h HZ.out, fun _ => rfl⟩
    exact (((HE1.out.setCell (by show w.heap.size ≤ w.heap.size + 1 + 1; omega) _).setCell (by show w.heap.size ≤ w.heap.size + 1 + 1; omega) _).setCell (by show w.heap.size ≤ w.heap.size + 1 + 1; omega) _).setCell (by show w.heap.size ≤ w.heap.size + 1 + 1; omega) _

end Go.Proofs.YtcdijeeabgmgmaaGreatDoor
