/- IsSymmetric and FormOf: the models, the program's side. -/
import Derived.Laws.CopyOwn
import Derived.Laws.CopyRow
import Derived.Test.YtcdijeeabgmgmaaDoorA5
import Derived.Test.YtcdijeeabgmgmaaDoorA7
namespace Go.Proofs.YtcdijeeabgmgmaaDoor
open Go.RowKit Go.Shelf

attribute [local go_sem] Oper.semAt_some

noncomputable def qIsSymmetric0 (t : List (List Int)) (m n : Int) (fs : List Int) : Bool := if c10 t m n fs = 0 then syB t.length fs else false
noncomputable def qIsSymmetric1 (t : List (List Int)) (m n : Int) (fs : List Int) : Int := c10 t m n fs
noncomputable def yFormOf0 (t : List (List Int)) (m n : Int) (fs : List Int) : List (List Int) := if c10 t m n fs = 0 then mkT t.length t.length (fF t m.toNat fs) else []
noncomputable def qFormOf1 (t : List (List Int)) (m n : Int) (fs : List Int) : Int := c10 t m n fs
section
variable {t : List (List Int)} {m n : Int} {fs : List Int}
theorem sy_yes (h : c10 t m n fs = 0) : qIsSymmetric0 t m n fs = syB t.length fs ∧ qIsSymmetric1 t m n fs = 0 := by simp [qIsSymmetric0, qIsSymmetric1, h]
theorem sy_no (h : c10 t m n fs ≠ 0) : qIsSymmetric0 t m n fs = false ∧ qIsSymmetric1 t m n fs = c10 t m n fs := by simp [qIsSymmetric0, qIsSymmetric1, h]
theorem fo_yes {M : Nat} (h : c10 t (M : Int) n fs = 0) : yFormOf0 t (M : Int) n fs = mkT t.length t.length (fF t M fs) ∧ qFormOf1 t (M : Int) n fs = 0 := by simp [yFormOf0, qFormOf1, h]
theorem fo_no (h : c10 t m n fs ≠ 0) : yFormOf0 t m n fs = [] ∧ qFormOf1 t m n fs = c10 t m n fs := by simp [yFormOf0, qFormOf1, h]
theorem formOf_small0 (t : List (List Int)) (m n : Int) (fs : List Int) : SmallT (yFormOf0 t m n fs) := by
  by_cases h : c10 t m n fs = 0
  · obtain ⟨M, rfl, -, hf⟩ := c10_yes h
    have := hf.m.g.n8
    rw [(fo_yes h).1]
    exact mkT_small (by omega) (by omega)
  · rw [(fo_no h).1]
    exact ⟨by simp, fun i hi => by simp at hi⟩
end

/-- Differences that are all 0. -/
theorem sy_square {t : List (List Int)} {M : Nat} {fs : List Int} (h : FacF t M fs) :
    ((List.range 8).all fun i => (List.range 8).all fun j => (if (i * 8 + j) / 8 < t.length ∧ (i * 8 + j) % 8 < t.length then dF t.length M fs ((i * 8 + j) / 8) ((i * 8 + j) % 8) else 0) == 0) = syB t.length fs := by
  have hn8 := h.m.g.n8
  cases hs : syB t.length fs with
  | true =>
    refine List.all_eq_true.2 fun i hi => List.all_eq_true.2 fun j hj => ?_
    have hi := List.mem_range.1 hi
    have hj := List.mem_range.1 hj
    rw [show (i * 8 + j) / 8 = i by omega, show (i * 8 + j) % 8 = j by omega]
    by_cases hc : i < t.length ∧ j < t.length
    · rw [if_pos hc, (h.d_zero hc.1 hc.2).2 (syB_at hs hc.1 hc.2)]
      rfl
    · rw [if_neg hc]
      rfl
  | false =>
    rw [Bool.eq_false_iff]
    intro e
    have key : syB t.length fs = true := syB_true fun x hx y hy => by
      have h1 := List.all_eq_true.1 (List.all_eq_true.1 e x (List.mem_range.2 (by omega))) y (List.mem_range.2 (by omega))
      rw [show (x * 8 + y) / 8 = x by omega, show (x * 8 + y) % 8 = y by omega, if_pos ⟨hx, by omega⟩] at h1
      exact (h.d_zero hx (by omega)).1 (by simpa using h1)
    rw [hs] at key
    cases key

set_option maxRecDepth 100000 in
set_option maxHeartbeats 2000000 in
theorem isSymmetric_any (B0 B2 : Option Addr) (t : List (List Int)) (M : Nat) (fs : List Int) (d0 d2 : Nat) (w : World) (hF : IntsW w B2 fs) (h : FacF t M fs) :
    Calls Tryd.prog 62 #[.agg #[.slice B0 t.length d0, .int .i64 (M : Int), .int .i64 2, .slice B2 fs.length d2]] w fun e w' => e = .returned (.bool (syB t.length fs)) ∧ Ex w w' := by
  have e0 : Ex w (w.alloc (.cells #[.slice B0 t.length d0, .int .i64 (M : Int), .int .i64 2, .slice B2 fs.length d2] 73)) := (Ex.refl w).alloc _
  have b0 : Has (w.alloc (.cells #[.slice B0 t.length d0, .int .i64 (M : Int), .int .i64 2, .slice B2 fs.length d2] 73)) (w.heap.size) 73 #[.slice B0 t.length d0, .int .i64 (M : Int), .int .i64 2, .slice B2 fs.length d2] := (Has.newAt (w := w) (e := 73) (cs := #[.slice B0 t.length d0, .int .i64 (M : Int), .int .i64 2, .slice B2 fs.length d2]) (k := w.heap.size) (by simp))
  have HD := Lib.hid (differences_any B0 B2 t M fs d0 d2 _ (hF.ex e0) h)
  have heq := fun w => eq_square 9997 (fun p => if p / 8 < t.length ∧ p % 8 < t.length then dF t.length M fs (p / 8) (p % 8) else 0) (fun _ => 0) w
  rw [sy_square h] at heq
  have hgd : Tryd.prog.eqGuardType Tryd.prog.depth 80 = false := by kernel_rfl
  have c0 := b0.cell 0
  have c1 := b0.cell 1
  have c2 := b0.cell 2
  have c3 := b0.cell 3
  have HE := Lib.hid e0
  have heq' : ∀ w, (Op.equalIn 10000 80 (.agg (sqA t.length (dF t.length M fs))) (.agg #[.int .i64 0, .int .i64 0, .int .i64 0, .int .i64 0, .int .i64 0, .int .i64 0, .int .i64 0, .int .i64 0, .int .i64 0, .int .i64 0, .int .i64 0, .int .i64 0, .int .i64 0, .int .i64 0, .int .i64 0, .int .i64 0, .int .i64 0, .int .i64 0, .int .i64 0, .int .i64 0, .int .i64 0, .int .i64 0, .int .i64 0, .int .i64 0, .int .i64 0, .int .i64 0, .int .i64 0, .int .i64 0, .int .i64 0, .int .i64 0, .int .i64 0, .int .i64 0, .int .i64 0, .int .i64 0, .int .i64 0, .int .i64 0, .int .i64 0, .int .i64 0, .int .i64 0, .int .i64 0, .int .i64 0, .int .i64 0, .int .i64 0, .int .i64 0, .int .i64 0, .int .i64 0, .int .i64 0, .int .i64 0, .int .i64 0, .int .i64 0, .int .i64 0, .int .i64 0, .int .i64 0, .int .i64 0, .int .i64 0, .int .i64 0, .int .i64 0, .int .i64 0, .int .i64 0, .int .i64 0, .int .i64 0, .int .i64 0, .int .i64 0, .int .i64 0])).run Tryd.prog w = .ok (syB t.length fs) w := by
    rw [sqZ]
    exact heq
  obtain ⟨S, hS⟩ : ∃ S, sqA t.length (dF t.length M fs) = S := ⟨_, rfl⟩
  obtain ⟨r, hr⟩ : ∃ r, syB t.length fs = r := ⟨_, rfl⟩
  rw [hS, hr] at heq'
  rw [hS] at HD
  rw [hr]
  clear heq hS hr b0 e0 hF h
  go_enter Tryd.func62, Tryd.ntmps62
  go_wp2_with fail
  generalize (w.alloc (.cells #[.slice B0 t.length d0, .int .i64 (M : Int), .int .i64 2, .slice B2 fs.length d2] 73)) = W0 at *
  refine HD.out.mono ?_
  rintro e W1 ⟨rfl, he1⟩
  have HE1 := Lib.hid (HE.out.trans he1)
  clear he1 c0 c1 c2 c3
  go_wp2_with fail
  go_ret
  exact ⟨rfl, HE1.out⟩

set_option maxRecDepth 100000 in
set_option maxHeartbeats 2000000 in
theorem implIsSymmetric_ex (t0 : List (List Int)) (m1 m2 : Int) (t2 : List Int) : ∀ (B0 : Option Addr) (d0 : Nat) (B2 : Option Addr) (d2 : Nat) (W : World), RwsW W B0 t0 → IntsW W B2 t2 → SmallT t0 → t2.length ≤ 1048576 →
    Calls Tryd.prog 18 #[.agg #[.slice B0 t0.length d0], .int .i64 m1, .agg #[.int .i64 m2, .slice B2 t2.length d2]] W fun e W' => e = .returned (.tuple #[.bool (qIsSymmetric0 t0 m1 m2 t2), .int .i64 (qIsSymmetric1 t0 m1 m2 t2)]) ∧ Ex W W' := by
  intro B0 d0 B2 d2 w hR hF hs hf
  have e0 : Ex w ((w.alloc (.cells #[.slice B0 t0.length d0] 32)).alloc (.cells #[.int .i64 m2, .slice B2 t2.length d2] 34)) := ((Ex.refl w).alloc _).alloc _
  have b0 : Has ((w.alloc (.cells #[.slice B0 t0.length d0] 32)).alloc (.cells #[.int .i64 m2, .slice B2 t2.length d2] 34)) (w.heap.size) 32 #[.slice B0 t0.length d0] := ((Has.newAt (w := w) (e := 32) (cs := #[.slice B0 t0.length d0]) (k := w.heap.size) (by simp)).alloc _)
  have b1 : Has ((w.alloc (.cells #[.slice B0 t0.length d0] 32)).alloc (.cells #[.int .i64 m2, .slice B2 t2.length d2] 34)) (w.heap.size + 1) 34 #[.int .i64 m2, .slice B2 t2.length d2] := (Has.newAt (w := (w.alloc (.cells #[.slice B0 t0.length d0] 32))) (e := 34) (cs := #[.int .i64 m2, .slice B2 t2.length d2]) (k := w.heap.size + 1) (by simp))
  have HFS := Lib.hid (factorSetOf_any B0 B2 t0 m1 m2 t2 d0 d2 _ (hR.ex e0) (hF.ex e0) hs hf)
  have HE := Lib.hid e0
  have c0 := b0.cell 0
  have c1 := b1.cell 0
  have c1' := b1.cell 1
  clear b0 b1
  by_cases hz : c10 t0 m1 m2 t2 = 0
  · obtain ⟨M, rfl, rfl, h⟩ := c10_yes hz
    have HS := Lib.hid (fun W (he : Ex w W) => isSymmetric_any B0 B2 t0 M t2 d0 d2 W (hF.ex he) h)
    have HQ := Lib.hid (sy_yes hz)
    rw [hz] at HFS
    clear hR hF hs hf hz h e0
    go_enter Tryd.func18, Tryd.ntmps18
    go_wp2_with fail
    generalize ((w.alloc (.cells #[.slice B0 t0.length d0] 32)).alloc (.cells #[.int .i64 2, .slice B2 t2.length d2] 34)) = W0 at *
    refine HFS.out.mono ?_
    rintro e W1 ⟨v, rfl, he1, hv, -⟩
    obtain rfl : v = _ := by first | exact hv rfl | exact hv trivial
    have HE1 := Lib.hid ((HE.out.trans he1).alloc (.cells #[.slice B0 t0.length d0, .int .i64 (M : Int), .int .i64 2, .slice B2 t2.length d2] 73))
    have hbx := Has.new W1 73 #[.slice B0 t0.length d0, .int .i64 (M : Int), .int .i64 2, .slice B2 t2.length d2]
    have x0 := hbx.cell 0
    have x1 := hbx.cell 1
    have x2 := hbx.cell 2
    have x3 := hbx.cell 3
    clear he1 hv c0 c1 c1' hbx
    go_wp2_with fail
    refine (HS.out _ HE1.out).mono ?_
    rintro e W3 ⟨rfl, he3⟩
    have HE3 := Lib.hid (HE1.out.trans he3)
    clear he3 x0 x1 x2 x3
    go_wp2_with fail
    go_ret2
    exact ⟨by rw [HQ.out.1, HQ.out.2]; rfl, HE3.out⟩
  · have HQ := Lib.hid (sy_no hz)
    obtain ⟨C, hC⟩ : ∃ C, c10 t0 m1 m2 t2 = C := ⟨_, rfl⟩
    rw [hC] at HFS HQ hz
    have hne : (C != 0) = true := by simpa using hz
    have HZ := Lib.hid hz
    clear hR hF hs hf hz e0 hC
    go_enter Tryd.func18, Tryd.ntmps18
    go_wp2_with fail
    generalize ((w.alloc (.cells #[.slice B0 t0.length d0] 32)).alloc (.cells #[.int .i64 m2, .slice B2 t2.length d2] 34)) = W0 at *
    refine HFS.out.mono ?_
    rintro e W1 ⟨v, rfl, he1, -, hv⟩
    obtain rfl := hv HZ.out
    have HE1 := Lib.hid ((HE.out.trans he1).alloc (.cells #[.slice none 0 0, .int .i64 0, .int .i64 0, .slice none 0 0] 73))
    clear he1 hv c0 c1 c1'
    go_wp2_with fail
    go_ret2
    exact ⟨by rw [HQ.out.1, HQ.out.2]; rfl, HE1.out⟩

theorem copyRow {W : World} {G Bs N k : Nat} {f g : Nat → Int} {w0 : World} (hG : Has W G 2 (tab (N * N) fun p => .int .i64 (f p))) (hk : k < N) (hN : N ≤ 8) (hE : Ex w0 W) (hl : w0.heap.size ≤ G)
    (hs : ∀ j, j < N → W.cell? ⟨Bs, k * 8 + j, none⟩ = some (.int .i64 (g j))) :
    ∃ W2, Sem.run Tryd.prog (Builtin.copy_ #[25, 25] 3 #[.slice (some ⟨G, k * N, none⟩) N N, .slice (some ⟨Bs, k * 8, none⟩) 8 8]) W = .ok (.int .i64 (N : Int)) W2 ∧ Hid (Has W2 G 2 (tab (N * N) fun p => .int .i64 (if p / N = k then g (p % N) else f p))) ∧ Hid (Ex w0 W2) ∧ Hid (∀ b T cs, b ≠ G → Has W b T cs → Has W2 b T cs) := by
  have hsz : (Tryd.prog.info? 2).map (·.size) = some 1 := by kernel_rfl
  have hfit : k * N + N ≤ N * N := by
    have : (k + 1) * N ≤ N * N := Nat.mul_le_mul_right N hk
    rw [Nat.succ_mul] at this
    exact this
  have hmin : Nat.min 8 N = N := Nat.min_eq_right hN
  have hrun := run_copy_row (P := Tryd.prog) W 25 25 3 2 G (k * N) N N ⟨Bs, k * 8, none⟩ 8 8 (tab (N * N) fun p => .int .i64 (f p)) 2 ((List.range N).map fun j => .int .i64 (g j)) Tryd.underlying25 hsz hG
    (by rw [List.length_map, List.length_range, hmin]) (fun j v hj => by
      obtain ⟨hj1, hj2⟩ := List.getElem?_eq_some_iff.1 hj
      rw [List.length_map, List.length_range] at hj1
      have hadd : (⟨Bs, k * 8, none⟩ : Addr).add j = ⟨Bs, k * 8 + j, none⟩ := by unfold Addr.add; split <;> simp_all
      rw [hadd, hs j hj1, ← hj2]
      simp) (by rw [List.length_map, List.length_range, tab_size]; exact hfit) (fun v hv => by
      obtain ⟨_, _, rfl⟩ := List.mem_map.1 hv
      rfl)
  rw [List.length_map, List.length_range] at hrun
  have htab : ((tab (N * N) fun p => Value.int .i64 (f p)).toList.take (k * N) ++ ((List.range N).map fun j => Value.int .i64 (g j)) ++ (tab (N * N) fun p => Value.int .i64 (f p)).toList.drop (k * N + N)).toArray = tab (N * N) fun p => .int .i64 (if p / N = k then g (p % N) else f p) := by
    apply tab_ext
    · simp only [tab, List.size_toArray, List.length_append, List.length_take, List.length_map, List.length_range, List.length_drop]
      rw [Nat.min_eq_left (show k * N ≤ N * N by omega)]
      omega
    · intro j hj
      have hN0 : 0 < N := by omega
      simp only [tab, List.getElem?_toArray, List.getElem?_append, List.getElem?_take, List.getElem?_drop, List.length_append, List.length_take, List.length_map, List.length_range]
      have hm : min (k * N) (N * N) = k * N := Nat.min_eq_left (by omega)
      rw [hm]
      rcases Nat.lt_or_ge j (k * N) with h1 | h1
      · have hd : ¬ j / N = k := fun e => by
          have := Nat.div_mul_le_self j N
          rw [e] at this
          omega
        rw [if_pos (by omega), if_pos h1, if_pos h1]
        simp [hj, hd]
      · rcases Nat.lt_or_ge j (k * N + N) with h2 | h2
        · have hd : j / N = k := by
            have e : j = N * k + (j - k * N) := by rw [Nat.mul_comm]; omega
            rw [e, Nat.mul_add_div hN0, Nat.div_eq_of_lt (by omega), Nat.add_zero]
          have hr : j % N = j - k * N := by
            have e : j = N * k + (j - k * N) := by rw [Nat.mul_comm]; omega
            rw [e, Nat.mul_add_mod, Nat.mod_eq_of_lt (by omega)]
            rw [Nat.mul_comm]
            omega
          rw [if_pos h2, if_neg (by omega)]
          simp [hd, hr, show j - k * N < N by omega]
        · have hd : ¬ j / N = k := fun e => by
            have := Nat.div_add_mod j N
            have h3 := Nat.mod_lt j hN0
            rw [e, Nat.mul_comm] at this
            omega
          rw [if_neg (by omega)]
          simp [hd, hj, show k * N + N + (j - (k * N + N)) = j by omega]
  rw [htab] at hrun
  exact ⟨_, by simpa [goInt] using hrun, Lib.hid (setRow_heap W G _ _ 2 _ hG), Lib.hid (below_setRow hE.below hl _), Lib.hid (fun b T cs hb h => (setRow_other W G b _ hb).trans h)⟩

set_option maxRecDepth 100000 in
set_option maxHeartbeats 4000000 in
theorem rows_any (N : Nat) (V : Nat → Nat → Int) (w : World) (hN : N ≤ 8) :
    Calls Tryd.prog 65 #[.agg (sqA N V), .int .i64 (N : Int)] w fun e w' => ∃ C n, e = .returned (.slice C N n) ∧ Ex w w' ∧ OwnT w' w.heap.size w'.heap.size C (mkT N N V) := by
  have e0 : Ex w (w.alloc (.cells (sqA N V) 80)) := (Ex.refl w).alloc _
  have b0 : Has (w.alloc (.cells (sqA N V) 80)) (w.heap.size) 80 (sqA N V) := (Has.newAt (w := w) (e := 80) (cs := (sqA N V)) (k := w.heap.size) (by simp))
  have HNT := Lib.hid (newTable_any N (by omega) (w.alloc (.cells (sqA N V) 80)))
  have HGS := Lib.hid (fun k (hk : k < N) W (he : Ex (w.alloc (.cells (sqA N V) 80)) W) j (hj : j < N) => (by rw [(b0.ex he).cell, sqA_get hN hk hj] : W.cell? ⟨w.heap.size, k * 8 + j, none⟩ = some (.int .i64 (V k j))))
  have HE := Lib.hid e0
  have hsz : (w.alloc (.cells (sqA N V) 80)).heap.size = w.heap.size + 1 := by simp
  rw [hsz] at HNT
  obtain ⟨S, hS⟩ : ∃ S, sqA N V = S := ⟨_, rfl⟩
  rw [hS] at HNT HGS HE hsz ⊢
  clear b0 e0 hS
  go_enter Tryd.func65, Tryd.ntmps65
  go_wp2_with fail
  generalize w.alloc (.cells S 80) = W0 at *
  refine HNT.out.mono ?_
  rintro e W1 ⟨rfl, he1, hG, hR⟩
  obtain ⟨G, hGe⟩ : ∃ G, w.heap.size + 1 = G := ⟨_, rfl⟩
  rw [hGe] at hG hR ⊢
  have HGE := Lib.hid hGe
  have HG1 := Lib.hid hG
  have HR1 := Lib.hid hR
  have HE1 := Lib.hid he1
  clear hG hR hGe he1 HNT
  go_wp2_with fail
  go_loopw [12] (fun i wr => ∃ k : Nat, k ≤ N ∧ i = .int .i64 (k : Int) ∧ Hid (Ex W0 wr) ∧ Hid (Has wr (G + 1) 25 (rowsV G N)) ∧ Hid (Has wr G 2 (tab (N * N) fun p => .int .i64 (if p / N < k then V (p / N) (p % N) else 0)))) (fun i _ => N - (intOf i).toNat)
  case atStart => exact ⟨0, Nat.zero_le _, rfl, HE1, HR1, Lib.hid (by simpa using HG1.out)⟩
  case round =>
    clear HE1 HR1 HG1
    obtain ⟨k, hk, rfl, HE2, HR2, HG2⟩ := hrel
    by_cases hlt : k < N
    · have r1 : wr.cell? ⟨G + 1, k, none⟩ = some (.slice (some ⟨G, k * N, none⟩) N N) := by rw [HR2.out.cell, rowsV, tab_get hlt]
      obtain ⟨W2, hcp, HG3, HE3, HO3⟩ := copyRow (w0 := W0) (g := V k) HG2.out hlt hN HE2.out (by have := HGE.out; omega) (HGS.out k hlt wr HE2.out)
      have hk0 : (0 : Int) ≤ (k : Int) := by omega
      have hk8 : (k : Int) < 8 := by omega
      obtain ⟨o, ho⟩ : ∃ o, k * N = o := ⟨_, rfl⟩
      rw [ho] at hcp r1
      clear ho
      go_wp2_with fail
      go_roundw
      case rel =>
        refine ⟨k + 1, by omega, by go_num, HE3, Lib.hid (HO3.out _ _ _ (by omega) HR2.out), Lib.hid ?_⟩
        refine Eq.mp (congrArg (fun f => Has _ G 2 f) (tab_congr fun p hp => ?_)) HG3.out
        by_cases h1 : p / N = k
        · rw [if_pos h1, if_pos (by omega), h1]
        · rw [if_neg h1]
          by_cases h2 : p / N < k
          · rw [if_pos h2, if_pos (by omega)]
          · rw [if_neg h2, if_neg (by omega)]
      case measure => simp [intOf]; omega
    · obtain rfl : k = N := by omega
      go_wp2_with fail
      go_ret
      have hb : Has wr G 2 (tab (k * k) fun p => .int .i64 (V (p / k) (p % k))) := Eq.mp (congrArg (fun f => Has _ G 2 f) (tab_congr fun p hp => by rw [if_pos (Nat.div_lt_of_lt_mul hp)])) HG2.out
      exact ⟨some ⟨G + 1, 0, none⟩, k, rfl, HE.out.trans HE2.out, OwnT.of_block hb HR2.out (by have := HGE.out; omega) (by have := HGE.out; omega)⟩

set_option maxRecDepth 100000 in
set_option maxHeartbeats 4000000 in
theorem implFormOf_ex (t0 : List (List Int)) (m1 m2 : Int) (t2 : List Int) : ∀ (B0 : Option Addr) (d0 : Nat) (B2 : Option Addr) (d2 : Nat) (W : World), RwsW W B0 t0 → IntsW W B2 t2 → SmallT t0 → t2.length ≤ 1048576 →
    Calls Tryd.prog 22 #[.agg #[.slice B0 t0.length d0], .int .i64 m1, .agg #[.int .i64 m2, .slice B2 t2.length d2]] W fun e W' => ∃ (C0 : Option Addr) (e0 : Nat), e = .returned (.tuple #[.slice C0 (yFormOf0 t0 m1 m2 t2).length e0, .int .i64 (qFormOf1 t0 m1 m2 t2)]) ∧ Ex W W' ∧ OwnT W' W.heap.size W'.heap.size C0 (yFormOf0 t0 m1 m2 t2) := by
  intro B0 d0 B2 d2 w hR hF hs hf
  have e0 : Ex w ((w.alloc (.cells #[.slice B0 t0.length d0] 32)).alloc (.cells #[.int .i64 m2, .slice B2 t2.length d2] 34)) := ((Ex.refl w).alloc _).alloc _
  have b0 : Has ((w.alloc (.cells #[.slice B0 t0.length d0] 32)).alloc (.cells #[.int .i64 m2, .slice B2 t2.length d2] 34)) (w.heap.size) 32 #[.slice B0 t0.length d0] := ((Has.newAt (w := w) (e := 32) (cs := #[.slice B0 t0.length d0]) (k := w.heap.size) (by simp)).alloc _)
  have b1 : Has ((w.alloc (.cells #[.slice B0 t0.length d0] 32)).alloc (.cells #[.int .i64 m2, .slice B2 t2.length d2] 34)) (w.heap.size + 1) 34 #[.int .i64 m2, .slice B2 t2.length d2] := (Has.newAt (w := (w.alloc (.cells #[.slice B0 t0.length d0] 32))) (e := 34) (cs := #[.int .i64 m2, .slice B2 t2.length d2]) (k := w.heap.size + 1) (by simp))
  have HFS := Lib.hid (factorSetOf_any B0 B2 t0 m1 m2 t2 d0 d2 _ (hR.ex e0) (hF.ex e0) hs hf)
  have HE := Lib.hid e0
  have HB0 := Lib.hid b0
  have c0 := b0.cell 0
  have c1 := b1.cell 0
  have c1' := b1.cell 1
  clear b0 b1
  by_cases hz : c10 t0 m1 m2 t2 = 0
  · obtain ⟨M, rfl, rfl, h⟩ := c10_yes hz
    have hn8 := h.m.g.n8
    have HFO := Lib.hid (fun W (he : Ex w W) => fsForm_any B0 B2 t0 M t2 d0 d2 W (hR.ex he) (hF.ex he) h)
    have HRW := Lib.hid (fun W => rows_any t0.length (fF t0 M t2) W hn8)
    have HGO := Lib.hid (fun W => groupOrder_ex B0 t0.length d0 W (by omega))
    have HQ := Lib.hid (fo_yes hz)
    have HQL := Lib.hid (show (yFormOf0 t0 (M : Int) 2 t2).length = t0.length by rw [(fo_yes hz).1, mkT_len])
    rw [hz] at HFS
    obtain ⟨S, hS⟩ : ∃ S, sqA t0.length (fF t0 M t2) = S := ⟨_, rfl⟩
    rw [hS] at HFO HRW
    clear hR hF hs hf hz h e0 hS
    go_enter Tryd.func22, Tryd.ntmps22
    go_wp2_with fail
    generalize ((w.alloc (.cells #[.slice B0 t0.length d0] 32)).alloc (.cells #[.int .i64 2, .slice B2 t2.length d2] 34)) = W0 at *
    refine HFS.out.mono ?_
    rintro e W1 ⟨v, rfl, he1, hv, -⟩
    obtain rfl : v = _ := by first | exact hv rfl | exact hv trivial
    have ha := (Ex.refl W1).alloc (.cells #[.slice B0 t0.length d0, .int .i64 (M : Int), .int .i64 2, .slice B2 t2.length d2] 73)
    have HE1 := Lib.hid ((HE.out.trans he1).trans ha)
    have hbx := Has.new W1 73 #[.slice B0 t0.length d0, .int .i64 (M : Int), .int .i64 2, .slice B2 t2.length d2]
    have hbg := HB0.out.ex (he1.trans ha)
    clear he1 hv c0 c1 c1' ha
    go_wp2_with fail
    generalize W1.alloc (.cells #[.slice B0 t0.length d0, .int .i64 (M : Int), .int .i64 2, .slice B2 t2.length d2] 73) = W2 at *
    have HK := Lib.hid (fun (W' : World) (he : Ex W2 W') => And.intro ((hbx.ex he).cell 0) (And.intro ((hbx.ex he).cell 1) (And.intro ((hbx.ex he).cell 2) (And.intro ((hbx.ex he).cell 3) ((hbg.ex he).cell 0)))))
    have hC0 := HK.out _ (Ex.refl W2).drew
    clear hbx hbg
    refine Late.region (C := fun w' => w'.cell? ⟨W1.heap.size, 0, none⟩ = some (.slice B0 t0.length d0) ∧ w'.cell? ⟨W1.heap.size, 1, none⟩ = some (.int .i64 (M : Int)) ∧ w'.cell? ⟨W1.heap.size, 2, none⟩ = some (.int .i64 2) ∧ w'.cell? ⟨W1.heap.size, 3, none⟩ = some (.slice B2 t2.length d2) ∧ w'.cell? ⟨w.heap.size, 0, none⟩ = some (.slice B0 t0.length d0)) (fun j => decide (j < 5)) (by kernel_rfl) hC0 (fun hC => ?_)
    refine Late.take (i := 0) (oi := _) (v := ?_) rfl (by kernel_rfl) (by kernel_rfl) (by kernel_rfl) (by kernel_rfl) (fun _ _ _ h => h) (Or.inl ⟨by rfl, ?_⟩) hC ?_
    rotate_left
    · (intro w hSw; (try dsimp only at hSw); go_simp; first | done | with_reducible rfl)
    simp only [Act.put]
    refine Late.take (i := 2) (oi := _) (v := ?_) rfl (by kernel_rfl) (by kernel_rfl) (by kernel_rfl) (by kernel_rfl) (fun _ _ _ h => h) (Or.inl ⟨by rfl, ?_⟩) hC ?_
    rotate_left
    · (intro w hSw; (try dsimp only at hSw); go_simp; first | done | with_reducible rfl)
    simp only [Act.put]
    refine Late.one (i := 1) (o := _) (by kernel_rfl) rfl (fun K' hK' => ?_)
    try rw [if_pos (by rfl)]
    go_simp
    refine (HFO.out _ (HE1.out.trans (Ex.refl W2).drew)).mono ?_
    rintro e W3 ⟨rfl, he3⟩
    have HE3 := Lib.hid ((Ex.refl W2).drew.trans he3)
    have hC3 := HK.out _ HE3.out
    refine hK'.out _ _ (fun _ => hC3) (fun _ => ?_)
    clear hK' K' hC hC0 he3
    try simp only [Act.put, List.setIfInBounds_toArray, List.set_cons_zero, List.set_cons_succ]
    refine Late.one (i := 3) (o := _) (by kernel_rfl) rfl (fun K' hK' => ?_)
    try rw [if_pos (by rfl)]
    go_simp
    refine (HGO.out _).mono ?_
    rintro e W4 ⟨rfl, he4⟩
    have HE4 := Lib.hid (HE3.out.trans he4)
    have hC4 := HK.out _ HE4.out
    refine hK'.out _ _ (fun _ => hC4) (fun _ => ?_)
    clear hK' K' hC3 he4
    try simp only [Act.put, List.setIfInBounds_toArray, List.set_cons_zero, List.set_cons_succ]
    refine Late.one (i := 4) (o := _) (by kernel_rfl) rfl (fun K' hK' => ?_)
    try rw [if_pos (by rfl)]
    go_simp
    refine (HRW.out _).mono ?_
    rintro e W5 ⟨C5, n5, rfl, he5, ho5⟩
    have HE5 := Lib.hid (HE4.out.trans he5)
    have hC5 := HK.out _ HE5.out
    have HO5 := Lib.hid (ho5.mono (HE1.out.trans HE4.out).size (Nat.le_refl _) (Nat.le_refl _))
    refine hK'.out _ _ (fun _ => hC5) (fun _ => ?_)
    clear hK' K' hC4 he5 ho5
    try simp only [Act.put, List.setIfInBounds_toArray, List.set_cons_zero, List.set_cons_succ]
    refine Late.one (i := 5) (o := _) (by kernel_rfl) rfl (fun K' hK' => ?_)
    go_simp
    refine hK'.out _ _ (fun h => by cases h) (fun _ => ?_)
    clear hK' K'
    try simp only [Act.put, List.setIfInBounds_toArray, List.set_cons_zero, List.set_cons_succ]
    refine Late.one (i := 6) (o := _) (by kernel_rfl) rfl (fun K' hK' => ?_)
    go_simp
    refine hK'.out _ _ (fun h => by cases h) (fun _ => ?_)
    clear hK' K'
    try simp only [Act.put, List.setIfInBounds_toArray, List.set_cons_zero, List.set_cons_succ]
    refine Late.done (by kernel_rfl) ?_ _
    go_wp2_with fail
    go_ret2
    exact ⟨C5, n5, by rw [HQ.out.2, HQL.out]; rfl, HE1.out.trans HE5.out, by rw [HQ.out.1]; exact HO5.out⟩
  · have HQ := Lib.hid (fo_no hz)
    obtain ⟨C, hC⟩ : ∃ C, c10 t0 m1 m2 t2 = C := ⟨_, rfl⟩
    rw [hC] at HFS HQ hz
    have hne : (C != 0) = true := by simpa using hz
    have HZ := Lib.hid hz
    clear hR hF hs hf hz e0 hC
    go_enter Tryd.func22, Tryd.ntmps22
    go_wp2_with fail
    generalize ((w.alloc (.cells #[.slice B0 t0.length d0] 32)).alloc (.cells #[.int .i64 m2, .slice B2 t2.length d2] 34)) = W0 at *
    refine HFS.out.mono ?_
    rintro e W1 ⟨v, rfl, he1, -, hv⟩
    obtain rfl := hv HZ.out
    have HE1 := Lib.hid ((HE.out.trans he1).alloc (.cells #[.slice none 0 0, .int .i64 0, .int .i64 0, .slice none 0 0] 73))
    clear he1 hv c0 c1 c1'
    go_wp2_with fail
    go_ret2
    exact ⟨none, 0, by rw [HQ.out.1, HQ.out.2]; rfl, HE1.out, by rw [HQ.out.1]; exact OwnT.nil _ _ _ (Nat.le_refl _)⟩

end Go.Proofs.YtcdijeeabgmgmaaDoor
