/- The laws' helpers in one form: measure, copy, compare, mark, look for marks. -/
import Derived.Test.YtdehalkebneaoaaDoorEx
import Derived.Test.YtdehalkebneaoaaDoorCd
namespace Go.Proofs.YtdehalkebneaoaaDoor
open Go.RowKit

section
/-! lists of numbers -/
theorem toInt64S_ex (A : Option Addr) (xs : List Int) (c : Nat) (w : World) (hR : IntsW w A xs) (hn : xs.length ≤ 1048576) :
    Calls Tryd.prog 29 #[.slice A xs.length c] w fun e w' => ∃ A' n', e = .returned (.slice A' xs.length n') ∧ Ex w w' ∧ OwnL w' w.heap.size w'.heap.size A' xs :=
  (toInt64S_any A xs c w.heap.size w hR.ints (Nat.le_refl _) hn).mono fun _ _ ⟨h1, h2, _, h4⟩ => ⟨_, _, h1, h2, OwnL.of_has h4 rfl (Nat.le_refl _)⟩

theorem eqInt64S_ex (A A' : Option Addr) (xs : List Int) (c c' : Nat) (w : World) (hx : IntsW w A xs) (hy : IntsW w A' xs) (hn : xs.length ≤ 1048576) :
    Calls Tryd.prog 19 #[.slice A xs.length c, .slice A' xs.length c'] w fun e w' => e = .returned (.bool true) ∧ Ex w w' :=
  (eqInt64S_any A A' xs xs c c' _ _ w hx.ints hy.ints hn hn).mono fun _ _ ⟨h1, h2⟩ => ⟨by rw [h1]; simp, Ex.ofDrawn h2⟩

theorem markInt64S_ex (A : Option Addr) (xs : List Int) (c k lo hi : Nat) (w : World) (h : OwnL w lo hi A xs) (hn : xs.length ≤ 1048576) (hk : k ≤ 8796093022208) :
    Calls Tryd.prog 22 #[.slice A xs.length c, .int .i64 (k : Int)] w fun e w' => e = .returned (.int .i64 ((k + xs.length : Nat) : Int)) ∧ Only lo hi w w' ∧ MkL w' lo hi A xs.length k := by
  rcases Nat.eq_zero_or_pos xs.length with h0 | h0
  · refine (markInt64S_any A 0 0 xs.length c k w (fun hp => absurd hp (by omega)) (fun j hj => absurd hj (by omega)) hn hk).mono ?_
    rintro e w' ⟨rfl, hu, _⟩
    exact ⟨rfl, Only.of_upd hu fun b o hs => absurd hs.2.2 (by have := hs.2.1; omega), by rw [hu.size]; exact h.1, fun hp => absurd hp (by omega)⟩
  · obtain ⟨b, o, e, l, u, hc⟩ := h.2 h0
    refine (markInt64S_any A b o xs.length c k w (fun _ => e) (fun j hj => ⟨⟨_, (hc j hj).1⟩, (hc j hj).2⟩) hn hk).mono ?_
    rintro e' w' ⟨rfl, hu, hm⟩
    exact ⟨rfl, Only.of_upd hu fun b' o' hs => by have := hs.1; omega, by rw [hu.size]; exact h.1, fun _ => ⟨b, o, e, l, u, hm⟩⟩

theorem heldInt64S_ex (A : Option Addr) (n c k lo hi : Nat) (w : World) (h : MkL w lo hi A n k) (hn : n ≤ 1048576) (hk : k ≤ 8796093022208) :
    Calls Tryd.prog 23 #[.slice A n c, .int .i64 (k : Int)] w fun e w' => e = .returned (.int .i64 ((k + n : Nat) : Int)) ∧ Ex w w' := by
  rcases Nat.eq_zero_or_pos n with h0 | h0
  · exact (heldInt64S_any A 0 0 n c k w (fun hp => absurd hp (by omega)) (fun j hj => absurd hj (by omega)) hn hk).mono fun e w' ⟨h1, h2⟩ => ⟨h1, Ex.of_eq' h2⟩
  · obtain ⟨b, o, e, l, u, hm⟩ := h.2 h0
    exact (heldInt64S_any A b o n c k w (fun _ => e) hm hn hk).mono fun e w' ⟨h1, h2⟩ => ⟨h1, Ex.of_eq' h2⟩

/-! tables and groups -/
theorem eqInt64SS_ex (A A' : Option Addr) (t : List (List Int)) (c c' : Nat) (w : World) (hx : RwsW w A t) (hy : RwsW w A' t) (hs : SmallT t) :
    Calls Tryd.prog 68 #[.slice A t.length c, .slice A' t.length c'] w fun e w' => e = .returned (.bool true) ∧ Ex w w' :=
  (eqInt64SS_any A A' t t c c' _ _ w hx.rws hy.rws hs.1 hs.1 hs.2 hs.2).mono fun _ _ ⟨h1, h2⟩ => ⟨by rw [h1]; simp, Ex.ofDrawn h2⟩

theorem markInt64SS_ex (A : Option Addr) (t : List (List Int)) (c k lo hi : Nat) (w : World) (h : OwnT w lo hi A t) (hs : SmallT t) (hk : k ≤ 4398046511104) :
    Calls Tryd.prog 69 #[.slice A t.length c, .int .i64 (k : Int)] w fun e w' => e = .returned (.int .i64 ((k + cntT t : Nat) : Int)) ∧ Only lo hi w w' ∧ MkT w' lo hi A t k := by
  have hc := hs.cnt
  rcases Nat.eq_zero_or_pos t.length with h0 | h0
  · refine (markInt64SS_any A 0 0 t.length c k (fun _ => none) (fun _ => 0) (fun _ => 0) (fun i => (row t i).length) (fun _ => 0) w (fun hp => absurd hp (by omega))
      ⟨fun i hi => absurd hi (by omega), fun i hi => absurd hi (by omega), fun i hi => absurd hi (by omega), fun i hi => absurd hi (by omega), fun i hi => absurd hi (by omega)⟩ hs.1 hs.2 (by unfold cntT at hc; omega)).mono ?_
    rintro e w' ⟨rfl, hu, _⟩
    exact ⟨rfl, Only.of_upd hu fun b o ⟨i, hi, _⟩ => absurd hi (by omega), by rw [hu.size]; exact h.1, fun hp => absurd hp (by omega)⟩
  · obtain ⟨b, o, R, bb, oo, C, e, l, u, hR, hI, _⟩ := h.2 h0
    refine (markInt64SS_any A b o t.length c k R bb oo (fun i => (row t i).length) C w (fun _ => e) hR hs.1 hs.2 (by unfold cntT at hc; omega)).mono ?_
    rintro e' w' ⟨rfl, hu, hm⟩
    have hT : ∀ b' o', Segs bb oo (fun i => (row t i).length) t.length b' o' → lo ≤ b' ∧ b' < hi := fun b' o' ⟨i, hi, hg⟩ => by
      have h1 := hg.1
      have h2 := hI i hi (by have := hg.2.1; have := hg.2.2; dsimp only at this; omega)
      omega
    have hfr : ∀ i, i < t.length → ∀ o', ¬ Seg (bb i) (oo i) (row t i).length b o' := fun i hi o' hg => hR.off i hi (by have := hg.2.1; have := hg.2.2; omega) hg.1.symm
    refine ⟨rfl, Only.of_upd hu hT, by rw [hu.size]; exact h.1, fun _ => ⟨b, o, R, bb, oo, C, e, l, u, ?_, hI, hm⟩⟩
    exact ⟨fun i hi => (hu.cell _ _ (fun ⟨i', hi', hg⟩ => hfr i' hi' _ hg)).trans (hR.outer i hi), hR.addr, fun i hi j hj => ⟨⟨_, hm i hi j hj⟩, (hu.frozen _ _).trans (hR.wr i hi j hj).2⟩, hR.apart, hR.off⟩

theorem szGroup_ex (A : Option Addr) (t : List (List Int)) (c : Nat) (left : Int) (w : World) (hR : RwsW w A t) (hn : t.length ≤ maxLen) (hl : ∀ i, i < t.length → (row t i).length ≤ maxLen) (h0 : 0 ≤ left) (h1 : left ≤ 1048576) :
    Calls Tryd.prog 15 #[.agg #[.slice A t.length c], .int .i64 left] w fun e w' => (∃ r : Int, e = .returned (.int .i64 r) ∧ (r = -1 ∨ (0 ≤ r ∧ r ≤ left ∧ SmallT t))) ∧ Ex w w' := by
  refine (szGroup_any A t c left w hR.rws hn hl h0 h1).mono ?_
  rintro e w' ⟨⟨r, rfl, hr⟩, hw⟩
  refine ⟨⟨r, rfl, ?_⟩, by rw [← hw]; exact Ex.new _ _⟩
  rcases hr with hr | ⟨h2, h3, h4⟩
  · exact .inl hr
  · exact .inr ⟨h2, h3, SmallT.of_le h4 h1⟩

theorem toGroup_ex (A : Option Addr) (t : List (List Int)) (c : Nat) (w : World) (hR : RwsW w A t) (hs : SmallT t) :
    Calls Tryd.prog 17 #[.agg #[.slice A t.length c]] w fun e w' => ∃ A' n', e = .returned (.agg #[.slice A' t.length n']) ∧ Ex w w' ∧ OwnT w' w.heap.size w'.heap.size A' t := by
  refine (toGroup_any A t c w.heap.size w hR.rws (Nat.le_refl _) hs.1 hs.2).mono ?_
  rintro e w' ⟨G, rfl, h1, h2, h3, h4⟩
  exact ⟨_, _, rfl, h2, OwnT.of_fresh h4 h1 h3⟩

theorem eqGroup_ex (A A' : Option Addr) (t : List (List Int)) (c c' : Nat) (w : World) (hx : RwsW w A t) (hy : RwsW w A' t) (hs : SmallT t) :
    Calls Tryd.prog 20 #[.agg #[.slice A t.length c], .agg #[.slice A' t.length c']] w fun e w' => e = .returned (.bool true) ∧ Ex w w' :=
  (eqGroup_any A A' t t c c' _ _ w hx.rws hy.rws (Nat.le_refl _) (Nat.le_refl _) hs.1 hs.1 hs.2 hs.2).mono fun _ _ ⟨h1, h2⟩ => ⟨by rw [h1]; simp, h2⟩

set_option maxHeartbeats 400000 in
theorem markGroup_ex (A : Option Addr) (t : List (List Int)) (c k lo hi : Nat) (w : World) (h : OwnT w lo hi A t) (hs : SmallT t) (hk : k ≤ 4398046511104) (hlo : lo ≤ w.heap.size) :
    Calls Tryd.prog 21 #[.agg #[.slice A t.length c], .int .i64 (k : Int)] w fun e w' => e = .returned (.int .i64 ((k + cntT t : Nat) : Int)) ∧ Only lo hi w w' ∧ MkT w' lo hi A t k := by
  have hE := Ex.new w (.cells #[.slice A t.length c] 29)
  have HM := Lib.hid (markInt64SS_ex A t c k lo hi _ (h.ex hE) hs hk)
  have HO := Lib.hid (Only.of_ex (lo := lo) hE hlo hi)
  clear hE hlo
  go_enter Tryd.func21, Tryd.ntmps21
  go_wp2_with fail
  refine HM.out.mono ?_
  rintro e w2 ⟨rfl, ho, hm⟩
  obtain ⟨r, hr⟩ : ∃ r : Int, ((k + cntT t : Nat) : Int) = r := ⟨_, rfl⟩
  rw [hr]
  have HR := Lib.hid hr
  have HO2 := Lib.hid ho
  have HM2 := Lib.hid hm
  clear hr ho hm
  go_wp2
  go_ret
  exact ⟨by rw [HR.out]; rfl, HO.out.trans HO2.out (Nat.le_refl _) (Nat.le_refl _), HM2.out⟩

/-! Module -/
theorem szModule_ex (A : Option Addr) (m : Int) (xs : List Int) (c : Nat) (left : Int) (w : World) (hn : xs.length ≤ maxLen) (h0 : 0 ≤ left) (h1 : left ≤ 1048576) :
    Calls Tryd.prog 24 #[.agg #[.int .i64 m, .slice A xs.length c], .int .i64 left] w fun e w' => (∃ r : Int, e = .returned (.int .i64 r) ∧ (r = -1 ∨ (0 ≤ r ∧ r ≤ left ∧ xs.length ≤ 1048576))) ∧ Ex w w' := by
  refine (szModule_any A m xs.length c left w hn h0 h1).mono ?_
  rintro e w' ⟨⟨r, rfl, hr⟩, hw⟩
  refine ⟨⟨r, rfl, ?_⟩, by rw [hw]; exact Ex.new _ _⟩
  rcases hr with hr | ⟨h2, h3, h4⟩
  · exact .inl hr
  · exact .inr ⟨h2, h3, by omega⟩

theorem toModule_ex (A : Option Addr) (m : Int) (xs : List Int) (c : Nat) (w : World) (hR : IntsW w A xs) (hn : xs.length ≤ 1048576) :
    Calls Tryd.prog 27 #[.agg #[.int .i64 m, .slice A xs.length c]] w fun e w' => ∃ A' n', e = .returned (.agg #[.int .i64 m, .slice A' xs.length n']) ∧ Ex w w' ∧ OwnL w' w.heap.size w'.heap.size A' xs := by
  refine (toModule_any A m xs c w.heap.size w hR.ints (Nat.le_refl _) hn).mono ?_
  rintro e w' ⟨G, rfl, h1, h2, _, h4⟩
  exact ⟨_, _, rfl, h2, OwnL.of_has h4 rfl h1⟩

theorem eqModule_ex (A A' : Option Addr) (m : Int) (xs : List Int) (c c' : Nat) (w : World) (hx : IntsW w A xs) (hy : IntsW w A' xs) (hn : xs.length ≤ 1048576) :
    Calls Tryd.prog 31 #[.agg #[.int .i64 m, .slice A xs.length c], .agg #[.int .i64 m, .slice A' xs.length c']] w fun e w' => e = .returned (.bool true) ∧ Ex w w' :=
  (eqModule_any A A' m m xs xs c c' _ _ w hx.ints hy.ints (Nat.le_refl _) (Nat.le_refl _) hn hn).mono fun _ _ ⟨h1, h2⟩ => ⟨by rw [h1]; simp, h2⟩

set_option maxHeartbeats 400000 in
theorem markModule_ex (A : Option Addr) (m : Int) (xs : List Int) (c k lo hi : Nat) (w : World) (h : OwnL w lo hi A xs) (hn : xs.length ≤ 1048576) (hk : k ≤ 8796093022208) (hlo : lo ≤ w.heap.size) :
    Calls Tryd.prog 35 #[.agg #[.int .i64 m, .slice A xs.length c], .int .i64 (k : Int)] w fun e w' => e = .returned (.int .i64 ((k + xs.length : Nat) : Int)) ∧ Only lo hi w w' ∧ MkL w' lo hi A xs.length k := by
  have hE := Ex.new w (.cells #[.int .i64 m, .slice A xs.length c] 44)
  have HM := Lib.hid (markInt64S_ex A xs c k lo hi _ (h.ex hE) hn hk)
  have HO := Lib.hid (Only.of_ex (lo := lo) hE hlo hi)
  clear hE hlo
  go_enter Tryd.func35, Tryd.ntmps35
  go_wp2_with fail
  refine HM.out.mono ?_
  rintro e w2 ⟨rfl, ho, hm⟩
  obtain ⟨r, hr⟩ : ∃ r : Int, ((k + xs.length : Nat) : Int) = r := ⟨_, rfl⟩
  rw [hr]
  have HR := Lib.hid hr
  have HO2 := Lib.hid ho
  have HM2 := Lib.hid hm
  clear hr ho hm
  go_wp2
  go_ret
  exact ⟨by rw [HR.out]; rfl, HO.out.trans HO2.out (Nat.le_refl _) (Nat.le_refl _), HM2.out⟩

set_option maxHeartbeats 400000 in
theorem heldModule_ex (A : Option Addr) (m : Int) (n c k lo hi : Nat) (w : World) (h : MkL w lo hi A n k) (hn : n ≤ 1048576) (hk : k ≤ 8796093022208) :
    Calls Tryd.prog 44 #[.agg #[.int .i64 m, .slice A n c], .int .i64 (k : Int)] w fun e w' => e = .returned (.int .i64 ((k + n : Nat) : Int)) ∧ Ex w w' := by
  have hE := Ex.new w (.cells #[.int .i64 m, .slice A n c] 44)
  have HM := Lib.hid (heldInt64S_ex A n c k lo hi _ (h.ex hE) hn hk)
  have HE := Lib.hid hE
  clear hE
  obtain ⟨r, hr⟩ : ∃ r : Int, ((k + n : Nat) : Int) = r := ⟨_, rfl⟩
  have hneg : decide (r < 0) = false := by simp; omega
  rw [hr] at HM ⊢
  clear hr
  go_enter Tryd.func44, Tryd.ntmps44
  go_wp2_with fail
  refine HM.out.mono ?_
  rintro e w2 ⟨rfl, he⟩
  go_wp2
  go_ret
  exact ⟨rfl, HE.out.trans he⟩

/-! Cochain -/
theorem szCochain_ex (A : Option Addr) (m : Int) (xs : List Int) (c : Nat) (left : Int) (w : World) (hn : xs.length ≤ maxLen) (h0 : 0 ≤ left) (h1 : left ≤ 1048576) :
    Calls Tryd.prog 25 #[.agg #[.int .i64 m, .slice A xs.length c], .int .i64 left] w fun e w' => (∃ r : Int, e = .returned (.int .i64 r) ∧ (r = -1 ∨ (0 ≤ r ∧ r ≤ left ∧ xs.length ≤ 1048576))) ∧ Ex w w' := by
  refine (szCochain_any A m xs.length c left w hn h0 h1).mono ?_
  rintro e w' ⟨⟨r, rfl, hr⟩, hw⟩
  refine ⟨⟨r, rfl, ?_⟩, by rw [hw]; exact Ex.new _ _⟩
  rcases hr with hr | ⟨h2, h3, h4⟩
  · exact .inl hr
  · exact .inr ⟨h2, h3, by omega⟩

theorem toCochain_ex (A : Option Addr) (m : Int) (xs : List Int) (c : Nat) (w : World) (hR : IntsW w A xs) (hn : xs.length ≤ 1048576) :
    Calls Tryd.prog 28 #[.agg #[.int .i64 m, .slice A xs.length c]] w fun e w' => ∃ A' n', e = .returned (.agg #[.int .i64 m, .slice A' xs.length n']) ∧ Ex w w' ∧ OwnL w' w.heap.size w'.heap.size A' xs := by
  refine (toCochain_any A m xs c w.heap.size w hR.ints (Nat.le_refl _) hn).mono ?_
  rintro e w' ⟨G, rfl, h1, h2, _, h4⟩
  exact ⟨_, _, rfl, h2, OwnL.of_has h4 rfl h1⟩

theorem eqCochain_ex (A A' : Option Addr) (m : Int) (xs : List Int) (c c' : Nat) (w : World) (hx : IntsW w A xs) (hy : IntsW w A' xs) (hn : xs.length ≤ 1048576) :
    Calls Tryd.prog 32 #[.agg #[.int .i64 m, .slice A xs.length c], .agg #[.int .i64 m, .slice A' xs.length c']] w fun e w' => e = .returned (.bool true) ∧ Ex w w' :=
  (eqCochain_any A A' m m xs xs c c' _ _ w hx.ints hy.ints (Nat.le_refl _) (Nat.le_refl _) hn hn).mono fun _ _ ⟨h1, h2⟩ => ⟨by rw [h1]; simp, h2⟩

set_option maxHeartbeats 400000 in
theorem markCochain_ex (A : Option Addr) (m : Int) (xs : List Int) (c k lo hi : Nat) (w : World) (h : OwnL w lo hi A xs) (hn : xs.length ≤ 1048576) (hk : k ≤ 8796093022208) (hlo : lo ≤ w.heap.size) :
    Calls Tryd.prog 36 #[.agg #[.int .i64 m, .slice A xs.length c], .int .i64 (k : Int)] w fun e w' => e = .returned (.int .i64 ((k + xs.length : Nat) : Int)) ∧ Only lo hi w w' ∧ MkL w' lo hi A xs.length k := by
  have hE := Ex.new w (.cells #[.int .i64 m, .slice A xs.length c] 46)
  have HM := Lib.hid (markInt64S_ex A xs c k lo hi _ (h.ex hE) hn hk)
  have HO := Lib.hid (Only.of_ex (lo := lo) hE hlo hi)
  clear hE hlo
  go_enter Tryd.func36, Tryd.ntmps36
  go_wp2_with fail
  refine HM.out.mono ?_
  rintro e w2 ⟨rfl, ho, hm⟩
  obtain ⟨r, hr⟩ : ∃ r : Int, ((k + xs.length : Nat) : Int) = r := ⟨_, rfl⟩
  rw [hr]
  have HR := Lib.hid hr
  have HO2 := Lib.hid ho
  have HM2 := Lib.hid hm
  clear hr ho hm
  go_wp2
  go_ret
  exact ⟨by rw [HR.out]; rfl, HO.out.trans HO2.out (Nat.le_refl _) (Nat.le_refl _), HM2.out⟩

set_option maxHeartbeats 400000 in
theorem heldCochain_ex (A : Option Addr) (m : Int) (n c k lo hi : Nat) (w : World) (h : MkL w lo hi A n k) (hn : n ≤ 1048576) (hk : k ≤ 8796093022208) :
    Calls Tryd.prog 37 #[.agg #[.int .i64 m, .slice A n c], .int .i64 (k : Int)] w fun e w' => e = .returned (.int .i64 ((k + n : Nat) : Int)) ∧ Ex w w' := by
  have hE := Ex.new w (.cells #[.int .i64 m, .slice A n c] 46)
  have HM := Lib.hid (heldInt64S_ex A n c k lo hi _ (h.ex hE) hn hk)
  have HE := Lib.hid hE
  clear hE
  obtain ⟨r, hr⟩ : ∃ r : Int, ((k + n : Nat) : Int) = r := ⟨_, rfl⟩
  have hneg : decide (r < 0) = false := by simp; omega
  rw [hr] at HM ⊢
  clear hr
  go_enter Tryd.func37, Tryd.ntmps37
  go_wp2_with fail
  refine HM.out.mono ?_
  rintro e w2 ⟨rfl, he⟩
  go_wp2
  go_ret
  exact ⟨rfl, HE.out.trans he⟩
end

end Go.Proofs.YtdehalkebneaoaaDoor
