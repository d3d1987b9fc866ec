/- Ua Ub Ue in one text. -/
import Derived.Test.YtcdijeeabgmgmaaGreatDoorNks
import Derived.Test.YtcdijeeabgmgmaaGreatDoorVal
import Derived.Test.YtcdijeeabgmgmaaGreatDoorQot
import Derived.Test.YtcdijeeabgmgmaaGreatDoorTb
/- Chapter 7: the code of a group, a subgroup and elements, both sides. -/
namespace Go.Proofs.YtcdijeeabgmgmaaGreatDoor
open Go.RowKit Go.Shelf

attribute [local go_sem] Oper.semAt_some

/-- The code of a group, a subgroup of it, and elements. -/
noncomputable def sgC (t : List (List Int)) (xs es : List Int) : Int :=
  if grpB t = true then (if setB t.length xs = true ∧ belowB (t.length : Int) es = true then (if subB t (bitsK xs xs.length) = true then 0 else 5) else 2) else 1
section
variable {t : List (List Int)} {xs es : List Int}
theorem sgC_no (h : grpB t = false) : sgC t xs es = 1 := by simp [sgC, h]
theorem sgC_set (h : grpB t = true) (h2 : setB t.length xs = false) : sgC t xs es = 2 := by simp [sgC, h, h2]
theorem sgC_el (h : grpB t = true) (h2 : belowB (t.length : Int) es = false) : sgC t xs es = 2 := by simp [sgC, h, h2]
theorem sgC_st (h : grpB t = true) (h2 : setB t.length xs = true) (h3 : belowB (t.length : Int) es = true) (h4 : subB t (bitsK xs xs.length) = false) : sgC t xs es = 5 := by simp [sgC, h, h2, h3, h4]
theorem sgC_yes (h : grpB t = true) (h2 : setB t.length xs = true) (h3 : belowB (t.length : Int) es = true) (h4 : subB t (bitsK xs xs.length) = true) : sgC t xs es = 0 := by simp [sgC, h, h2, h3, h4]
theorem sgC_zero (h : sgC t xs es = 0) : IsGrp t ∧ setB t.length xs = true ∧ belowB (t.length : Int) es = true ∧ subB t (bitsK xs xs.length) = true := by
  unfold sgC at h
  split at h
  · rename_i h1
    split at h
    · rename_i h2
      split at h
      · rename_i h3
        exact ⟨grpB_iff.1 h1, h2.1, h2.2, h3⟩
      · cases h
    · cases h
  · cases h
theorem below_nil (m : Int) : belowB m [] = true := rfl
theorem sgC_nil : sgC t xs [] = if setC t xs = 0 then (if subB t (bitsK xs xs.length) = true then 0 else 5) else setC t xs := by
  unfold sgC setC
  cases grpB t <;> cases setB t.length xs <;> simp [below_nil]
end

set_option maxRecDepth 100000 in
set_option maxHeartbeats 2000000 in
theorem subgroupCode_any (A L E : Option Addr) (t : List (List Int)) (xs es : List Int) (c c' c'' : Nat) (w : World) (hR : RwsW w A t) (hX : IntsW w L xs) (hY : IntsW w E es) (hs : SmallT t) (hu : xs.length ≤ 1048576) (hv : es.length ≤ 1048576) (hT : TabL w) :
    Calls Tryz.prog 123 #[.agg #[.slice A t.length c], .slice L xs.length c', .slice E es.length c''] w fun e w' => e = .returned (.int .i64 (sgC t xs es)) ∧ Ex w w' := by
  have e0 : Ex w (w.alloc (.cells #[.slice A t.length c] 32)) := (Ex.refl w).alloc _
  have b0 : Has (w.alloc (.cells #[.slice A t.length c] 32)) (w.heap.size) 32 #[.slice A t.length c] := (Has.newAt (w := w) (e := 32) (cs := #[.slice A t.length c]) (k := w.heap.size) (by simp))
  have HC := Lib.hid (implIsGroup_ex A t c _ (hR.ex e0) hs)
  cases hg : grpB t with
  | false =>
    rw [hg] at HC
    have HQ := Lib.hid (sgC_no (xs := xs) (es := es) hg)
    clear hg hR hX hY hT
    go_enter Tryz.func123, Tryz.ntmps123
    go_wp2_with fail
    generalize (w.alloc (.cells #[.slice A t.length c] 32)) = W0 at *
    refine HC.out.mono ?_
    rintro e W1 ⟨rfl, he1⟩
    have HE1 := Lib.hid (e0.trans he1)
    clear b0 e0 he1
    go_wp2_with fail
    go_ret
    exact ⟨by rw [HQ.out]; rfl, HE1.out⟩
  | true =>
    rw [hg] at HC
    have hgr := grpB_iff.1 hg
    have hn8 := hgr.n8
    have HIE := Lib.hid (fun W (he : Ex (w.alloc (.cells #[.slice A t.length c] 32)) W) => isElementSet_any A L xs t.length c c' W (hX.ex (e0.trans he)) hn8 hu)
    cases hb : setB t.length xs with
    | false =>
      rw [hb] at HIE
      have HQ := Lib.hid (sgC_set (es := es) hg hb)
      clear hg hb hgr hR hX hY hT
      go_enter Tryz.func123, Tryz.ntmps123
      go_wp2_with fail
      generalize (w.alloc (.cells #[.slice A t.length c] 32)) = W0 at *
      refine HC.out.mono ?_
      rintro e W1 ⟨rfl, he1⟩
      have HE1 := Lib.hid (e0.trans he1)
      have c0 := (b0.ex he1).cell 0
      have HIE1 := Lib.hid (HIE.out W1 he1)
      clear b0 e0 he1 HIE
      go_wp2_with fail
      refine HIE1.out.mono ?_
      rintro e W2 ⟨rfl, he2⟩
      have HE2 := Lib.hid (HE1.out.trans he2)
      clear he2 c0
      go_wp2_with fail
      go_ret
      exact ⟨by rw [HQ.out]; rfl, HE2.out⟩
    | true =>
      rw [hb] at HIE
      have HEL := Lib.hid (fun W (he : Ex (w.alloc (.cells #[.slice A t.length c] 32)) W) => isElementList_e A E t.length c c'' es W (hY.ex (e0.trans he)) hn8 hv)
      cases hbl : belowB (t.length : Int) es with
      | false =>
        rw [hbl] at HEL
        have HQ := Lib.hid (sgC_el (xs := xs) hg hbl)
        clear hg hb hbl hgr hR hX hY hT
        go_enter Tryz.func123, Tryz.ntmps123
        go_wp2_with fail
        generalize (w.alloc (.cells #[.slice A t.length c] 32)) = W0 at *
        refine HC.out.mono ?_
        rintro e W1 ⟨rfl, he1⟩
        have HE01 := Lib.hid he1
        have HE1 := Lib.hid (e0.trans he1)
        have HB1 := Lib.hid (b0.ex he1)
        have c0 := HB1.out.cell 0
        have HIE1 := Lib.hid (HIE.out W1 he1)
        clear b0 e0 he1 HIE
        go_wp2_with fail
        refine HIE1.out.mono ?_
        rintro e W2 ⟨rfl, he2⟩
        have HE2 := Lib.hid (HE1.out.trans he2)
        have HEL2 := Lib.hid (HEL.out W2 (HE01.out.trans he2))
        have c2 := (HB1.out.ex he2).cell 0
        clear he2 c0 HEL
        go_wp2_with fail
        refine HEL2.out.mono ?_
        rintro e W3 ⟨rfl, he3⟩
        have HE3 := Lib.hid (HE2.out.trans he3)
        clear he3 c2
        go_wp2_with fail
        go_ret
        exact ⟨by rw [HQ.out]; rfl, HE3.out⟩
      | true =>
        rw [hbl] at HEL
        have hr := (setB_true.1 hb).1
        have hbk := bitsK_lt hr xs.length (Nat.le_refl _)
        have HBI := Lib.hid (fun W (he : Ex (w.alloc (.cells #[.slice A t.length c] 32)) W) => setOf_any L xs c' t.length W (hX.ex (e0.trans he)) hu hn8 hr)
        have HSU := Lib.hid (fun W (he : Ex (w.alloc (.cells #[.slice A t.length c] 32)) W) => isSubgroup_any A t c (bitsK xs xs.length) W (hR.ex (e0.trans he)) hgr hbk (hT.ex (e0.trans he)))
        have HQ : Hid (sgC t xs es = if subB t (bitsK xs xs.length) = true then 0 else 5) := Lib.hid (by simp [sgC, hg, hb, hbl])
        obtain ⟨u, hu1⟩ : ∃ u, bitsK xs xs.length = u := ⟨_, rfl⟩
        rw [hu1] at HBI HSU HQ
        obtain ⟨q, hq⟩ : ∃ q, subB t u = q := ⟨_, rfl⟩
        rw [hq] at HSU HQ
        clear hg hb hbl hgr hr hbk hu1 hq hR hX hY hT
        cases q <;>
        · go_enter Tryz.func123, Tryz.ntmps123
          go_wp2_with fail
          generalize (w.alloc (.cells #[.slice A t.length c] 32)) = W0 at *
          refine HC.out.mono ?_
          rintro e W1 ⟨rfl, he1⟩
          have HE01 := Lib.hid he1
          have HE1 := Lib.hid (e0.trans he1)
          have HB1 := Lib.hid (b0.ex he1)
          have c0 := HB1.out.cell 0
          have HIE1 := Lib.hid (HIE.out W1 he1)
          clear b0 e0 he1 HIE
          go_wp2_with fail
          refine HIE1.out.mono ?_
          rintro e W2 ⟨rfl, he2⟩
          have HE02 := Lib.hid (HE01.out.trans he2)
          have HE2 := Lib.hid (HE1.out.trans he2)
          have HEL2 := Lib.hid (HEL.out W2 HE02.out)
          have HB2 := Lib.hid (HB1.out.ex he2)
          have c2 := HB2.out.cell 0
          clear he2 c0 HEL HE01 HB1
          go_wp2_with fail
          refine HEL2.out.mono ?_
          rintro e W3 ⟨rfl, he3⟩
          have HE03 := Lib.hid (HE02.out.trans he3)
          have HE3 := Lib.hid (HE2.out.trans he3)
          have c3 := (HB2.out.ex he3).cell 0
          have HB3 := Lib.hid (HB2.out.ex he3)
          have HBI2 := Lib.hid (HBI.out W3.drew HE03.out.drew)
          have HSU2 := Lib.hid (HSU.out W3.drew HE03.out.drew)
          clear he3 c2 HBI HSU
          go_wp2_with fail
          refine Late.region (C := fun w' => w'.cell? ⟨w.heap.size, 0, none⟩ = some (.slice A t.length c)) (fun _ => true) (by kernel_rfl) c3 (fun hC => ?_)
          refine Late.take (i := 0) (oi := _) (v := ?_) rfl (by kernel_rfl) (by kernel_rfl) (by kernel_rfl) (by kernel_rfl) (fun _ _ _ h => h) (Or.inl ⟨by rfl, ?_⟩) hC ?_
          rotate_left
          · (intro w hSw; (try dsimp only at hSw); go_simp; first | done | with_reducible rfl)
          simp only [Act.put]
          refine Late.take (i := 1) (oi := _) (v := ?_) rfl (by kernel_rfl) (by kernel_rfl) (by kernel_rfl) (by kernel_rfl) (fun _ _ _ h => h) (Or.inl ⟨by rfl, ?_⟩) hC ?_
          rotate_left
          · (intro w hSw; (try dsimp only at hSw); go_simp; first | done | with_reducible rfl)
          simp only [Act.put]
          refine Late.one (i := 2) (o := _) (by kernel_rfl) rfl (fun K' hK' => ?_)
          go_simp
          refine HBI2.out.mono ?_
          rintro e w' ⟨rfl, rfl⟩
          refine hK'.out _ _ (fun _ => hC) (fun _ => ?_)
          clear hK' K' HBI2
          try simp only [Act.put, List.setIfInBounds_toArray, List.set_cons_zero, List.set_cons_succ]
          refine Late.one (i := 3) (o := _) (by kernel_rfl) rfl (fun K' hK' => ?_)
          go_simp
          refine HSU2.out.mono ?_
          rintro e W4 ⟨rfl, he4⟩
          have hC4 := (HB3.out.ex ((Ex.refl W3).drew.trans he4)).cell 0
          have HE4 := Lib.hid (HE3.out.drew.trans he4)
          refine hK'.out _ _ (fun _ => hC4) (fun _ => ?_)
          clear hK' K' he4 hC c3
          try simp only [Act.put, List.setIfInBounds_toArray, List.set_cons_zero, List.set_cons_succ]
          refine Late.take (i := 4) (oi := _) (v := ?_) rfl (by kernel_rfl) (by kernel_rfl) (by kernel_rfl) (by kernel_rfl) (fun _ _ _ h => h) (Or.inl ⟨by rfl, ?_⟩) hC4 ?_
          rotate_left
          · (intro w hSw; (try dsimp only at hSw); go_simp; first | done | with_reducible rfl)
          simp only [Act.put]
          refine Late.done (by kernel_rfl) ?_ _
          go_wp2_with fail
          go_ret
          exact ⟨by rw [HQ.out]; rfl, HE4.out⟩

set_option maxRecDepth 100000 in
set_option maxHeartbeats 2000000 in
theorem l07Code_any (A L : Option Addr) (t : List (List Int)) (xs : List Int) (c c' : Nat) (w : World) (hR : RwsW w A t) (hX : IntsW w L xs) (hs : SmallT t) (hu : xs.length ≤ 1048576) :
    Calls Tryz.prog 83 #[.agg #[.slice A t.length c], .slice L xs.length c'] w fun e w' => e = .returned (.int .i64 (sgC t xs [])) ∧ Ex w w' := by
  have e0 : Ex w (w.alloc (.cells #[.slice A t.length c] 32)) := (Ex.refl w).alloc _
  have b0 : Has (w.alloc (.cells #[.slice A t.length c] 32)) (w.heap.size) 32 #[.slice A t.length c] := (Has.newAt (w := w) (e := 32) (cs := #[.slice A t.length c]) (k := w.heap.size) (by simp))
  have HC := Lib.hid (l01Set_any A L t xs c c' _ (hR.ex e0) (hX.ex e0) hs hu)
  by_cases hc : setC t xs = 0
  · obtain ⟨hg, hb⟩ : grpB t = true ∧ setB t.length xs = true := by
      rcases setC_cases t xs with ⟨_, h⟩ | ⟨_, _, h⟩ | h
      · rw [h] at hc; cases hc
      · rw [h] at hc; cases hc
      · exact ⟨h.1, h.2.1⟩
    rw [hc] at HC
    have hgr := grpB_iff.1 hg
    have HSU := Lib.hid (fun W (he : Ex (w.alloc (.cells #[.slice A t.length c] 32)) W) => l01Subgroup_any A L t xs c c' W (hR.ex (e0.trans he)) (hX.ex (e0.trans he)) hgr hu hb)
    have HQ : Hid (sgC t xs [] = if subB t (bitsK xs xs.length) = true then 0 else 5) := Lib.hid (by rw [sgC_nil, if_pos hc])
    obtain ⟨q, hq⟩ : ∃ q, subB t (bitsK xs xs.length) = q := ⟨_, rfl⟩
    rw [hq] at HSU HQ
    clear hc hg hb hgr hR hX hs hu hq
    cases q <;>
    · go_enter Tryz.func83, Tryz.ntmps83
      go_wp2_with fail
      generalize (w.alloc (.cells #[.slice A t.length c] 32)) = W0 at *
      refine HC.out.mono ?_
      rintro e W1 ⟨rfl, he1⟩
      have HE1 := Lib.hid (e0.trans he1)
      have c0 := (b0.ex he1).cell 0
      have HSU1 := Lib.hid (HSU.out W1 he1)
      clear b0 e0 he1 HSU
      go_wp2_with fail
      refine HSU1.out.mono ?_
      rintro e W2 ⟨rfl, he2⟩
      have HE2 := Lib.hid (HE1.out.trans he2)
      clear he2
      go_wp2_with fail
      go_ret
      exact ⟨by rw [HQ.out]; rfl, HE2.out⟩
  · have HQ : Hid (sgC t xs [] = setC t xs) := Lib.hid (by rw [sgC_nil, if_neg hc])
    obtain ⟨z, hz⟩ : ∃ z, setC t xs = z := ⟨_, rfl⟩
    rw [hz] at HC hc HQ
    have hzb : (z != 0) = true := by simpa using hc
    clear hR hX hs hu hc hz
    go_enter Tryz.func83, Tryz.ntmps83
    go_wp2_with fail
    generalize (w.alloc (.cells #[.slice A t.length c] 32)) = W0 at *
    refine HC.out.mono ?_
    rintro e W1 ⟨rfl, he1⟩
    have HE1 := Lib.hid (e0.trans he1)
    clear b0 e0 he1
    go_wp2_with fail
    go_ret
    exact ⟨by rw [HQ.out]; rfl, HE1.out⟩

end Go.Proofs.YtcdijeeabgmgmaaGreatDoor

/- Chapter 7: subgroups as lists of numbers; what the search for cosets finds; as many cosets as the index. No program here. -/
namespace Go.Proofs.YtcdijeeabgmgmaaGreatDoor
open Go.RowKit

/-- The elements of a subgroup, as numbers. -/
structure SubL (t : List (List Int)) (els : List Nat) : Prop where
  lt : ∀ b ∈ els, b < t.length
  nd : els.Nodup
  z : 0 ∈ els
  mul : ∀ a ∈ els, ∀ b ∈ els, mul t a b ∈ els
theorem bit_or2 (m z x : Nat) : (m ||| 2 ^ z).testBit x = true ↔ m.testBit x = true ∨ x = z := by
  rw [Nat.testBit_or, Nat.testBit_two_pow, Bool.or_eq_true, decide_eq_true_eq]
  exact or_congr Iff.rfl eq_comm
theorem rowS_bit (t : List (List Int)) (a x : Nat) : ∀ (bs : List Nat) (m : Nat), (rowS t a m bs).testBit x = true ↔ m.testBit x = true ∨ ∃ b ∈ bs, x = mul t a b
  | [], m => by simp [rowS]
  | b :: bs, m => by
    show (rowS t a (m ||| 2 ^ mul t a b) bs).testBit x = true ↔ _
    rw [rowS_bit t a x bs, bit_or2]
    simp only [List.mem_cons, exists_eq_or_imp, or_assoc]
theorem tabS_bit (t : List (List Int)) (l : List Nat) (x : Nat) : ∀ (ys : List Nat) (m : Nat), (tabS t l m ys).testBit x = true ↔ m.testBit x = true ∨ ∃ a ∈ ys, ∃ b ∈ l, x = mul t a b
  | [], m => by simp [tabS]
  | a :: ys, m => by
    show (tabS t l (rowS t a m l) ys).testBit x = true ↔ _
    rw [tabS_bit t l x ys, rowS_bit]
    simp only [List.mem_cons, exists_eq_or_imp, or_assoc]
theorem mem_elN8 {s x : Nat} : x ∈ elN s ↔ x < 8 ∧ s.testBit x = true := by simp [elN]
theorem subL_bits {t : List (List Int)} {s : Nat} (hg : IsGrp t) (hs : s < 2 ^ t.length) (h : subB t s = true) : SubL t (elN s) := by
  unfold subB at h
  simp only [Bool.and_eq_true, beq_iff_eq] at h
  have hlt : ∀ b ∈ elN s, b < t.length := fun b hb => el_lt hs hb
  refine ⟨hlt, ?_, mem_elN8.2 ⟨by omega, h.1⟩, fun a ha b hb => ?_⟩
  · exact List.Pairwise.filter _ List.nodup_range
  · have h1 := (tabS_bit t (elN s) (mul t a b) (elN s) s).2 (.inr ⟨a, ha, b, hb, rfl⟩)
    rw [show tabS t (elN s) s (elN s) = s from h.2] at h1
    have := hg.mul_lt (hlt a ha) (hlt b hb)
    have := hg.n8
    exact mem_elN8.2 ⟨by omega, h1⟩
theorem subL_of {t : List (List Int)} {xs : List Int} (hg : IsGrp t) (hb : setB t.length xs = true) (h : subB t (bitsK xs xs.length) = true) : SubL t (elsL xs) := by
  rw [← els_bits hg.n8 hb]
  exact subL_bits hg (bitsK_lt (setB_true.1 hb).1 _ (Nat.le_refl _)) h

section
variable {t : List (List Int)} {els : List Nat} (hg : IsGrp t) (h : SubL t els)
include hg h
theorem SubL.map_nd {a : Nat} (ha : a < t.length) : (els.map (Go.Proofs.YtcdijeeabgmgmaaGreatDoor.mul t a)).Nodup :=
  List.pairwise_map.2 (h.nd.imp_of_mem fun {x y} hx hy hxy e => hxy (hg.left_cancel ha (h.lt x hx) (h.lt y hy) e))
theorem SubL.inv {b : Nat} (hb : b ∈ els) : ∃ x ∈ els, Go.Proofs.YtcdijeeabgmgmaaGreatDoor.mul t b x = 0 := by
  by_cases hn : ∃ x ∈ els, Go.Proofs.YtcdijeeabgmgmaaGreatDoor.mul t b x = 0
  · exact hn
  · exfalso
    have h1 : els.map (Go.Proofs.YtcdijeeabgmgmaaGreatDoor.mul t b) ⊆ els.erase 0 := fun y hy => by
      obtain ⟨x, hx, rfl⟩ := List.mem_map.1 hy
      exact (List.mem_erase_of_ne fun e => hn ⟨x, hx, e⟩).2 (h.mul b hb x hx)
    have h2 := List.Nodup.length_le_of_subset (h.map_nd hg (h.lt b hb)) h1
    rw [List.length_map, List.length_erase_of_mem h.z] at h2
    have := List.length_pos_of_mem h.z
    omega
/-- Two cosets that meet begin one in the other. -/
theorem SubL.meet {a a' b b' : Nat} (ha : a < t.length) (ha' : a' < t.length) (hb : b ∈ els) (hb' : b' ∈ els) (e : Go.Proofs.YtcdijeeabgmgmaaGreatDoor.mul t a b = Go.Proofs.YtcdijeeabgmgmaaGreatDoor.mul t a' b') : ∃ c ∈ els, a = Go.Proofs.YtcdijeeabgmgmaaGreatDoor.mul t a' c := by
  obtain ⟨x, hx, h0⟩ := h.inv hg hb
  refine ⟨Go.Proofs.YtcdijeeabgmgmaaGreatDoor.mul t b' x, h.mul b' hb' x hx, ?_⟩
  rw [← hg.mul_assoc ha' (h.lt b' hb') (h.lt x hx), ← e, hg.mul_assoc ha (h.lt b hb) (h.lt x hx), h0, hg.mul_zero ha]
end

theorem cosRow_bit (t : List (List Int)) (a k x : Nat) : ∀ (els : List Nat) (c : Nat × (Nat → Nat)), (els.foldl (cosIn t a k) c).1.testBit x = true ↔ c.1.testBit x = true ∨ ∃ b ∈ els, x = mul t a b
  | [], c => by simp
  | b :: els, c => by
    rw [List.foldl_cons, cosRow_bit t a k x els, cosIn, bit_or2]
    simp only [List.mem_cons, exists_eq_or_imp, or_assoc]
theorem cosRow_at (t : List (List Int)) (a k x : Nat) : ∀ (els : List Nat) (c : Nat × (Nat → Nat)), (els.foldl (cosIn t a k) c).2 x = k ∨ ((∀ b ∈ els, x ≠ mul t a b) ∧ (els.foldl (cosIn t a k) c).2 x = c.2 x)
  | [], c => .inr ⟨by simp, rfl⟩
  | b :: els, c => by
    rw [List.foldl_cons]
    rcases cosRow_at t a k x els (cosIn t a k c b) with h | ⟨h1, h2⟩
    · exact .inl h
    · by_cases he : x = mul t a b
      · exact .inl (by rw [h2, cosIn]; exact if_pos he)
      · exact .inr ⟨fun y hy => (List.mem_cons.1 hy).elim (fun e => e ▸ he) (h1 y), by rw [h2, cosIn]; exact if_neg he⟩

/-- All elements of the cosets of some elements. -/
def cosL (t : List (List Int)) (els fst : List Nat) : List Nat := fst.flatMap fun a => els.map (mul t a)
theorem cosL_snoc (t : List (List Int)) (els fst : List Nat) (a : Nat) : cosL t els (fst ++ [a]) = cosL t els fst ++ els.map (mul t a) := by simp [cosL]
theorem mem_cosL {t : List (List Int)} {els fst : List Nat} {x : Nat} : x ∈ cosL t els fst ↔ ∃ a ∈ fst, ∃ b ∈ els, mul t a b = x := by simp [cosL]
theorem cosL_len (t : List (List Int)) (els : List Nat) : ∀ fst : List Nat, (cosL t els fst).length = fst.length * els.length
  | [] => by simp [cosL]
  | a :: fst => by
    have ih := cosL_len t els fst
    unfold cosL at ih ⊢
    rw [List.flatMap_cons, List.length_append, ih, List.length_map, List.length_cons, Nat.add_mul, Nat.one_mul, Nat.add_comm]

/-- What is known of the search behind k elements. -/
structure CosI (t : List (List Int)) (els : List Nat) (k : Nat) (S : Cos) : Prop where
  met : ∀ x, S.met.testBit x = true ↔ x ∈ cosL t els S.fst
  nd : (cosL t els S.fst).Nodup
  all : ∀ x, x < k → x ∈ cosL t els S.fst
  lt : ∀ a ∈ S.fst, a < t.length
  num : ∀ x, S.met.testBit x = true → S.num x < S.fst.length ∧ ∃ b ∈ els, x = mul t (fstA S (S.num x)) b
theorem cosK_inv {t : List (List Int)} {els : List Nat} (hg : IsGrp t) (h : SubL t els) : ∀ k, k ≤ t.length → CosI t els k (cosK t els k)
  | 0, _ => ⟨fun x => by simp [cosK, cosL], by simp [cosK, cosL], fun x hx => absurd hx (by omega), fun a ha => by simp [cosK] at ha, fun x hx => by simp [cosK] at hx⟩
  | k + 1, hk => by
    have ih := cosK_inv hg h k (by omega)
    show CosI t els (k + 1) (cosStep t els (cosK t els k) k)
    obtain ⟨S, hS⟩ : ∃ S, cosK t els k = S := ⟨_, rfl⟩
    rw [hS] at ih ⊢
    clear hS
    cases hm : S.met.testBit k with
    | true =>
      rw [cosStep_old hm]
      refine ⟨ih.met, ih.nd, fun x hx => ?_, ih.lt, ih.num⟩
      rcases Nat.lt_or_ge x k with hx' | hx'
      · exact ih.all x hx'
      · obtain rfl : x = k := by omega
        exact (ih.met x).1 hm
    | false =>
      rw [cosStep_new hm]
      have hkN : k < t.length := by omega
      have hbit : ∀ x, (cosRow t k S els).1.testBit x = true ↔ S.met.testBit x = true ∨ ∃ b ∈ els, x = mul t k b := fun x => cosRow_bit t k _ x els _
      have hoff : ∀ x, S.met.testBit x = true → ∀ b ∈ els, x ≠ mul t k b := fun x hx b hb e => by
        obtain ⟨a, ha, b', hb', e'⟩ := mem_cosL.1 ((ih.met x).1 hx)
        obtain ⟨c, hc, ec⟩ := h.meet hg hkN (ih.lt a ha) hb hb' (e.symm.trans e'.symm)
        have := (ih.met k).2 (mem_cosL.2 ⟨a, ha, c, hc, ec.symm⟩)
        rw [hm] at this
        cases this
      refine ⟨fun x => ?_, ?_, fun x hx => ?_, fun a ha => ?_, fun x hx => ?_⟩
      · show (cosRow t k S els).1.testBit x = true ↔ x ∈ cosL t els (S.fst ++ [k])
        rw [hbit, cosL_snoc, List.mem_append, ih.met, List.mem_map]
        exact or_congr Iff.rfl ⟨fun ⟨b, hb, e⟩ => ⟨b, hb, e.symm⟩, fun ⟨b, hb, e⟩ => ⟨b, hb, e.symm⟩⟩
      · show (cosL t els (S.fst ++ [k])).Nodup
        rw [cosL_snoc]
        refine List.pairwise_append.2 ⟨ih.nd, h.map_nd hg hkN, fun x hx y hy e => ?_⟩
        obtain ⟨b, hb, rfl⟩ := List.mem_map.1 hy
        exact hoff x ((ih.met x).2 hx) b hb e
      · show x ∈ cosL t els (S.fst ++ [k])
        rw [cosL_snoc, List.mem_append]
        rcases Nat.lt_or_ge x k with hx' | hx'
        · exact .inl (ih.all x hx')
        · obtain rfl : x = k := by omega
          exact .inr (List.mem_map.2 ⟨0, h.z, hg.mul_zero hkN⟩)
      · rcases List.mem_append.1 ha with ha | ha
        · exact ih.lt a ha
        · obtain rfl : a = k := by simpa using ha
          exact hkN
      · have hx' : S.met.testBit x = true ∨ ∃ b ∈ els, x = mul t k b := (hbit x).1 hx
        show (cosRow t k S els).2 x < (S.fst ++ [k]).length ∧ ∃ b ∈ els, x = mul t ((S.fst ++ [k])[(cosRow t k S els).2 x]?.getD 0) b
        rcases cosRow_at t k S.fst.length x els (S.met, S.num) with hr | ⟨h1, h2⟩
        · have hr' : (cosRow t k S els).2 x = S.fst.length := hr
          rw [hr']
          refine ⟨by simp, ?_⟩
          rw [List.getElem?_append_right (Nat.le_refl _), Nat.sub_self]
          show ∃ b ∈ els, x = mul t k b
          rcases hx' with hx' | hx'
          · exfalso
            by_cases hq : ∃ b ∈ els, x = mul t k b
            · obtain ⟨b, hb, e⟩ := hq
              exact hoff x hx' b hb e
            · have hne : ∀ b ∈ els, x ≠ mul t k b := fun b hb e => hq ⟨b, hb, e⟩
              have hk' : ∀ (els : List Nat) (c : Nat × (Nat → Nat)), (∀ b ∈ els, x ≠ mul t k b) → (els.foldl (cosIn t k S.fst.length) c).2 x = c.2 x := by
                intro els
                induction els with
                | nil => exact fun _ _ => rfl
                | cons b els ih2 =>
                  intro c hc
                  rw [List.foldl_cons, ih2 _ fun y hy => hc y (List.mem_cons_of_mem _ hy), cosIn]
                  exact if_neg (hc b (List.mem_cons_self ..))
              have h3 := hk' els (S.met, S.num) hne
              rw [hr] at h3
              have h4 := (ih.num x hx').1
              have h5 : S.num x = S.fst.length := h3.symm
              omega
          · exact hx'
        · have hr' : (cosRow t k S els).2 x = S.num x := h2
          rw [hr']
          have hx2 : S.met.testBit x = true := hx'.elim id fun ⟨b, hb, e⟩ => absurd e (h1 b hb)
          obtain ⟨h3, b, hb, e⟩ := ih.num x hx2
          refine ⟨by simp; omega, b, hb, ?_⟩
          rw [List.getElem?_append_left h3]
          exact e

section
variable {t : List (List Int)} {els : List Nat} (hg : IsGrp t) (h : SubL t els)
include hg h
theorem cosets_count : (cosK t els t.length).fst.length * els.length = t.length := by
  have hi := cosK_inv hg h t.length (Nat.le_refl _)
  rw [← cosL_len t els]
  refine Nat.le_antisymm ?_ ?_
  · have h1 := List.Nodup.length_le_of_subset hi.nd (l₂ := List.range t.length) fun x hx => by
      obtain ⟨a, ha, b, hb, rfl⟩ := mem_cosL.1 hx
      exact List.mem_range.2 (hg.mul_lt (hi.lt a ha) (h.lt b hb))
    simpa using h1
  · have h1 := List.Nodup.length_le_of_subset (List.nodup_range (n := t.length)) (l₂ := cosL t els (cosK t els t.length).fst) fun x hx => hi.all x (List.mem_range.1 hx)
    simpa using h1
/-- Each element lies in the coset with its number. -/
theorem coset_at {x : Nat} (hx : x < t.length) : (cosK t els t.length).num x < (cosK t els t.length).fst.length ∧ fstA (cosK t els t.length) ((cosK t els t.length).num x) < t.length ∧ mul t (iv t (fstA (cosK t els t.length) ((cosK t els t.length).num x))) x ∈ els := by
  have hi := cosK_inv hg h t.length (Nat.le_refl _)
  obtain ⟨h1, b, hb, e⟩ := hi.num x ((hi.met x).2 (hi.all x hx))
  obtain ⟨S, hS⟩ : ∃ S, cosK t els t.length = S := ⟨_, rfl⟩
  rw [hS] at hi h1 e ⊢
  have hu := hi.lt _ (fstA_mem h1)
  refine ⟨h1, hu, ?_⟩
  obtain ⟨u, hue⟩ : ∃ u, fstA S (S.num x) = u := ⟨_, rfl⟩
  rw [hue] at e hu ⊢
  have hiv := iv_spec hg hu
  obtain ⟨y, hy, h2, h3⟩ := hg.inv_ex hu
  have : y = iv t u := iv_only hg hu hy h2
  subst this
  rw [e, ← hg.mul_assoc hy hu (h.lt b hb), h3, hg.zero_mul (h.lt b hb)]
  exact hb
end

end Go.Proofs.YtcdijeeabgmgmaaGreatDoor

/- Chapter 7: the group of a subgroup, as a table. No program here. -/
namespace Go.Proofs.YtcdijeeabgmgmaaGreatDoor
open Go.RowKit

theorem asc_lt {xs : List Int} (h : ascP xs xs.length) {i : Nat} : ∀ {j : Nat}, i < j → j < xs.length → nth xs i < nth xs j
  | 0, h1, _ => absurd h1 (by omega)
  | j + 1, h1, h2 => by
    have h3 := h (j + 1) (by omega) h2
    rw [Nat.add_sub_cancel] at h3
    rcases Nat.lt_or_ge i j with h4 | h4
    · have := asc_lt h h4 (by omega)
      omega
    · obtain rfl : i = j := by omega
      exact h3
/-- The number i of a list, as an element; the place of an element. -/
def xN (xs : List Int) (i : Nat) : Nat := (nth xs i).toNat
open Classical in
noncomputable def plN (xs : List Int) (z : Nat) : Nat := if h : ∃ i, i < xs.length ∧ nth xs i = (z : Int) then Classical.choose h else 0
/-- The product of two numbers in the group of a subgroup; its table. -/
noncomputable def grV (t : List (List Int)) (xs : List Int) (i j : Nat) : Nat := plN xs (mul t (xN xs i) (xN xs j))
noncomputable def grT (t : List (List Int)) (xs : List Int) : List (List Int) := mkT xs.length xs.length fun i j => (grV t xs i j : Int)
theorem grT_len (t : List (List Int)) (xs : List Int) : (grT t xs).length = xs.length := mkT_len ..

theorem xN_mem {xs : List Int} {i : Nat} (hi : i < xs.length) : xN xs i ∈ elsL xs := List.mem_map.2 ⟨xs[i], List.getElem_mem hi, by unfold xN; rw [show nth xs i = xs[i] by simp [nth, hi]]⟩
theorem grT_ent {t : List (List Int)} {xs : List Int} {i j : Nat} (hi : i < xs.length) (hj : j < xs.length) : ent (grT t xs) i j = (grV t xs i j : Int) := mkT_ent hi hj
theorem grT_mul {t : List (List Int)} {xs : List Int} {i j : Nat} (hi : i < xs.length) (hj : j < xs.length) : mul (grT t xs) i j = grV t xs i j := by
  have := grT_ent (t := t) hi hj
  unfold ent at this
  unfold mul
  rw [this, Int.toNat_natCast]
/-- An ascending list that is a subgroup. -/
structure SubX (t : List (List Int)) (xs : List Int) : Prop where
  g : IsGrp t
  b : setB t.length xs = true
  s : SubL t (elsL xs)
theorem subX_of {t : List (List Int)} {xs : List Int} (hg : IsGrp t) (hb : setB t.length xs = true) (h : subB t (bitsK xs xs.length) = true) : SubX t xs := ⟨hg, hb, subL_of hg hb h⟩
theorem subX_code {t : List (List Int)} {xs es : List Int} (h : sgC t xs es = 0) : SubX t xs := let ⟨h1, h2, _, h4⟩ := sgC_zero h; subX_of h1 h2 h4

section
variable {t : List (List Int)} {xs : List Int} (h : SubX t xs)
include h
theorem SubX.rng {i : Nat} (hi : i < xs.length) : 0 ≤ nth xs i ∧ nth xs i < t.length := (setB_true.1 h.b).1 i hi
theorem SubX.nat {i : Nat} (hi : i < xs.length) : nth xs i = (xN xs i : Int) ∧ xN xs i < t.length := by
  have := h.rng hi
  unfold xN
  omega
theorem SubX.ex {z : Nat} (hz : z ∈ elsL xs) : ∃ i, i < xs.length ∧ nth xs i = (z : Int) := by
  obtain ⟨y, hy, rfl⟩ := List.mem_map.1 hz
  obtain ⟨i, hi, rfl⟩ := List.getElem_of_mem hy
  have h1 := h.rng hi
  have h2 : nth xs i = xs[i] := by simp [nth, hi]
  rw [h2] at h1
  exact ⟨i, hi, by rw [h2]; omega⟩
theorem SubX.pl {z : Nat} (hz : z ∈ elsL xs) : plN xs z < xs.length ∧ nth xs (plN xs z) = (z : Int) := by
  have he := h.ex hz
  unfold plN
  rw [dif_pos he]
  exact Classical.choose_spec he
theorem SubX.inj {i j : Nat} (hi : i < xs.length) (hj : j < xs.length) (e : nth xs i = nth xs j) : i = j := by
  have ha := (setB_true.1 h.b).2
  rcases Nat.lt_trichotomy i j with h1 | h1 | h1
  · have := asc_lt ha h1 hj
    omega
  · exact h1
  · have := asc_lt ha h1 hi
    omega
theorem SubX.x_pl {z : Nat} (hz : z ∈ elsL xs) : xN xs (plN xs z) = z := by
  unfold xN
  rw [(h.pl hz).2, Int.toNat_natCast]
theorem SubX.pl_x {i : Nat} (hi : i < xs.length) : plN xs (xN xs i) = i := by
  have h1 := h.pl (xN_mem hi)
  exact h.inj h1.1 hi (by rw [h1.2, ← (h.nat hi).1])
theorem SubX.before {z j : Nat} (hz : z ∈ elsL xs) (hj : j < plN xs z) : nth xs j ≠ (z : Int) := fun e => by
  have h1 := h.pl hz
  have := h.inj (by omega) h1.1 (e.trans h1.2.symm)
  omega
theorem SubX.pos : 0 < xs.length := by
  have := List.length_pos_of_mem h.s.z
  rwa [elsL_len] at this
theorem SubX.len : xs.length ≤ t.length := by
  have := List.Nodup.length_le_of_subset h.s.nd (l₂ := List.range t.length) fun x hx => List.mem_range.2 (h.s.lt x hx)
  rw [elsL_len] at this
  simpa using this
theorem SubX.len8 : xs.length ≤ 8 := Nat.le_trans h.len h.g.n8
theorem SubX.first : xN xs 0 = 0 := by
  have h1 := h.pl h.s.z
  rcases Nat.eq_zero_or_pos (plN xs 0) with h2 | h2
  · have := h.x_pl h.s.z
    rwa [h2] at this
  · have := asc_lt (setB_true.1 h.b).2 h2 h1.1
    have := (h.rng h.pos).1
    have := h1.2
    omega
theorem SubX.gr_mem {i j : Nat} (hi : i < xs.length) (hj : j < xs.length) : mul t (xN xs i) (xN xs j) ∈ elsL xs := h.s.mul _ (xN_mem hi) _ (xN_mem hj)
theorem SubX.gr_lt {i j : Nat} (hi : i < xs.length) (hj : j < xs.length) : grV t xs i j < xs.length := (h.pl (h.gr_mem hi hj)).1
theorem SubX.x_gr {i j : Nat} (hi : i < xs.length) (hj : j < xs.length) : xN xs (grV t xs i j) = mul t (xN xs i) (xN xs j) := h.x_pl (h.gr_mem hi hj)
theorem SubX.x_inj {i j : Nat} (hi : i < xs.length) (hj : j < xs.length) (e : xN xs i = xN xs j) : i = j := h.inj hi hj (by rw [(h.nat hi).1, (h.nat hj).1, e])
theorem SubX.grp : IsGrp (grT t xs) := by
  refine ⟨by rw [grT_len]; exact h.pos, by rw [grT_len]; exact h.len8, fun a ha => ?_, fun a ha b hb => ?_, fun a ha => ?_, fun a ha b hb c hc => ?_, fun a ha => ?_⟩
  · rw [grT_len] at ha ⊢
    exact mkT_row_len ha
  · rw [grT_len] at ha hb ⊢
    rw [grT_ent ha hb]
    have := h.gr_lt ha hb
    omega
  · rw [grT_len] at ha
    have h1 := (h.nat ha).2
    rw [grT_ent h.pos ha, grT_ent ha h.pos]
    constructor
    · congr 1
      refine h.x_inj (h.gr_lt h.pos ha) ha ?_
      rw [h.x_gr h.pos ha, h.first, h.g.zero_mul h1]
    · congr 1
      refine h.x_inj (h.gr_lt ha h.pos) ha ?_
      rw [h.x_gr ha h.pos, h.first, h.g.mul_zero h1]
  · rw [grT_len] at ha hb hc
    rw [grT_ent ha hb, grT_ent hb hc, Int.toNat_natCast, Int.toNat_natCast]
    have h1 := h.gr_lt ha hb
    have h2 := h.gr_lt hb hc
    rw [grT_ent h1 hc, grT_ent ha h2]
    congr 1
    refine h.x_inj (h.gr_lt h1 hc) (h.gr_lt ha h2) ?_
    rw [h.x_gr h1 hc, h.x_gr ha h2, h.x_gr ha hb, h.x_gr hb hc, h.g.mul_assoc (h.nat ha).2 (h.nat hb).2 (h.nat hc).2]
  · rw [grT_len] at ha ⊢
    obtain ⟨x, hx, h0⟩ := h.s.inv h.g (xN_mem ha)
    have hxN := h.s.lt x hx
    have haN := (h.nat ha).2
    have h1 := h.pl hx
    have h2 := h.x_pl hx
    have h3 : Go.Proofs.YtcdijeeabgmgmaaGreatDoor.mul t x (xN xs a) = 0 := by
      obtain ⟨y, hy, h4, h5⟩ := h.g.inv_ex haN
      have := h.g.left_cancel haN hxN hy (h0.trans h4.symm)
      rw [this]
      exact h5
    refine ⟨plN xs x, h1.1, ?_, ?_⟩
    · rw [grT_ent ha h1.1]
      have : grV t xs a (plN xs x) = 0 := by
        refine h.x_inj (h.gr_lt ha h1.1) h.pos ?_
        rw [h.x_gr ha h1.1, h2, h.first, h0]
      rw [this]
      rfl
    · rw [grT_ent h1.1 ha]
      have : grV t xs (plN xs x) a = 0 := by
        refine h.x_inj (h.gr_lt h1.1 ha) h.pos ?_
        rw [h.x_gr h1.1 ha, h2, h.first, h3]
      rw [this]
      rfl
end

end Go.Proofs.YtcdijeeabgmgmaaGreatDoor
