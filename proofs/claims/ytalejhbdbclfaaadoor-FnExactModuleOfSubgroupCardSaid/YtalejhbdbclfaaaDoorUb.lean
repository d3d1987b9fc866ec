/- Chapter 7: subgroups as lists of numbers; what the search for cosets finds; as many cosets as the index. No program here. -/
import Derived.Test.YtalejhbdbclfaaaDoorQr
import Derived.Test.YtalejhbdbclfaaaDoorUa
namespace Go.Proofs.YtalejhbdbclfaaaDoor
open Go.RowKit

/-- The elements of a subgroup, as numbers. -/
structure SubL (t : List (List Int)) (els : List Nat) : Prop where
  lt : ∀ b ∈ els, b < t.length
  nd : els.Nodup
  z : 0 ∈ els
  mul : ∀ a ∈ els, ∀ b ∈ els, mul t a b ∈ els
theorem bit_or2 (m z x : Nat) : (m ||| 2 ^ z).testBit x = true ↔ m.testBit x = true ∨ x = z := by
  rw [Nat.testBit_or, Nat.testBit_two_pow, Bool.or_eq_true, decide_eq_true_eq]
  exact or_congr Iff.rfl eq_comm
theorem rowS_bit (t : List (List Int)) (a x : Nat) : ∀ (bs : List Nat) (m : Nat), (rowS t a m bs).testBit x = true ↔ m.testBit x = true ∨ ∃ b ∈ bs, x = mul t a b
  | [], m => by simp [rowS]
  | b :: bs, m => by
    show (rowS t a (m ||| 2 ^ mul t a b) bs).testBit x = true ↔ _
    rw [rowS_bit t a x bs, bit_or2]
    simp only [List.mem_cons, exists_eq_or_imp, or_assoc]
theorem tabS_bit (t : List (List Int)) (l : List Nat) (x : Nat) : ∀ (ys : List Nat) (m : Nat), (tabS t l m ys).testBit x = true ↔ m.testBit x = true ∨ ∃ a ∈ ys, ∃ b ∈ l, x = mul t a b
  | [], m => by simp [tabS]
  | a :: ys, m => by
    show (tabS t l (rowS t a m l) ys).testBit x = true ↔ _
    rw [tabS_bit t l x ys, rowS_bit]
    simp only [List.mem_cons, exists_eq_or_imp, or_assoc]
theorem mem_elN8 {s x : Nat} : x ∈ elN s ↔ x < 8 ∧ s.testBit x = true := by simp [elN]
theorem subL_bits {t : List (List Int)} {s : Nat} (hg : IsGrp t) (hs : s < 2 ^ t.length) (h : subB t s = true) : SubL t (elN s) := by
  unfold subB at h
  simp only [Bool.and_eq_true, beq_iff_eq] at h
  have hlt : ∀ b ∈ elN s, b < t.length := fun b hb => el_lt hs hb
  refine ⟨hlt, ?_, mem_elN8.2 ⟨by omega, h.1⟩, fun a ha b hb => ?_⟩
  · exact List.Pairwise.filter _ List.nodup_range
  · have h1 := (tabS_bit t (elN s) (mul t a b) (elN s) s).2 (.inr ⟨a, ha, b, hb, rfl⟩)
    rw [show tabS t (elN s) s (elN s) = s from h.2] at h1
    have := hg.mul_lt (hlt a ha) (hlt b hb)
    have := hg.n8
    exact mem_elN8.2 ⟨by omega, h1⟩
theorem subL_of {t : List (List Int)} {xs : List Int} (hg : IsGrp t) (hb : setB t.length xs = true) (h : subB t (bitsK xs xs.length) = true) : SubL t (elsL xs) := by
  rw [← els_bits hg.n8 hb]
  exact subL_bits hg (bitsK_lt (setB_true.1 hb).1 _ (Nat.le_refl _)) h

section
variable {t : List (List Int)} {els : List Nat} (hg : IsGrp t) (h : SubL t els)
include hg h
theorem SubL.map_nd {a : Nat} (ha : a < t.length) : (els.map (Go.Proofs.YtalejhbdbclfaaaDoor.mul t a)).Nodup :=
  List.pairwise_map.2 (h.nd.imp_of_mem fun {x y} hx hy hxy e => hxy (hg.left_cancel ha (h.lt x hx) (h.lt y hy) e))
theorem SubL.inv {b : Nat} (hb : b ∈ els) : ∃ x ∈ els, Go.Proofs.YtalejhbdbclfaaaDoor.mul t b x = 0 := by
  by_cases hn : ∃ x ∈ els, Go.Proofs.YtalejhbdbclfaaaDoor.mul t b x = 0
  · exact hn
  · exfalso
    have h1 : els.map (Go.Proofs.YtalejhbdbclfaaaDoor.mul t b) ⊆ els.erase 0 := fun y hy => by
      obtain ⟨x, hx, rfl⟩ := List.mem_map.1 hy
      exact (List.mem_erase_of_ne fun e => hn ⟨x, hx, e⟩).2 (h.mul b hb x hx)
    have h2 := List.Nodup.length_le_of_subset (h.map_nd hg (h.lt b hb)) h1
    rw [List.length_map, List.length_erase_of_mem h.z] at h2
    have := List.length_pos_of_mem h.z
    omega
/-- Two cosets that meet begin one in the other. -/
theorem SubL.meet {a a' b b' : Nat} (ha : a < t.length) (ha' : a' < t.length) (hb : b ∈ els) (hb' : b' ∈ els) (e : Go.Proofs.YtalejhbdbclfaaaDoor.mul t a b = Go.Proofs.YtalejhbdbclfaaaDoor.mul t a' b') : ∃ c ∈ els, a = Go.Proofs.YtalejhbdbclfaaaDoor.mul t a' c := by
  obtain ⟨x, hx, h0⟩ := h.inv hg hb
  refine ⟨Go.Proofs.YtalejhbdbclfaaaDoor.mul t b' x, h.mul b' hb' x hx, ?_⟩
  rw [← hg.mul_assoc ha' (h.lt b' hb') (h.lt x hx), ← e, hg.mul_assoc ha (h.lt b hb) (h.lt x hx), h0, hg.mul_zero ha]
end

theorem cosRow_bit (t : List (List Int)) (a k x : Nat) : ∀ (els : List Nat) (c : Nat × (Nat → Nat)), (els.foldl (cosIn t a k) c).1.testBit x = true ↔ c.1.testBit x = true ∨ ∃ b ∈ els, x = mul t a b
  | [], c => by simp
  | b :: els, c => by
    rw [List.foldl_cons, cosRow_bit t a k x els, cosIn, bit_or2]
    simp only [List.mem_cons, exists_eq_or_imp, or_assoc]
theorem cosRow_at (t : List (List Int)) (a k x : Nat) : ∀ (els : List Nat) (c : Nat × (Nat → Nat)), (els.foldl (cosIn t a k) c).2 x = k ∨ ((∀ b ∈ els, x ≠ mul t a b) ∧ (els.foldl (cosIn t a k) c).2 x = c.2 x)
  | [], c => .inr ⟨by simp, rfl⟩
  | b :: els, c => by
    rw [List.foldl_cons]
    rcases cosRow_at t a k x els (cosIn t a k c b) with h | ⟨h1, h2⟩
    · exact .inl h
    · by_cases he : x = mul t a b
      · exact .inl (by rw [h2, cosIn]; exact if_pos he)
      · exact .inr ⟨fun y hy => (List.mem_cons.1 hy).elim (fun e => e ▸ he) (h1 y), by rw [h2, cosIn]; exact if_neg he⟩

/-- All elements of the cosets of some elements. -/
def cosL (t : List (List Int)) (els fst : List Nat) : List Nat := fst.flatMap fun a => els.map (mul t a)
theorem cosL_snoc (t : List (List Int)) (els fst : List Nat) (a : Nat) : cosL t els (fst ++ [a]) = cosL t els fst ++ els.map (mul t a) := by simp [cosL]
theorem mem_cosL {t : List (List Int)} {els fst : List Nat} {x : Nat} : x ∈ cosL t els fst ↔ ∃ a ∈ fst, ∃ b ∈ els, mul t a b = x := by simp [cosL]
theorem cosL_len (t : List (List Int)) (els : List Nat) : ∀ fst : List Nat, (cosL t els fst).length = fst.length * els.length
  | [] => by simp [cosL]
  | a :: fst => by
    have ih := cosL_len t els fst
    unfold cosL at ih ⊢
    rw [List.flatMap_cons, List.length_append, ih, List.length_map, List.length_cons, Nat.add_mul, Nat.one_mul, Nat.add_comm]

/-- What is known of the search behind k elements. -/
structure CosI (t : List (List Int)) (els : List Nat) (k : Nat) (S : Cos) : Prop where
  met : ∀ x, S.met.testBit x = true ↔ x ∈ cosL t els S.fst
  nd : (cosL t els S.fst).Nodup
  all : ∀ x, x < k → x ∈ cosL t els S.fst
  lt : ∀ a ∈ S.fst, a < t.length
  num : ∀ x, S.met.testBit x = true → S.num x < S.fst.length ∧ ∃ b ∈ els, x = mul t (fstA S (S.num x)) b
theorem cosK_inv {t : List (List Int)} {els : List Nat} (hg : IsGrp t) (h : SubL t els) : ∀ k, k ≤ t.length → CosI t els k (cosK t els k)
  | 0, _ => ⟨fun x => by simp [cosK, cosL], by simp [cosK, cosL], fun x hx => absurd hx (by omega), fun a ha => by simp [cosK] at ha, fun x hx => by simp [cosK] at hx⟩
  | k + 1, hk => by
    have ih := cosK_inv hg h k (by omega)
    show CosI t els (k + 1) (cosStep t els (cosK t els k) k)
    obtain ⟨S, hS⟩ : ∃ S, cosK t els k = S := ⟨_, rfl⟩
    rw [hS] at ih ⊢
    clear hS
    cases hm : S.met.testBit k with
    | true =>
      rw [cosStep_old hm]
      refine ⟨ih.met, ih.nd, fun x hx => ?_, ih.lt, ih.num⟩
      rcases Nat.lt_or_ge x k with hx' | hx'
      · exact ih.all x hx'
      · obtain rfl : x = k := by omega
        exact (ih.met x).1 hm
    | false =>
      rw [cosStep_new hm]
      have hkN : k < t.length := by omega
      have hbit : ∀ x, (cosRow t k S els).1.testBit x = true ↔ S.met.testBit x = true ∨ ∃ b ∈ els, x = mul t k b := fun x => cosRow_bit t k _ x els _
      have hoff : ∀ x, S.met.testBit x = true → ∀ b ∈ els, x ≠ mul t k b := fun x hx b hb e => by
        obtain ⟨a, ha, b', hb', e'⟩ := mem_cosL.1 ((ih.met x).1 hx)
        obtain ⟨c, hc, ec⟩ := h.meet hg hkN (ih.lt a ha) hb hb' (e.symm.trans e'.symm)
        have := (ih.met k).2 (mem_cosL.2 ⟨a, ha, c, hc, ec.symm⟩)
        rw [hm] at this
        cases this
      refine ⟨fun x => ?_, ?_, fun x hx => ?_, fun a ha => ?_, fun x hx => ?_⟩
      · show (cosRow t k S els).1.testBit x = true ↔ x ∈ cosL t els (S.fst ++ [k])
        rw [hbit, cosL_snoc, List.mem_append, ih.met, List.mem_map]
        exact or_congr Iff.rfl ⟨fun ⟨b, hb, e⟩ => ⟨b, hb, e.symm⟩, fun ⟨b, hb, e⟩ => ⟨b, hb, e.symm⟩⟩
      · show (cosL t els (S.fst ++ [k])).Nodup
        rw [cosL_snoc]
        refine List.pairwise_append.2 ⟨ih.nd, h.map_nd hg hkN, fun x hx y hy e => ?_⟩
        obtain ⟨b, hb, rfl⟩ := List.mem_map.1 hy
        exact hoff x ((ih.met x).2 hx) b hb e
      · show x ∈ cosL t els (S.fst ++ [k])
        rw [cosL_snoc, List.mem_append]
        rcases Nat.lt_or_ge x k with hx' | hx'
        · exact .inl (ih.all x hx')
        · obtain rfl : x = k := by omega
          exact .inr (List.mem_map.2 ⟨0, h.z, hg.mul_zero hkN⟩)
      · rcases List.mem_append.1 ha with ha | ha
        · exact ih.lt a ha
        · obtain rfl : a = k := by simpa using ha
          exact hkN
      · have hx' : S.met.testBit x = true ∨ ∃ b ∈ els, x = mul t k b := (hbit x).1 hx
        show (cosRow t k S els).2 x < (S.fst ++ [k]).length ∧ ∃ b ∈ els, x = mul t ((S.fst ++ [k])[(cosRow t k S els).2 x]?.getD 0) b
        rcases cosRow_at t k S.fst.length x els (S.met, S.num) with hr | ⟨h1, h2⟩
        · have hr' : (cosRow t k S els).2 x = S.fst.length := hr
          rw [hr']
          refine ⟨by simp, ?_⟩
          rw [List.getElem?_append_right (Nat.le_refl _), Nat.sub_self]
          show ∃ b ∈ els, x = mul t k b
          rcases hx' with hx' | hx'
          · exfalso
            by_cases hq : ∃ b ∈ els, x = mul t k b
            · obtain ⟨b, hb, e⟩ := hq
              exact hoff x hx' b hb e
            · have hne : ∀ b ∈ els, x ≠ mul t k b := fun b hb e => hq ⟨b, hb, e⟩
              have hk' : ∀ (els : List Nat) (c : Nat × (Nat → Nat)), (∀ b ∈ els, x ≠ mul t k b) → (els.foldl (cosIn t k S.fst.length) c).2 x = c.2 x := by
                intro els
                induction els with
                | nil => exact fun _ _ => rfl
                | cons b els ih2 =>
                  intro c hc
                  rw [List.foldl_cons, ih2 _ fun y hy => hc y (List.mem_cons_of_mem _ hy), cosIn]
                  exact if_neg (hc b (List.mem_cons_self ..))
              have h3 := hk' els (S.met, S.num) hne
              rw [hr] at h3
              have h4 := (ih.num x hx').1
              have h5 : S.num x = S.fst.length := h3.symm
              omega
          · exact hx'
        · have hr' : (cosRow t k S els).2 x = S.num x := h2
          rw [hr']
          have hx2 : S.met.testBit x = true := hx'.elim id fun ⟨b, hb, e⟩ => absurd e (h1 b hb)
          obtain ⟨h3, b, hb, e⟩ := ih.num x hx2
          refine ⟨by simp; omega, b, hb, ?_⟩
          rw [List.getElem?_append_left h3]
          exact e

section
variable {t : List (List Int)} {els : List Nat} (hg : IsGrp t) (h : SubL t els)
include hg h
theorem cosets_count : (cosK t els t.length).fst.length * els.length = t.length := by
  have hi := cosK_inv hg h t.length (Nat.le_refl _)
  rw [← cosL_len t els]
  refine Nat.le_antisymm ?_ ?_
  · have h1 := List.Nodup.length_le_of_subset hi.nd (l₂ := List.range t.length) fun x hx => by
      obtain ⟨a, ha, b, hb, rfl⟩ := mem_cosL.1 hx
      exact List.mem_range.2 (hg.mul_lt (hi.lt a ha) (h.lt b hb))
    simpa using h1
  · have h1 := List.Nodup.length_le_of_subset (List.nodup_range (n := t.length)) (l₂ := cosL t els (cosK t els t.length).fst) fun x hx => hi.all x (List.mem_range.1 hx)
    simpa using h1
/-- Each element lies in the coset with its number. -/
theorem coset_at {x : Nat} (hx : x < t.length) : (cosK t els t.length).num x < (cosK t els t.length).fst.length ∧ fstA (cosK t els t.length) ((cosK t els t.length).num x) < t.length ∧ mul t (iv t (fstA (cosK t els t.length) ((cosK t els t.length).num x))) x ∈ els := by
  have hi := cosK_inv hg h t.length (Nat.le_refl _)
  obtain ⟨h1, b, hb, e⟩ := hi.num x ((hi.met x).2 (hi.all x hx))
  obtain ⟨S, hS⟩ : ∃ S, cosK t els t.length = S := ⟨_, rfl⟩
  rw [hS] at hi h1 e ⊢
  have hu := hi.lt _ (fstA_mem h1)
  refine ⟨h1, hu, ?_⟩
  obtain ⟨u, hue⟩ : ∃ u, fstA S (S.num x) = u := ⟨_, rfl⟩
  rw [hue] at e hu ⊢
  have hiv := iv_spec hg hu
  obtain ⟨y, hy, h2, h3⟩ := hg.inv_ex hu
  have : y = iv t u := iv_only hg hu hy h2
  subst this
  rw [e, ← hg.mul_assoc hy hu (h.lt b hb), h3, hg.zero_mul (h.lt b hb)]
  exact hb
end

end Go.Proofs.YtalejhbdbclfaaaDoor
