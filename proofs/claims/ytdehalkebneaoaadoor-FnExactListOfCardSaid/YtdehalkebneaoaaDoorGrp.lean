/- What a group is, on lists of lists of numbers. No program here. -/
import Derived.Test.YtdehalkebneaoaaDoorMem
namespace Go.Proofs.YtdehalkebneaoaaDoor

/-- The entry of a table in a row and a column. -/
def ent (t : List (List Int)) (a b : Nat) : Int := nth (row t a) b

/-- A table of a group, by what is asked of it. -/
structure IsGrp (t : List (List Int)) : Prop where
  n1 : 1 ≤ t.length
  n8 : t.length ≤ 8
  sq : ∀ a, a < t.length → (row t a).length = t.length
  rng : ∀ a, a < t.length → ∀ b, b < t.length → 0 ≤ ent t a b ∧ ent t a b < t.length
  id : ∀ a, a < t.length → ent t 0 a = a ∧ ent t a 0 = a
  assoc : ∀ a, a < t.length → ∀ b, b < t.length → ∀ c, c < t.length → ent t (ent t a b).toNat c = ent t a (ent t b c).toNat
  inv : ∀ a, a < t.length → ∃ b, b < t.length ∧ ent t a b = 0 ∧ ent t b a = 0

open Classical in
/-- Is a table one of a group? -/
noncomputable def grpB (t : List (List Int)) : Bool := decide (IsGrp t)

theorem grpB_true {t : List (List Int)} (h : IsGrp t) : grpB t = true := by simp [grpB, h]
theorem grpB_false {t : List (List Int)} (h : ¬ IsGrp t) : grpB t = false := by simp [grpB, h]
theorem grpB_iff {t : List (List Int)} : grpB t = true ↔ IsGrp t := by simp [grpB]

/-- A square table of a permitted size with numbers of its rows. -/
structure IsTab (t : List (List Int)) : Prop where
  n1 : 1 ≤ t.length
  n8 : t.length ≤ 8
  sq : ∀ a, a < t.length → (row t a).length = t.length
  rng : ∀ a, a < t.length → ∀ b, b < t.length → 0 ≤ nth (row t a) b ∧ nth (row t a) b < t.length

/-- 0 a and a 0 are a. -/
def IsKeep (t : List (List Int)) : Prop := ∀ a, a < t.length → nth (row t 0) a = a ∧ nth (row t a) 0 = a
/-- Products do not depend on brackets. -/
def IsAssoc (t : List (List Int)) : Prop := ∀ a, a < t.length → ∀ b, b < t.length → ∀ c, c < t.length → nth (row t (nth (row t a) b).toNat) c = nth (row t a) (nth (row t b) c).toNat
/-- The first 0 of each row is at an inverse. -/
def IsInv (t : List (List Int)) : Prop := ∀ a, a < t.length → ∃ b, b < t.length ∧ nth (row t a) b = 0 ∧ (∀ c, c < b → nth (row t a) c ≠ 0) ∧ nth (row t b) a = 0

open Classical in
noncomputable def tabB (t : List (List Int)) : Bool := decide (IsTab t)
open Classical in
noncomputable def keepB (t : List (List Int)) : Bool := decide (IsKeep t)
open Classical in
noncomputable def assocB (t : List (List Int)) : Bool := decide (IsAssoc t)
open Classical in
noncomputable def invB (t : List (List Int)) : Bool := decide (IsInv t)

theorem least_zero (f : Nat → Int) : ∀ b, f b = 0 → ∃ m, m ≤ b ∧ f m = 0 ∧ ∀ c, c < m → f c ≠ 0 := by
  intro b
  induction b using Nat.strongRecOn with
  | ind b ih =>
    intro hb
    by_cases h : ∃ c, c < b ∧ f c = 0
    · obtain ⟨c, hc, h0⟩ := h
      obtain ⟨m, h1, h2, h3⟩ := ih c hc h0
      exact ⟨m, by omega, h2, h3⟩
    · exact ⟨b, Nat.le_refl _, hb, fun c hc h0 => h ⟨c, hc, h0⟩⟩

/-- THE TWO TESTS ARE ONE: the program looks at the first 0 of a row alone, the specification at all. -/
theorem isGrp_iff {t : List (List Int)} : IsGrp t ↔ IsTab t ∧ IsKeep t ∧ IsAssoc t ∧ IsInv t := by
  constructor
  · intro h
    refine ⟨⟨h.n1, h.n8, h.sq, h.rng⟩, h.id, h.assoc, fun a ha => ?_⟩
    obtain ⟨b, hb, h1, h2⟩ := h.inv a ha
    obtain ⟨m, hm, h0, hl⟩ := least_zero (fun c => nth (row t a) c) b h1
    have hmn : m < t.length := by omega
    refine ⟨m, hmn, h0, hl, ?_⟩
    -- m = 0 m = (b a) m = b (a m) = b 0 = b
    have e := h.assoc b hb a ha m hmn
    rw [h2] at e
    have h0' : ent t a m = 0 := h0
    rw [h0'] at e
    have e1 := (h.id m hmn).1
    have e2 := (h.id b hb).2
    have e3 : (m : Int) = b := by
      rw [← e1, ← e2]
      exact e
    obtain rfl : m = b := by omega
    exact h2
  · rintro ⟨h1, h2, h3, h4⟩
    refine ⟨h1.n1, h1.n8, h1.sq, h1.rng, h2, h3, fun a ha => ?_⟩
    obtain ⟨b, hb, h5, _, h6⟩ := h4 a ha
    exact ⟨b, hb, h5, h6⟩

theorem grpB_eq (t : List (List Int)) : grpB t = (tabB t && (keepB t && (assocB t && invB t))) := by
  rw [Bool.eq_iff_iff]
  simp [grpB, tabB, keepB, assocB, invB, isGrp_iff]

end Go.Proofs.YtdehalkebneaoaaDoor
