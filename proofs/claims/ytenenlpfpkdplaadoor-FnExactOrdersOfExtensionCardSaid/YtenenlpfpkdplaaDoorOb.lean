/- Tables with powers: the orders of their elements, by the program. -/
import Derived.Test.YtenenlpfpkdplaaDoorTb
namespace Go.Proofs.YtenenlpfpkdplaaDoor
open Go.RowKit Go.Shelf

attribute [local go_sem] Oper.semAt_some

/-- A square of numbers of its rows in which 0 leaves all as it is from the left, and products from the right can be taken back. -/
structure IsOrb (t : List (List Int)) : Prop where
  n1 : 1 ≤ t.length
  sq : ∀ i, i < t.length → (row t i).length = t.length
  rng : ∀ i, i < t.length → ∀ j, j < t.length → 0 ≤ nth (row t i) j ∧ nth (row t i) j < t.length
  left0 : ∀ a, a < t.length → nth (row t 0) a = (a : Int)
  inj : ∀ a, a < t.length → ∀ x, x < t.length → ∀ y, y < t.length → mul t x a = mul t y a → x = y
theorem IsGrp.orb {t : List (List Int)} (h : IsGrp t) : IsOrb t where
  n1 := h.n1
  sq := h.sq
  rng i hi j hj := by
    have := h.rng i hi j hj
    unfold Go.Proofs.YtenenlpfpkdplaaDoor.ent at this
    omega
  left0 a ha := (h.id a ha).1
  inj a ha x hx y hy e := h.right_cancel ha hx hy e
section
variable {t : List (List Int)} (h : IsOrb t)
include h
theorem IsOrb.ent {x y : Nat} (hx : x < t.length) (hy : y < t.length) : nth (row t x) y = (mul t x y : Int) := by
  have h1 := (h.rng x hx y hy).1
  unfold mul
  rw [Int.toNat_of_nonneg h1]
theorem IsOrb.mul_lt {x y : Nat} (hx : x < t.length) (hy : y < t.length) : mul t x y < t.length := by
  have h1 := h.rng x hx y hy
  have h2 := h.ent hx hy
  omega
theorem IsOrb.zero_mul {x : Nat} (hx : x < t.length) : mul t 0 x = x := by
  have h1 := h.left0 x hx
  simp [mul, h1]
end
theorem IsOrb.pw_lt {t : List (List Int)} (h : IsOrb t) {a : Nat} (ha : a < t.length) : ∀ j, pw t a j < t.length
  | 0 => h.n1
  | j + 1 => h.mul_lt (h.pw_lt ha j) ha
theorem IsOrb.pw_back {t : List (List Int)} (h : IsOrb t) {a : Nat} (ha : a < t.length) (d : Nat) : ∀ i, pw t a i = pw t a (i + d) → pw t a d = 0
  | 0, e => by
    rw [Nat.zero_add] at e
    exact e.symm
  | i + 1, e => by
    refine h.pw_back ha d i ?_
    rw [show i + 1 + d = i + d + 1 by omega] at e
    exact h.inj a ha _ (h.pw_lt ha i) _ (h.pw_lt ha (i + d)) e
theorem IsOrb.pw_zero_ex {t : List (List Int)} (h : IsOrb t) {a : Nat} (ha : a < t.length) : ∃ k, 1 ≤ k ∧ k ≤ t.length ∧ pw t a k = 0 := by
  obtain ⟨i, j, hij, hj, e⟩ := pigeon t.length (pw t a) (fun j _ => h.pw_lt ha j)
  refine ⟨j - i, by omega, by omega, h.pw_back ha (j - i) i ?_⟩
  rw [show i + (j - i) = j by omega]
  exact e
theorem IsOrb.ord_spec {t : List (List Int)} (h : IsOrb t) {a : Nat} (ha : a < t.length) : 1 ≤ ord t a ∧ ord t a ≤ t.length ∧ pw t a (ord t a) = 0 ∧ ∀ i, 1 ≤ i → i < ord t a → pw t a i ≠ 0 := by
  obtain ⟨k, h1, h2, h3⟩ := h.pw_zero_ex ha
  obtain ⟨g1, g2, g3, g4⟩ := ordFrom_spec t.length 1 k h1 (by omega) h3
  exact ⟨g1, Nat.le_trans g3 h2, g2, g4⟩

theorem SqT.up {w : World} {B B' b o : Nat} {bb oo C : Nat → Nat} {t : List (List Int)} (h : SqT w B b o bb oo C t) (hB : B ≤ B') : SqT w B' b o bb oo C t :=
  ⟨Nat.lt_of_lt_of_le h.1 hB, fun i hi => ⟨(h.2 i hi).1, Nat.lt_of_lt_of_le (h.2 i hi).2.1 hB, (h.2 i hi).2.2⟩⟩

set_option maxHeartbeats 1000000 in
theorem elementOrder_orb (t : List (List Int)) (c b o a : Nat) (bb oo C : Nat → Nat) (w : World) (hQ : SqT w w.heap.size b o bb oo C t) (hg : IsOrb t) (hn : t.length ≤ 1024) (ha : a < t.length) :
    Calls Tryd.prog 112 #[.agg #[.slice (some ⟨b, o, none⟩) t.length c], .int .i64 (a : Int)] w fun e w' => e = .returned (.int .i64 (ord t a : Int)) ∧ Ex w w' := by
  have hb0 : Ex w (w.alloc (.cells #[.slice (some ⟨b, o, none⟩) t.length c] 35)) := Ex.new _ _
  have h0 := (Has.new w 35 #[.slice (some ⟨b, o, none⟩) t.length c]).cell 0
  obtain ⟨g1, g2, g3, g4⟩ := hg.ord_spec ha
  have HG4 := Lib.hid g4
  have HG3 := Lib.hid g3
  have HG := Lib.hid hg
  have HQ := Lib.hid (hQ.below hb0.below (Nat.le_refl _))
  have HE := Lib.hid hb0
  clear hQ hg g4 g3 hb0
  go_enter Tryd.func112, Tryd.ntmps112
  go_wp2
  generalize (w.alloc (.cells #[.slice (some ⟨b, o, none⟩) t.length c] 35)) = W at *
  go_loop [5, 6] (fun k p => ∃ j : Nat, 1 ≤ j ∧ j ≤ ord t a ∧ k = .int .i64 j ∧ p = .int .i64 (pw t a j : Int)) (fun k _ => ord t a - (intOf k).toNat)
  case atStart => exact ⟨1, by omega, g1, rfl, by show _ = Value.int .i64 ((mul t 0 a : Nat) : Int); rw [HG.out.zero_mul ha]⟩
  case round =>
    obtain ⟨j, hj1, hj2, rfl, rfl⟩ := hrel
    by_cases hlt : j < ord t a
    · have hne := HG4.out j hj1 hlt
      have hp := HG.out.pw_lt ha j
      have hnxt : mul t (pw t a j) a = pw t a (j + 1) := rfl
      have hrow := HQ.out.row_ hp
      have hent := HQ.out.ent_ hp ha
      rw [HG.out.ent hp ha] at hent
      obtain ⟨y, hy⟩ : ∃ y, pw t a (j + 1) = y := ⟨_, rfl⟩
      rw [hnxt, hy] at hent
      have HY := Lib.hid hy
      clear hnxt hy
      generalize pw t a j = x at *
      have hne' : ((x : Int) != 0) = true := by rw [bne_iff_ne]; omega
      clear hne
      go_wp2
      go_round
      case rel => exact ⟨j + 1, by omega, by omega, by go_num, by rw [HY.out]⟩
      case measure => simp [intOf]; omega
    · have hjo : j = ord t a := by omega
      subst hjo
      have hz : (((pw t a (ord t a) : Nat) : Int) != 0) = false := by rw [HG3.out]; rfl
      go_wp2
      go_ret
      exact ⟨rfl, HE.out⟩

end Go.Proofs.YtenenlpfpkdplaaDoor
