/- Homomorphisms: the tests of the program and of the specification. -/
import Derived.Deep.RegionHeld3
import Derived.Test.YtcdijeeabgmgmaaGreatDoorMdl
import Derived.Test.YtcdijeeabgmgmaaGreatDoorOgr
import Derived.Test.YtcdijeeabgmgmaaGreatDoorCel
namespace Go.Proofs.YtcdijeeabgmgmaaGreatDoor
open Go.RowKit

/-- Do the images agree with this product? -/
def HomAt (t u : List (List Int)) (xs : List Int) (i j : Nat) : Prop := im xs (mul t i j) = mul u (im xs i) (im xs j)
open Classical in
noncomputable def homB (t u : List (List Int)) (xs : List Int) : Bool := decide (∀ i, i < t.length → ∀ j, j < t.length → HomAt t u xs i j)

theorem homB_true {t u : List (List Int)} {xs : List Int} (h : ∀ i, i < t.length → ∀ j, j < t.length → HomAt t u xs i j) : homB t u xs = true := by
  simp only [homB, decide_eq_true_eq]
  exact h
theorem homB_false {t u : List (List Int)} {xs : List Int} {i j : Nat} (hi : i < t.length) (hj : j < t.length) (h : ¬ HomAt t u xs i j) : homB t u xs = false := by
  simp only [homB, decide_eq_false_iff_not]
  exact fun hk => h (hk i hi j hj)

/-- All that a round of the tests reads. -/
structure HomW (W : World) (g h : Nat) (B b o b' o' b'' o'' c c' : Nat) (bb oo C bb' oo' C' : Nat → Nat) (t u : List (List Int)) (xs : List Int) : Prop where
  hg : Has W g 32 #[.slice (some ⟨b, o, none⟩) t.length c]
  hh : Has W h 32 #[.slice (some ⟨b', o', none⟩) u.length c']
  q : SqT W B b o bb oo C t
  q' : SqT W B b' o' bb' oo' C' u
  x : ∀ k, k < xs.length → W.cell? ⟨b'', o'' + k, none⟩ = some (.int .i64 (nth xs k))
  hB : B ≤ W.heap.size
  hx : b'' < W.heap.size

theorem HomW.below {W W' : World} {g h B b o b' o' b'' o'' c c' : Nat} {bb oo C bb' oo' C' : Nat → Nat} {t u : List (List Int)} {xs : List Int} (hw : HomW W g h B b o b' o' b'' o'' c c' bb oo C bb' oo' C' t u xs) (hb : Below W.heap.size W W') :
    HomW W' g h B b o b' o' b'' o'' c c' bb oo C bb' oo' C' t u xs :=
  ⟨hw.hg.below hb hw.hg.lt, hw.hh.below hb hw.hh.lt, hw.q.below hb hw.hB, hw.q'.below hb hw.hB, fun k hk => (hb.cell (p := ⟨b'', o'' + k, none⟩) hw.hx).trans (hw.x k hk), Nat.le_trans hw.hB hb.size, Nat.lt_of_lt_of_le hw.hx hb.size⟩

theorem HomW.enter {w : World} {B b o b' o' b'' o'' c c' : Nat} {bb oo C bb' oo' C' : Nat → Nat} {t u : List (List Int)} {xs : List Int} (hQ : SqT w B b o bb oo C t) (hQ' : SqT w B b' o' bb' oo' C' u) (hX : ∀ k, k < xs.length → w.cell? ⟨b'', o'' + k, none⟩ = some (.int .i64 (nth xs k)))
    (hB : B ≤ w.heap.size) (hB'' : b'' < w.heap.size) :
    HomW ((w.alloc (.cells #[.slice (some ⟨b, o, none⟩) t.length c] 32)).alloc (.cells #[.slice (some ⟨b', o', none⟩) u.length c'] 32)) w.heap.size (w.heap.size + 1) B b o b' o' b'' o'' c c' bb oo C bb' oo' C' t u xs := by
  have hb0 : Below w.heap.size w ((w.alloc (.cells #[.slice (some ⟨b, o, none⟩) t.length c] 32)).alloc (.cells #[.slice (some ⟨b', o', none⟩) u.length c'] 32)) := ((Below.refl _ _).alloc (Nat.le_refl _) _).alloc (by simp) _
  exact ⟨(Has.new w 32 #[.slice (some ⟨b, o, none⟩) t.length c]).alloc _, Has.newAt (by simp), hQ.below hb0 hB, hQ'.below hb0 hB, fun k hk => (hb0.cell (p := ⟨b'', o'' + k, none⟩) hB'').trans (hX k hk), Nat.le_trans hB hb0.size, Nat.lt_of_lt_of_le hB'' hb0.size⟩

theorem keep_hom (t u : List (List Int)) (xs : List Int) : keepPB t (mul u) xs = homB t u xs := by
  cases h : homB t u xs
  · cases k : keepPB t (mul u) xs
    · rfl
    · have := homB_true (t := t) (u := u) (xs := xs) (keepPB_iff.1 k)
      rw [h] at this
      cases this
  · refine keepPB_true fun i hi j hj => ?_
    simp only [homB, decide_eq_true_eq] at h
    exact h i hi j hj

open Classical in
/-- Are all numbers of the list elements? -/
noncomputable def inRB (n : Nat) (xs : List Int) : Bool := decide (InR n xs)

theorem belowB_inRB (n : Nat) (xs : List Int) : belowB (n : Int) xs = inRB n xs := by
  cases hb : belowB (n : Int) xs
  · have : ¬ InR n xs := fun h => by
      have h2 : belowB (n : Int) xs = true := belowB_iff.2 fun i hi => inB_of (h i hi).1 (by have := (h i hi).2; omega)
      rw [h2] at hb
      cases hb
    simp [inRB, this]
  · simp [inRB, belowB_inR hb]

theorem isElementList_any (A L : Option Addr) (n c c' B' : Nat) (xs : List Int) (w : World) (hX : Ints w B' L xs) (hB' : B' ≤ w.heap.size) (hn : n ≤ 1048576) (hx : xs.length ≤ 1048576) :
    Calls Tryz.prog 132 #[.agg #[.slice A n c], .slice L xs.length c'] w fun e w' => e = .returned (.bool (inRB n xs)) ∧ Below w.heap.size w w' := by
  have e0 := Ex.new w (.cells #[.slice A n c] 32)
  have HX := Lib.hid ((IntsW.of hX hB').ex e0)
  have HQ := Lib.hid (belowB_inRB n xs)
  clear hX
  go_enter Tryz.func132, Tryz.ntmps132
  go_wp2_with fail
  generalize (w.alloc (.cells #[.slice A n c] 32)) = W0 at *
  refine (groupOrder_ex A n c W0 hn).mono ?_
  rintro e W1 ⟨rfl, he1⟩
  obtain ⟨bv, hbv⟩ : ∃ b, belowB (n : Int) xs = b := ⟨_, rfl⟩
  have HBV := Lib.hid hbv
  clear hbv
  go_wp2_with (go_at_call 125; refine (areBelow_any L (n : Int) xs c' _ (HX.out.ex he1) hx (by omega) (by omega)).mono ?_; rw [HBV.out]; rintro e w' ⟨rfl, he2⟩)
  go_ret
  exact ⟨by rw [← HQ.out, HBV.out]; rfl, e0.trans (he1.trans he2)⟩

open Classical in
/-- Is the list a homomorphism, and the code. -/
noncomputable def homR (t u : List (List Int)) (xs : List Int) : Bool × Int :=
  if IsGrp t ∧ IsGrp u then (if xs.length = t.length ∧ InR u.length xs then (homB t u xs, 0) else (false, 2)) else (false, 1)

theorem SqT.more {w : World} {B B' b o : Nat} {bb oo C : Nat → Nat} {t : List (List Int)} (h : SqT w B b o bb oo C t) (hB : B ≤ B') : SqT w B' b o bb oo C t :=
  ⟨Nat.lt_of_lt_of_le h.1 hB, fun i hi => ⟨(h.2 i hi).1, Nat.lt_of_lt_of_le (h.2 i hi).2.1 hB, (h.2 i hi).2.2⟩⟩

theorem not_grp {t : List (List Int)} (h : grpB t = false) : ¬ IsGrp t := fun hg => by have := grpB_true hg; rw [h] at this; cases this

end Go.Proofs.YtcdijeeabgmgmaaGreatDoor
