/- Inverses: both sides' search for them. -/
import Derived.Test.YtmmgmbgnlcfabaaDoorCe
import Derived.Test.YtmmgmbgnlcfabaaDoorAlg
import Derived.Test.YtmmgmbgnlcfabaaDoorImB
namespace Go.Proofs.YtmmgmbgnlcfabaaDoor
open Go.RowKit

open Classical in
/-- The inverse of an element. -/
noncomputable def iv (t : List (List Int)) (a : Nat) : Nat := if h : ∃ b, b < t.length ∧ mul t a b = 0 then Classical.choose h else 0
section
variable {t : List (List Int)} (h : IsGrp t) {a : Nat} (ha : a < t.length)
include h ha
theorem iv_spec : iv t a < t.length ∧ mul t a (iv t a) = 0 := by
  have hex : ∃ b, b < t.length ∧ mul t a b = 0 := by
    obtain ⟨b, hb, h1, _⟩ := h.inv_ex ha
    exact ⟨b, hb, h1⟩
  unfold iv
  rw [dif_pos hex]
  exact Classical.choose_spec hex
theorem iv_only {b : Nat} (hb : b < t.length) (he : mul t a b = 0) : b = iv t a := h.left_cancel ha hb (iv_spec h ha).1 (he.trans (iv_spec h ha).2.symm)
theorem iv_ent : nth (row t a) (iv t a) = 0 := by
  rw [h.ent ha (iv_spec h ha).1, (iv_spec h ha).2]
  rfl
theorem iv_before {j : Nat} (hj : j < iv t a) : nth (row t a) j ≠ 0 := fun e => by
  have hjl : j < t.length := Nat.lt_trans hj (iv_spec h ha).1
  rw [h.ent ha hjl] at e
  have := iv_only h ha hjl (by omega)
  omega
end

theorem RwsW.sq {w : World} {A : Option Addr} {t : List (List Int)} (h : RwsW w A t) (hg : IsGrp t) : ∃ b o bb oo C, A = some ⟨b, o, none⟩ ∧ SqT w w.heap.size b o bb oo C t := h.rws.sq hg.n1 hg.sq
theorem SqT.ex {w w' : World} {b o : Nat} {bb oo C : Nat → Nat} {t : List (List Int)} (h : SqT w w.heap.size b o bb oo C t) (k : Ex w w') : SqT w' w.heap.size b o bb oo C t := h.below k.below (Nat.le_refl _)
theorem SqT.exB {w w' : World} {B b o : Nat} {bb oo C : Nat → Nat} {t : List (List Int)} (h : SqT w B b o bb oo C t) (k : Ex w w') (hB : B ≤ w.heap.size) : SqT w' B b o bb oo C t := h.below k.below hB

set_option maxHeartbeats 1000000 in
theorem l01Inverse_any (A : Option Addr) (t : List (List Int)) (c a : Nat) (w : World) (hR : RwsW w A t) (hg : IsGrp t) (ha : a < t.length) :
    Calls Tryd.prog 67 #[.agg #[.slice A t.length c], .int .i64 (a : Int)] w fun e w' => e = .returned (.int .i64 (iv t a : Int)) ∧ Ex w w' := by
  obtain ⟨b, o, bb, oo, C, rfl, hQ⟩ := hR.sq hg
  have e0 : Ex w (w.alloc (.cells #[.slice (some ⟨b, o, none⟩) t.length c] 29)) := (Ex.refl w).alloc _
  have b0 : Has (w.alloc (.cells #[.slice (some ⟨b, o, none⟩) t.length c] 29)) (w.heap.size) 29 #[.slice (some ⟨b, o, none⟩) t.length c] := (Has.newAt (w := w) (e := 29) (cs := #[.slice (some ⟨b, o, none⟩) t.length c]) (k := w.heap.size) (by simp))
  have hn8 := hg.n8
  obtain ⟨hil, -⟩ := iv_spec hg ha
  have HV := Lib.hid (iv_ent hg ha)
  have HL := Lib.hid (fun j => iv_before hg ha (j := j))
  have HQ := Lib.hid (hQ.ex e0)
  have HE0 := Lib.hid e0
  have hbw := hQ.1
  have hrw := (hQ.2 a ha).2.1
  clear hQ hg hR
  generalize hi : iv t a = i at *
  clear hi
  go_enter Tryd.func67, Tryd.ntmps67
  go_wp2_with fail
  generalize (w.alloc (.cells #[.slice (some ⟨b, o, none⟩) t.length c] 29)) = W0 at *
  have HB0 := Lib.hid b0
  clear b0 e0
  go_loopw [5] (fun x wr => ∃ k : Nat, k ≤ i ∧ x = .int .i64 (k : Int) ∧ Hid (Ex W0 wr)) (fun x _ => i - (intOf x).toNat)
  case atStart => exact ⟨0, Nat.zero_le _, rfl, Lib.hid (Ex.refl _)⟩
  case round =>
    obtain ⟨k, hk, rfl, HE⟩ := hrel
    have c0 := (HB0.out.ex HE.out).cell 0
    have hz := HE.out.size
    have hz0 := HE0.out.size
    go_wp2_with fail
    refine (l01N_ex _ _ _ _ (by omega)).mono ?_
    rintro e W1 ⟨rfl, he1⟩
    have hq := HQ.out.exB (HE.out.trans he1) hz0
    have c1 := (HB0.out.ex (HE.out.trans he1)).cell 0
    have hr := hq.row_ ha
    have hkl : k < t.length := by omega
    have hen := hq.ent_ ha hkl
    have HE1 := Lib.hid (HE.out.trans he1)
    clear hq c0
    by_cases hki : k = i
    · subst hki
      rw [HV.out] at hen
      go_wp2_with fail
      go_ret
      exact ⟨rfl, HE0.out.trans HE1.out⟩
    · have hne := HL.out k (by omega)
      have hq : (nth (row t a) k == 0) = false := by simpa using hne
      clear hne
      generalize nth (row t a) k = x at *
      go_wp2_with fail
      go_roundw
      case rel => exact ⟨k + 1, by omega, by go_num, HE1⟩
      case measure => simp [intOf]; omega

set_option maxHeartbeats 1000000 in
theorem inverseOf_any (A : Option Addr) (t : List (List Int)) (c a : Nat) (w : World) (hR : RwsW w A t) (hg : IsGrp t) (ha : a < t.length) :
    Calls Tryd.prog 70 #[.agg #[.slice A t.length c], .int .i64 (a : Int)] w fun e w' => e = .returned (.int .i64 (iv t a : Int)) ∧ Ex w w' := by
  obtain ⟨b, o, bb, oo, C, rfl, hQ⟩ := hR.sq hg
  have e0 : Ex w (w.alloc (.cells #[.slice (some ⟨b, o, none⟩) t.length c] 29)) := (Ex.refl w).alloc _
  have b0 : Has (w.alloc (.cells #[.slice (some ⟨b, o, none⟩) t.length c] 29)) (w.heap.size) 29 #[.slice (some ⟨b, o, none⟩) t.length c] := (Has.newAt (w := w) (e := 29) (cs := #[.slice (some ⟨b, o, none⟩) t.length c]) (k := w.heap.size) (by simp))
  have hn8 := hg.n8
  have hq := hQ.ex e0
  have c0 := b0.cell 0
  have hr := hq.row_ ha
  have hlen := hg.sq a ha
  have hI : Ints (w.alloc (.cells #[.slice (some ⟨b, o, none⟩) t.length c] 29)) w.heap.size (some ⟨bb a, oo a, none⟩) (row t a) := .inr ⟨bb a, oo a, rfl, (hq.2 a ha).2.1, fun j hj => hq.ent_ ha (by rw [hlen] at hj; exact hj)⟩
  have hcon := index_found (some ⟨bb a, oo a, none⟩) (row t a) 0 (iv t a) (C a) w.heap.size _ hI (by rw [hlen]; omega) (by rw [hlen]; exact (iv_spec hg ha).1) (iv_ent hg ha) (fun j hj => iv_before hg ha hj)
  rw [hlen] at hcon
  have HC := Lib.hid hcon
  have hil := (iv_spec hg ha).1
  clear hcon hI hlen hq hQ hg hR
  generalize iv t a = i at *
  go_enter Tryd.func70, Tryd.ntmps70
  go_wp2_with fail
  generalize (w.alloc (.cells #[.slice (some ⟨b, o, none⟩) t.length c] 29)) = W0 at *
  refine HC.out.mono ?_
  rintro e w' ⟨rfl, rfl⟩
  go_wp2_with fail
  go_ret
  exact ⟨rfl, e0⟩

end Go.Proofs.YtmmgmbgnlcfabaaDoor
