/- Marks in a group that was copied, and what stays of other blocks. -/
import Derived.Test.YtdehalkebneaoaaDoorMk
import Derived.Test.YtdehalkebneaoaaDoorOrd
namespace Go.Proofs.YtdehalkebneaoaaDoor
open Go.RowKit

theorem FreshT.rw {w : World} {G : Nat} {eo ei : TypeId} {t : List (List Int)} (h : FreshT w G eo ei t) :
    RW w G 0 t.length (fun i => some ⟨G + 1 + i, 0, none⟩) (fun i => G + 1 + i) (fun _ => 0) (fun i => (row t i).length) (fun i => (row t i).length) where
  outer i hi := by rw [Nat.zero_add, h.outer.cell, tab_get hi]
  addr _ _ _ := rfl
  wr i hi j hj := ⟨⟨nth (row t i) j, by rw [Nat.zero_add, (h.inner i hi).cell, tab_get hj]⟩, (h.inner i hi).free _⟩
  apart i _ i' _ hne o' hh := by
    have := hh.1.1
    exact hne (by omega)
  off i _ _ := by omega

theorem psum_small {t : List (List Int)} (h1 : t.length ≤ 1048576) (h2 : ∀ i, i < t.length → (row t i).length ≤ 1048576) : psum (fun i => (row t i).length) t.length ≤ 1099511627776 :=
  Nat.le_trans (psum_le t.length h2) (Nat.le_trans (Nat.mul_le_mul_right 1048576 h1) (by omega))

set_option maxHeartbeats 400000 in
theorem markGroupB_any (G : Nat) (t : List (List Int)) (w : World) (eo ei : TypeId) (hF : FreshT w G eo ei t) (hG : G + 1 + t.length ≤ w.heap.size) (h1 : t.length ≤ 1048576) (h2 : ∀ i, i < t.length → (row t i).length ≤ 1048576) :
    Calls Tryd.prog 21 #[.agg #[.slice (some ⟨G, 0, none⟩) t.length t.length], .int .i64 1] w fun e w' => ∃ r : Nat, e = .returned (.int .i64 (r : Int)) ∧ r ≤ 1099511627777 ∧ Below G w w' ∧ ∀ b, G + 1 + t.length ≤ b → b < w.heap.size → w'.heap[b]? = w.heap[b]? := by
  have hb0 : Below w.heap.size w (w.alloc (.cells #[.slice (some ⟨G, 0, none⟩) t.length t.length] 29)) := (Below.refl _ _).alloc (Nat.le_refl _) _
  have HRW := Lib.hid (hF.below hb0 hG).rw
  have HP := Lib.hid (psum_small h1 h2)
  have H2 := Lib.hid h2
  clear hF h2
  go_enter Tryd.func21, Tryd.ntmps21
  go_wp2_with fail
  refine (markInt64SS_any (some ⟨G, 0, none⟩) G 0 t.length t.length 1 _ _ _ _ _ _ (fun _ => rfl) HRW.out h1 H2.out (by have := HP.out; omega)).mono ?_
  rintro e w2 ⟨rfl, hu, _⟩
  have HU := Lib.hid hu
  clear hu
  go_wp2
  go_ret
  refine ⟨1 + psum (fun i => (row t i).length) t.length, rfl, by have := HP.out; omega, (hb0.mono (by omega)).trans (HU.out.below fun b o ⟨i, _, h⟩ => by have : b = G + 1 + i := h.1; omega), fun b hb hlt => ?_⟩
  refine (HU.out.block b fun o ⟨i, hi, h⟩ => ?_).trans (hb0.block b hlt)
  have : b = G + 1 + i := h.1
  omega

theorem markGroup_any (G : Nat) (t : List (List Int)) (w : World) (eo ei : TypeId) (hF : FreshT w G eo ei t) (hG : G + 1 + t.length ≤ w.heap.size) (h1 : t.length ≤ 1048576) (h2 : ∀ i, i < t.length → (row t i).length ≤ 1048576) :
    Calls Tryd.prog 21 #[.agg #[.slice (some ⟨G, 0, none⟩) t.length t.length], .int .i64 1] w fun e w' => ∃ r : Nat, e = .returned (.int .i64 (r : Int)) ∧ Below G w w' ∧ ∀ b, G + 1 + t.length ≤ b → b < w.heap.size → w'.heap[b]? = w.heap[b]? :=
  (markGroupB_any G t w eo ei hF hG h1 h2).mono fun _ _ ⟨r, h1, _, h2⟩ => ⟨r, h1, h2⟩

theorem Marked.below {w w' : World} {B b o n k : Nat} (h : Marked w b o n k) (hb : Below B w w') (hB : b < B) : Marked w' b o n k :=
  fun j hj => (cell_of_block (hb.block b hB) _).trans (h j hj)

set_option maxHeartbeats 400000 in
theorem markModule_any (G k : Nat) (m : Int) (n : Nat) (xs : List Int) (w : World) (e : TypeId) (hH : Has w G e (tab n fun j => .int .i64 (nth xs j))) (hn : n ≤ 1048576) (hk : k ≤ 8796093022208) :
    Calls Tryd.prog 35 #[.agg #[.int .i64 m, .slice (some ⟨G, 0, none⟩) n n], .int .i64 (k : Int)] w fun e w' => e = .returned (.int .i64 ((k + n : Nat) : Int)) ∧ Below G w w' ∧ w.heap.size ≤ w'.heap.size ∧ ∀ b, b ≠ G → b < w.heap.size → w'.heap[b]? = w.heap[b]? := by
  have hlt := hH.lt
  have hb0 : Below w.heap.size w (w.alloc (.cells #[.int .i64 m, .slice (some ⟨G, 0, none⟩) n n] 44)) := (Below.refl _ _).alloc (Nat.le_refl _) _
  have hz0 : (w.alloc (.cells #[.int .i64 m, .slice (some ⟨G, 0, none⟩) n n] 44)).heap.size = w.heap.size + 1 := by simp
  have hH0 := hH.alloc (.cells #[.int .i64 m, .slice (some ⟨G, 0, none⟩) n n] 44)
  have hmark := markInt64S_any (some ⟨G, 0, none⟩) G 0 n n k (w.alloc (.cells #[.int .i64 m, .slice (some ⟨G, 0, none⟩) n n] 44)) (fun _ => rfl) (fun j hj => ⟨⟨nth xs j, by rw [Nat.zero_add, hH0.cell, tab_get hj]⟩, hH0.free _⟩) hn hk
  have HM := Lib.hid hmark
  clear hH hH0 hmark
  go_enter Tryd.func35, Tryd.ntmps35
  go_wp2_with fail
  refine HM.out.mono ?_
  rintro e w2 ⟨rfl, hu, _⟩
  have HU := Lib.hid hu
  have HS := Lib.hid hu.size
  clear hu
  obtain ⟨r, hr⟩ : ∃ r : Int, ((k + n : Nat) : Int) = r := ⟨_, rfl⟩
  rw [hr]
  have HRR := Lib.hid hr
  clear hr
  go_wp2
  go_ret
  refine ⟨by rw [HRR.out]; rfl, (hb0.mono (by omega)).trans (HU.out.below fun b o h => by have : b = G := h.1; omega), by rw [HS.out, hz0]; omega, fun b hb hl => ?_⟩
  exact (HU.out.block b fun o h => hb h.1).trans (hb0.block b hl)

end Go.Proofs.YtdehalkebneaoaaDoor
