/- IsG Prd Ord Mg in one text. -/
import Derived.Deep.RegionHeld3
import Derived.Laws.Rows
import Derived.IntWalk
import Derived.Test.YtcdijeeabgmgmaaGreatDoorSpA
import Derived.Test.YtcdijeeabgmgmaaGreatDoorIsg
import Derived.Test.YtcdijeeabgmgmaaGreatDoorBa
/- IsGroup, of the program and of the specification. -/
namespace Go.Proofs.YtcdijeeabgmgmaaGreatDoor
open Go.RowKit

set_option maxHeartbeats 1000000 in
theorem implIsGroup_any (A : Option Addr) (t : List (List Int)) (c B : Nat) (w : World) (hR : Rws w B A t) (hB : B ≤ w.heap.size) (hn : t.length ≤ 1048576) (hl : ∀ i, i < t.length → (row t i).length ≤ 1048576) :
    Calls Tryz.prog 79 #[.agg #[.slice A t.length c]] w fun e w' => e = .returned (.bool (grpB t)) ∧ Below w.heap.size w w' := by
  have hg := grpB_eq t
  have hb0 : Below w.heap.size w (w.alloc (.cells #[.slice A t.length c] 32)) := (Below.refl _ _).alloc (Nat.le_refl _) _
  have HG := Lib.hid hg
  clear hg
  cases hT : tabB t with
  | false =>
    have hcon := isTable_any A t c B (w.alloc (.cells #[.slice A t.length c] 32)) (hR.below hb0 hB) hn hl
    rw [hT] at hcon
    have HCON := Lib.hid hcon
    have HT := Lib.hid hT
    clear hT hcon hR hl
    go_enter Tryz.func79, Tryz.ntmps79
    go_wp2_with fail
    refine HCON.out.mono ?_
    rintro e w' ⟨rfl, rfl⟩
    go_wp2
    go_ret
    exact ⟨by rw [HG.out, HT.out]; rfl, hb0⟩
  | true =>
    have hcon := isTable_any A t c B (w.alloc (.cells #[.slice A t.length c] 32)) (hR.below hb0 hB) hn hl
    rw [hT] at hcon
    have HCON := Lib.hid hcon
    have hI : IsTab t := by simpa [tabB] using hT
    have HT := Lib.hid hT
    obtain ⟨b, o, bb, oo, C, rfl, hQ⟩ := hR.sq (by have := hI.n1; omega) hI.sq
    have HI := Lib.hid hI
    have hQ0 := hQ.below hb0 hB
    have HQ := Lib.hid hQ0
    have hz : (w.alloc (.cells #[.slice (some ⟨b, o, none⟩) t.length c] 32)).heap.size = w.heap.size + 1 := by simp
    have H1 := Has.new w 32 #[.slice (some ⟨b, o, none⟩) t.length c]
    clear hT hcon hR hl hI hQ hQ0
    go_enter Tryz.func79, Tryz.ntmps79
    go_wp2_with fail
    generalize (w.alloc (.cells #[.slice (some ⟨b, o, none⟩) t.length c] 32)) = W at *
    refine HCON.out.mono ?_
    rintro e w' ⟨rfl, rfl⟩
    clear HCON
    have hc1 := H1.cell 0
    have HZ := Lib.hid hz
    clear hz
    go_wp2_with fail
    refine (keepsElements_any t c B b o bb oo C _ HQ.out (by have := HZ.out; omega) HI.out).mono ?_
    rintro e W1 ⟨rfl, hb1⟩
    have hc2 := (H1.below hb1 H1.lt).cell 0
    have hz1 := hb1.size
    clear hc1
    cases hk : keepB t with
    | false =>
      have HK := Lib.hid hk
      clear hk
      go_wp2
      go_ret
      exact ⟨by rw [HG.out, HT.out, HK.out]; rfl, hb0.trans (hb1.mono (by have := HZ.out; omega))⟩
    | true =>
      have HK := Lib.hid hk
      clear hk
      go_wp2_with fail
      refine (ignoresBrackets_any t c B b o bb oo C _ (HQ.out.below hb1 (by have := HZ.out; omega)) (by have := HZ.out; omega) HI.out).mono ?_
      rintro e W2 ⟨rfl, hb2⟩
      have hb12 := hb1.trans (hb2.mono hz1)
      have hc3 := (H1.below hb12 H1.lt).cell 0
      have hz2 := hb12.size
      clear hc2
      cases ha : assocB t with
      | false =>
        have HA := Lib.hid ha
        clear ha
        go_wp2
        go_ret
        exact ⟨by rw [HG.out, HT.out, HK.out, HA.out]; rfl, hb0.trans (hb12.mono (by have := HZ.out; omega))⟩
      | true =>
        have HA := Lib.hid ha
        clear ha
        go_wp2_with fail
        refine (hasInverses_any t c B b o bb oo C _ (HQ.out.below hb12 (by have := HZ.out; omega)) (by have := HZ.out; omega) HI.out).mono ?_
        rintro e W3 ⟨rfl, hb3⟩
        go_wp2
        go_ret
        exact ⟨by rw [HG.out, HT.out, HK.out, HA.out]; rfl, hb0.trans ((hb12.trans (hb3.mono hz2)).mono (by have := HZ.out; omega))⟩


end Go.Proofs.YtcdijeeabgmgmaaGreatDoor

/- ProductOf, of the program and of the specification. -/
namespace Go.Proofs.YtcdijeeabgmgmaaGreatDoor
open Go.RowKit

theorem IsGrp.tab {t : List (List Int)} (h : IsGrp t) : IsTab t := (isGrp_iff.1 h).1

set_option maxHeartbeats 400000 in
theorem l01N_any (A : Option Addr) (n c : Nat) (w : World) (_ : n ≤ 1048576) :
    Calls Tryz.prog 40 #[.agg #[.slice A n c]] w fun e w' => e = .returned (.int .i64 n) ∧ w' = w.alloc (.cells #[.slice A n c] 32) := by
  go_enter Tryz.func40, Tryz.ntmps40
  go_wp2
  go_ret
  exact ⟨rfl, rfl⟩

/-- Are all numbers of a list elements of a group of n elements? -/
def InR (n : Nat) (xs : List Int) : Prop := ∀ i, i < xs.length → 0 ≤ nth xs i ∧ nth xs i < n

open Classical in
/-- The code of a group and elements. -/
noncomputable def elemR (t : List (List Int)) (xs : List Int) : Int := if IsGrp t then (if InR t.length xs then 0 else 2) else 1

set_option maxHeartbeats 1000000 in
theorem l01Elements_any (A L : Option Addr) (t : List (List Int)) (xs : List Int) (c c' B B' : Nat) (w : World) (hR : Rws w B A t) (hX : Ints w B' L xs) (hB : B ≤ w.heap.size) (hB' : B' ≤ w.heap.size)
    (hn : t.length ≤ 1048576) (hl : ∀ i, i < t.length → (row t i).length ≤ 1048576) (hx : xs.length ≤ 1048576) :
    Calls Tryz.prog 141 #[.agg #[.slice A t.length c], .slice L xs.length c'] w fun e w' => e = .returned (.int .i64 (elemR t xs)) ∧ Below w.heap.size w w' := by
  have hb0 : Below w.heap.size w (w.alloc (.cells #[.slice A t.length c] 32)) := (Below.refl _ _).alloc (Nat.le_refl _) _
  have h0 := Has.new w 32 #[.slice A t.length c]
  have hz0 : (w.alloc (.cells #[.slice A t.length c] 32)).heap.size = w.heap.size + 1 := by simp
  have hcon := l01Is_any A t c B _ (hR.below hb0 hB) (by rw [hz0]; omega) hn hl
  have hX0 := hX.below hb0 hB'
  cases hg : grpB t with
  | false =>
    have HG := Lib.hid hg
    rw [hg] at hcon
    have HCON := Lib.hid hcon
    clear hR hl hcon hX hX0 hg
    go_enter Tryz.func141, Tryz.ntmps141
    go_wp2_with fail
    refine HCON.out.mono ?_
    rintro e W1 ⟨rfl, hb1⟩
    go_wp2
    go_ret
    exact ⟨by rw [elemR, if_neg (fun h => by have := grpB_true h; rw [HG.out] at this; cases this)]; rfl, hb0.trans (hb1.mono (by omega))⟩
  | true =>
    have HG := Lib.hid (grpB_iff.1 hg)
    rw [hg] at hcon
    have HCON := Lib.hid hcon
    have HX0 := Lib.hid hX0
    clear hR hl hcon hX hX0 hg
    go_enter Tryz.func141, Tryz.ntmps141
    go_wp2_with fail
    generalize (w.alloc (.cells #[.slice A t.length c] 32)) = W0 at *
    refine HCON.out.mono ?_
    rintro e W1 ⟨rfl, hb1⟩
    clear HCON
    have hz1 := hb1.size
    have hX1 := HX0.out.below hb1 (by omega)
    have HX1 := Lib.hid hX1
    have h1 := h0.below hb1 h0.lt
    have hb01 := hb0.trans (hb1.mono (by omega))
    clear hX1 h0 hb0 hb1 HX0
    go_wp2
    go_loopw [5] (fun i wr => ∃ k : Nat, k ≤ xs.length ∧ i = .int .i64 k ∧ Below W1.heap.size W1 wr ∧ ∀ i, i < k → 0 ≤ nth xs i ∧ nth xs i < t.length) (fun i _ => xs.length - (intOf i).toNat)
    case atStart => exact ⟨0, by omega, rfl, Below.refl _ _, fun i hi => absurd hi (by omega)⟩
    case round =>
      obtain ⟨k, hk, rfl, hb, hs⟩ := hrel
      have HS := Lib.hid hs
      clear hs
      by_cases hlt : k < xs.length
      · obtain ⟨b, o, rfl, hbb, hcell⟩ := (HX1.out.below hb (by omega)).at_ hlt
        have hbox := (h1.below hb h1.lt).cell 0
        have hH : Has wr.drew w.heap.size 32 #[.slice A t.length c] := h1.below hb.drew h1.lt
        have hbt : b < wr.heap.size := by have := hb.size; omega
        have hkk : (0 : Int) ≤ k := by omega
        by_cases hrg : 0 ≤ nth xs k ∧ nth xs k ≤ t.length - 1
        · have HRG := Lib.hid hrg
          have hw1 : IntKind.i64.wrap ((t.length : Int) - 1) = (t.length : Int) - 1 := IntWalk.i64_in _ (by omega)
          clear hrg
          go_wp2_with fail
          go_region_held3 (fun w' => w'.cell? ⟨b, o + k, none⟩ = some (.int .i64 (nth xs k)) ∧ w'.cell? ⟨w.heap.size, 0, none⟩ = some (.slice A t.length c)) (go_keep)
            (first
              | (go_at_call 40; refine (l01N_any A t.length c _ hn).mono ?_; rintro e W2 ⟨rfl, rfl⟩)
              | (go_at_call 66; refine (l01In_yes _ _ _ _ HRG.out.1 HRG.out.2).mono ?_; rintro e W3 ⟨rfl, rfl⟩))
          go_wp2
          go_roundw
          case rel => exact ⟨k + 1, by omega, by go_num, hb.drew.alloc (by simp; exact hb.size) _, fun i hi => by
            rcases Nat.lt_or_ge i k with h | h
            · exact HS.out i h
            · obtain rfl : i = k := by omega
              have := HRG.out
              omega⟩
          case measure => simp [intOf]; omega
        · have HRG := Lib.hid hrg
          have hw1 : IntKind.i64.wrap ((t.length : Int) - 1) = (t.length : Int) - 1 := IntWalk.i64_in _ (by omega)
          clear hrg
          go_wp2_with fail
          go_region_held3 (fun w' => w'.cell? ⟨b, o + k, none⟩ = some (.int .i64 (nth xs k)) ∧ w'.cell? ⟨w.heap.size, 0, none⟩ = some (.slice A t.length c)) (go_keep)
            (first
              | (go_at_call 40; refine (l01N_any A t.length c _ hn).mono ?_; rintro e W2 ⟨rfl, rfl⟩)
              | (go_at_call 66; refine (l01In_no _ _ _ _ (by have := HRG.out; omega)).mono ?_; rintro e W3 ⟨rfl, rfl⟩))
          go_wp2
          go_ret
          exact ⟨by rw [elemR, if_pos HG.out, if_neg (fun h => HRG.out (by have := h k hlt; omega))]; rfl, hb01.trans ((hb.drew.alloc (by simp; exact hb.size) _).mono (by omega))⟩
      · have hkk : k = xs.length := by omega
        subst hkk
        go_wp2
        go_ret
        exact ⟨by rw [elemR, if_pos HG.out, if_pos (show InR t.length xs from HS.out)]; rfl, hb01.trans (hb.mono (by omega))⟩

/-- The product of two elements, and the code. -/
noncomputable def productR (t : List (List Int)) (a b : Int) : Int × Int :=
  if elemR t [a, b] = 0 then (nth (row t a.toNat) b.toNat, 0) else (0, elemR t [a, b])

theorem productR_grp {t : List (List Int)} {a b : Int} (h : IsGrp t) (ha : 0 ≤ a ∧ a < t.length) (hb : 0 ≤ b ∧ b < t.length) : productR t a b = (nth (row t a.toNat) b.toNat, 0) := by
  have hi : InR t.length [a, b] := fun i hi => by
    match i, hi with
    | 0, _ => exact ha
    | 1, _ => exact hb
  rw [productR, elemR, if_pos h, if_pos hi, if_pos rfl]
theorem productR_out {t : List (List Int)} {a b : Int} (h : IsGrp t) (hn : ¬ ((0 ≤ a ∧ a < t.length) ∧ (0 ≤ b ∧ b < t.length))) : productR t a b = (0, 2) := by
  have hi : ¬ InR t.length [a, b] := fun hi => hn ⟨hi 0 (by simp), hi 1 (by simp)⟩
  rw [productR, elemR, if_pos h, if_neg hi, if_neg (by omega)]
theorem productR_none {t : List (List Int)} {a b : Int} (h : ¬ IsGrp t) : productR t a b = (0, 1) := by
  rw [productR, elemR, if_neg h, if_neg (by omega)]

set_option maxHeartbeats 400000 in
theorem isElement_any (A : Option Addr) (n c : Nat) (a : Int) (w : World) (hn : n ≤ 1048576) :
    Calls Tryz.prog 154 #[.agg #[.slice A n c], .int .i64 a] w fun e w' => e = .returned (.bool (decide (0 ≤ a ∧ a < n))) ∧ Below w.heap.size w w' := by
  have hb0 : Below w.heap.size w (w.alloc (.cells #[.slice A n c] 32)) := (Below.refl _ _).alloc (Nat.le_refl _) _
  have hb1 : Below w.heap.size w ((w.alloc (.cells #[.slice A n c] 32)).alloc (.cells #[.slice A n c] 32)) := hb0.alloc (by simp) _
  by_cases ha : 0 ≤ a
  · by_cases h : a < n
    · go_enter Tryz.func154, Tryz.ntmps154
      go_wp2_with (go_at_call 110; refine (groupOrder_any A n c _ hn).mono ?_; rintro e w' ⟨rfl, rfl⟩)
      go_ret
      exact ⟨by simp [ha, h], hb1⟩
    · go_enter Tryz.func154, Tryz.ntmps154
      go_wp2_with (go_at_call 110; refine (groupOrder_any A n c _ hn).mono ?_; rintro e w' ⟨rfl, rfl⟩)
      go_ret
      exact ⟨by simp; omega, hb1⟩
  · go_enter Tryz.func154, Tryz.ntmps154
    go_wp2
    go_ret
    exact ⟨by simp; omega, hb0⟩


end Go.Proofs.YtcdijeeabgmgmaaGreatDoor

/- Orders of elements, of the program and of the specification. -/
namespace Go.Proofs.YtcdijeeabgmgmaaGreatDoor
open Go.RowKit

theorem SqT.mul_ {w : World} {B b o : Nat} {bb oo C : Nat → Nat} {t : List (List Int)} (h : SqT w B b o bb oo C t) (hg : IsGrp t) {i j : Nat} (hi : i < t.length) (hj : j < t.length) :
    w.cell? ⟨bb i, oo i + j, none⟩ = some (.int .i64 (mul t i j : Int)) := by
  rw [h.ent_ hi hj, hg.ent hi hj]

/-- The orders of all elements, none where there is no group; and the code. -/
noncomputable def ordersR (t : List (List Int)) : List Int := if grpB t then (List.range t.length).map fun a => (ord t a : Int) else []
noncomputable def codeR (t : List (List Int)) : Int := if grpB t then 0 else 1

end Go.Proofs.YtcdijeeabgmgmaaGreatDoor

/- Marks in a group that was copied, and what stays of other blocks. -/
namespace Go.Proofs.YtcdijeeabgmgmaaGreatDoor
open Go.RowKit

theorem FreshT.rw {w : World} {G : Nat} {eo ei : TypeId} {t : List (List Int)} (h : FreshT w G eo ei t) :
    RW w G 0 t.length (fun i => some ⟨G + 1 + i, 0, none⟩) (fun i => G + 1 + i) (fun _ => 0) (fun i => (row t i).length) (fun i => (row t i).length) where
  outer i hi := by rw [Nat.zero_add, h.outer.cell, tab_get hi]
  addr _ _ _ := rfl
  wr i hi j hj := ⟨⟨nth (row t i) j, by rw [Nat.zero_add, (h.inner i hi).cell, tab_get hj]⟩, (h.inner i hi).free _⟩
  apart i _ i' _ hne o' hh := by
    have := hh.1.1
    exact hne (by omega)
  off i _ _ := by omega

theorem psum_small {t : List (List Int)} (h1 : t.length ≤ 1048576) (h2 : ∀ i, i < t.length → (row t i).length ≤ 1048576) : psum (fun i => (row t i).length) t.length ≤ 1099511627776 :=
  Nat.le_trans (psum_le t.length h2) (Nat.le_trans (Nat.mul_le_mul_right 1048576 h1) (by omega))

set_option maxHeartbeats 400000 in
theorem markGroupB_any (G : Nat) (t : List (List Int)) (w : World) (eo ei : TypeId) (hF : FreshT w G eo ei t) (hG : G + 1 + t.length ≤ w.heap.size) (h1 : t.length ≤ 1048576) (h2 : ∀ i, i < t.length → (row t i).length ≤ 1048576) :
    Calls Tryz.prog 15 #[.agg #[.slice (some ⟨G, 0, none⟩) t.length t.length], .int .i64 1] w fun e w' => ∃ r : Nat, e = .returned (.int .i64 (r : Int)) ∧ r ≤ 1099511627777 ∧ Below G w w' ∧ ∀ b, G + 1 + t.length ≤ b → b < w.heap.size → w'.heap[b]? = w.heap[b]? := by
  have hb0 : Below w.heap.size w (w.alloc (.cells #[.slice (some ⟨G, 0, none⟩) t.length t.length] 32)) := (Below.refl _ _).alloc (Nat.le_refl _) _
  have HRW := Lib.hid (hF.below hb0 hG).rw
  have HP := Lib.hid (psum_small h1 h2)
  have H2 := Lib.hid h2
  clear hF h2
  go_enter Tryz.func15, Tryz.ntmps15
  go_wp2_with fail
  refine (markInt64SS_any (some ⟨G, 0, none⟩) G 0 t.length t.length 1 _ _ _ _ _ _ (fun _ => rfl) HRW.out h1 H2.out (by have := HP.out; omega)).mono ?_
  rintro e w2 ⟨rfl, hu, _⟩
  have HU := Lib.hid hu
  clear hu
  go_wp2
  go_ret
  refine ⟨1 + psum (fun i => (row t i).length) t.length, rfl, by have := HP.out; omega, (hb0.mono (by omega)).trans (HU.out.below fun b o ⟨i, _, h⟩ => by have : b = G + 1 + i := h.1; omega), fun b hb hlt => ?_⟩
  refine (HU.out.block b fun o ⟨i, hi, h⟩ => ?_).trans (hb0.block b hlt)
  have : b = G + 1 + i := h.1
  omega

theorem markGroup_any (G : Nat) (t : List (List Int)) (w : World) (eo ei : TypeId) (hF : FreshT w G eo ei t) (hG : G + 1 + t.length ≤ w.heap.size) (h1 : t.length ≤ 1048576) (h2 : ∀ i, i < t.length → (row t i).length ≤ 1048576) :
    Calls Tryz.prog 15 #[.agg #[.slice (some ⟨G, 0, none⟩) t.length t.length], .int .i64 1] w fun e w' => ∃ r : Nat, e = .returned (.int .i64 (r : Int)) ∧ Below G w w' ∧ ∀ b, G + 1 + t.length ≤ b → b < w.heap.size → w'.heap[b]? = w.heap[b]? :=
  (markGroupB_any G t w eo ei hF hG h1 h2).mono fun _ _ ⟨r, h1, _, h2⟩ => ⟨r, h1, h2⟩

theorem Marked.below {w w' : World} {B b o n k : Nat} (h : Marked w b o n k) (hb : Below B w w') (hB : b < B) : Marked w' b o n k :=
  fun j hj => (cell_of_block (hb.block b hB) _).trans (h j hj)

set_option maxHeartbeats 400000 in
theorem markModule_any (G k : Nat) (m : Int) (n : Nat) (xs : List Int) (w : World) (e : TypeId) (hH : Has w G e (tab n fun j => .int .i64 (nth xs j))) (hn : n ≤ 1048576) (hk : k ≤ 8796093022208) :
    Calls Tryz.prog 30 #[.agg #[.int .i64 m, .slice (some ⟨G, 0, none⟩) n n], .int .i64 (k : Int)] w fun e w' => e = .returned (.int .i64 ((k + n : Nat) : Int)) ∧ Below G w w' ∧ w.heap.size ≤ w'.heap.size ∧ ∀ b, b ≠ G → b < w.heap.size → w'.heap[b]? = w.heap[b]? := by
  have hlt := hH.lt
  have hb0 : Below w.heap.size w (w.alloc (.cells #[.int .i64 m, .slice (some ⟨G, 0, none⟩) n n] 52)) := (Below.refl _ _).alloc (Nat.le_refl _) _
  have hz0 : (w.alloc (.cells #[.int .i64 m, .slice (some ⟨G, 0, none⟩) n n] 52)).heap.size = w.heap.size + 1 := by simp
  have hH0 := hH.alloc (.cells #[.int .i64 m, .slice (some ⟨G, 0, none⟩) n n] 52)
  have hmark := markInt64S_any (some ⟨G, 0, none⟩) G 0 n n k (w.alloc (.cells #[.int .i64 m, .slice (some ⟨G, 0, none⟩) n n] 52)) (fun _ => rfl) (fun j hj => ⟨⟨nth xs j, by rw [Nat.zero_add, hH0.cell, tab_get hj]⟩, hH0.free _⟩) hn hk
  have HM := Lib.hid hmark
  clear hH hH0 hmark
  go_enter Tryz.func30, Tryz.ntmps30
  go_wp2_with fail
  refine HM.out.mono ?_
  rintro e w2 ⟨rfl, hu, _⟩
  have HU := Lib.hid hu
  have HS := Lib.hid hu.size
  clear hu
  obtain ⟨r, hr⟩ : ∃ r : Int, ((k + n : Nat) : Int) = r := ⟨_, rfl⟩
  rw [hr]
  have HRR := Lib.hid hr
  clear hr
  go_wp2
  go_ret
  refine ⟨by rw [HRR.out]; rfl, (hb0.mono (by omega)).trans (HU.out.below fun b o h => by have : b = G := h.1; omega), by rw [HS.out, hz0]; omega, fun b hb hl => ?_⟩
  exact (HU.out.block b fun o h => hb h.1).trans (hb0.block b hl)

end Go.Proofs.YtcdijeeabgmgmaaGreatDoor
