/- The laws' helpers that copy arguments into new memory. -/
import Derived.Test.YtdehalkebneaoaaDoorBase
namespace Go.Proofs.YtdehalkebneaoaaDoor
open Go.RowKit

set_option maxHeartbeats 400000 in
/-- toInt64S: a copy in one new block. -/
theorem toInt64S_any (A : Option Addr) (xs : List Int) (c B : Nat) (w : World) (hR : Ints w B A xs) (hB : B ≤ w.heap.size) (hn : xs.length ≤ 1048576) :
    Calls Tryd.prog 29 #[.slice A xs.length c] w fun e w' => e = .returned (.slice (some ⟨w.heap.size, 0, none⟩) xs.length xs.length) ∧ Below w.heap.size w w' ∧ w'.heap.size = w.heap.size + 1 ∧
      Has w' w.heap.size 2 (tab xs.length fun j => .int .i64 (nth xs j)) := by
  have hmk := makeI xs.length hn
  go_enter Tryd.func29, Tryd.ntmps29
  go_wp2
  clear hmk
  go_loopw [4] (fun i wr => ∃ k : Nat, k ≤ xs.length ∧ i = .int .i64 k ∧ Below w.heap.size w wr ∧ wr.heap.size = w.heap.size + 1 ∧ Has wr w.heap.size 2 (tab xs.length fun j => .int .i64 (if j < k then nth xs j else 0))) (fun i _ => xs.length - (intOf i).toNat)
  case atStart => exact ⟨0, by omega, rfl, (Below.refl _ _).alloc (Nat.le_refl _) _, by simp, by simpa using Has.new w _ _⟩
  case round =>
    obtain ⟨k, hk, rfl, hb, hz, hh⟩ := hrel
    by_cases hlt : k < xs.length
    · rcases hR with hR | ⟨b, o, rfl, hbB, hc⟩
      · subst hR; exact absurd hlt (by simp)
      have hcell := (hb.cell (p := ⟨b, o + k, none⟩) (by show b < _; omega)).trans (hc k hlt)
      have hcell2 := hh.cell k
      rw [tab_get hlt, if_neg (by omega)] at hcell2
      have hfree := hh.free k
      have HC := Lib.hid hc
      have HZ := Lib.hid hz
      clear hc hz
      go_wp2
      go_roundw
      case rel =>
        refine ⟨k + 1, by omega, by go_num, hb.setCell (Nat.le_refl _) _, by simp [HZ.out], ?_⟩
        have h2 := hh.put k (.int .i64 (nth xs k))
        rw [tab_set hlt] at h2
        rw [tab_congr (g := fun j => if j = k then .int .i64 (nth xs k) else .int .i64 (if j < k then nth xs j else 0))]
        · exact h2
        · intro j _
          by_cases h : j = k
          · subst h; simp
          · by_cases h3 : j < k
            · simp [h, h3, show j < k + 1 by omega]
            · simp [h, h3, show ¬ j < k + 1 by omega]
      case measure => simp [intOf]; omega
    · have hkk : k = xs.length := by omega
      subst hkk
      go_wp2
      go_ret
      refine ⟨rfl, hb, hz, ?_⟩
      rw [tab_congr (g := fun j => .int .i64 (if j < xs.length then nth xs j else 0))]
      · exact hh
      · intro j hj; rw [if_pos hj]

/-- What a slot of the new outer row holds when k rows are made. -/
def slotAt (G : Nat) (t : List (List Int)) (k i : Nat) : Value :=
  if i < k then .slice (some ⟨G + 1 + i, 0, none⟩) (row t i).length (row t i).length else .slice none 0 0

/-- k rows are made. -/
structure ToRel (w wr : World) (t : List (List Int)) (k : Nat) : Prop where
  low : Below w.heap.size w wr
  size : wr.heap.size = w.heap.size + 1 + k
  outer : Has wr w.heap.size 26 (tab t.length (slotAt w.heap.size t k))
  inner : ∀ i, i < k → Has wr (w.heap.size + 1 + i) 2 (tab (row t i).length fun j => .int .i64 (nth (row t i) j))

theorem ToRel.step {w wr w1 : World} {t : List (List Int)} {k : Nat} (h : ToRel w wr t k) (hk : k < t.length) (hb : Below wr.heap.size wr w1) (hz : w1.heap.size = wr.heap.size + 1)
    (hh : Has w1 wr.heap.size 2 (tab (row t k).length fun j => .int .i64 (nth (row t k) j))) :
    ToRel w (w1.setCell ⟨w.heap.size, k, none⟩ (.slice (some ⟨wr.heap.size, 0, none⟩) (row t k).length (row t k).length)) t (k + 1) := by
  have hs := h.size
  refine ⟨(h.low.trans (hb.mono (by omega))).setCell (Nat.le_refl _) _, by simp; omega, ?_, ?_⟩
  · have h2 := (h.outer.below hb (by omega)).put k (.slice (some ⟨wr.heap.size, 0, none⟩) (row t k).length (row t k).length)
    rw [tab_set hk] at h2
    rw [tab_congr (g := fun i => if i = k then .slice (some ⟨wr.heap.size, 0, none⟩) (row t k).length (row t k).length else slotAt w.heap.size t k i)]
    · exact h2
    · intro i _
      unfold slotAt
      by_cases e : i = k
      · subst e; simp [hs]
      · by_cases e2 : i < k
        · simp [e, e2, show i < k + 1 by omega]
        · simp [e, e2, show ¬ i < k + 1 by omega]
  · intro i hi
    by_cases e : i = k
    · subst e
      rw [← hs]
      exact hh.far (by show wr.heap.size ≠ w.heap.size; omega) _
    · exact ((h.inner i (by omega)).below hb (by omega)).far (by show _ ≠ w.heap.size; omega) _

theorem ToRel.fresh {w wr : World} {t : List (List Int)} (h : ToRel w wr t t.length) : FreshT wr w.heap.size 26 2 t :=
  ⟨by rw [tab_congr (g := slotAt w.heap.size t t.length)]
      · exact h.outer
      · intro i hi; simp [slotAt, hi], h.inner⟩

set_option maxHeartbeats 400000 in
/-- toInt64SS: a copy of a table in new blocks. -/
theorem toInt64SS_any (A : Option Addr) (t : List (List Int)) (c B : Nat) (w : World) (hR : Rws w B A t) (hB : B ≤ w.heap.size) (hn : t.length ≤ 1048576) (hl : ∀ i, i < t.length → (row t i).length ≤ 1048576) :
    Calls Tryd.prog 62 #[.slice A t.length c] w fun e w' => e = .returned (.slice (some ⟨w.heap.size, 0, none⟩) t.length t.length) ∧ Below w.heap.size w w' ∧ w'.heap.size = w.heap.size + 1 + t.length ∧
      FreshT w' w.heap.size 26 2 t := by
  have hmk := makeS t.length hn
  have HL := Lib.hid hl
  clear hl
  go_enter Tryd.func62, Tryd.ntmps62
  go_wp2
  clear hmk
  go_loopw [4] (fun i wr => ∃ k : Nat, k ≤ t.length ∧ i = .int .i64 k ∧ ToRel w wr t k) (fun i _ => t.length - (intOf i).toNat)
  case atStart => exact ⟨0, by omega, rfl, (Below.refl _ _).alloc (Nat.le_refl _) _, by simp, by rw [tab_congr (g := fun _ => .slice none 0 0) (fun i _ => show slotAt w.heap.size t 0 i = _ from if_neg (by omega))]; exact Has.new w _ _, fun i hi => absurd hi (by omega)⟩
  case round =>
    obtain ⟨k, hk, rfl, hT⟩ := hrel
    by_cases hlt : k < t.length
    · rcases hR with hR | ⟨b, o, rfl, hbB, hc⟩
      · subst hR; exact absurd hlt (by simp)
      obtain ⟨R, c1, hc1, hc2⟩ := hc k hlt
      have hcell := (hT.low.cell (p := ⟨b, o + k, none⟩) (by show b < _; omega)).trans hc1
      have HC := Lib.hid hc
      clear hc hc1
      go_wp2_with fail
      refine (toInt64S_any _ _ _ B _ (hc2.below hT.low hB) (by have := hT.low.size; omega) (HL.out k hlt)).mono ?_
      rintro e w1 ⟨rfl, hb1, hz1, hh1⟩
      have hT1 := hT.step hlt hb1 hz1 hh1
      have hs := hT.size
      have hcell2 := ((hT.outer.below hb1 (by omega)).cell k).trans (tab_get hlt)
      have hfree := (hT.outer.below hb1 (by omega)).free k
      have HS := Lib.hid hs
      have HZ := Lib.hid hz1
      clear hs hz1 hcell
      go_wp2
      go_roundw
      case rel => exact ⟨k + 1, by omega, by go_num, hT1⟩
      case measure => simp [intOf]; omega
    · have hkk : k = t.length := by omega
      subst hkk
      go_wp2
      go_ret
      exact ⟨rfl, hT.low, hT.size, hT.fresh⟩

set_option maxHeartbeats 400000 in
/-- toGroup: a copy of a group in new blocks. -/
theorem toGroup_any (A : Option Addr) (t : List (List Int)) (c B : Nat) (w : World) (hR : Rws w B A t) (hB : B ≤ w.heap.size) (hn : t.length ≤ 1048576) (hl : ∀ i, i < t.length → (row t i).length ≤ 1048576) :
    Calls Tryd.prog 17 #[.agg #[.slice A t.length c]] w fun e w' => ∃ G, e = .returned (.agg #[.slice (some ⟨G, 0, none⟩) t.length t.length]) ∧ w.heap.size ≤ G ∧ Below w.heap.size w w' ∧ G + 1 + t.length ≤ w'.heap.size ∧
      FreshT w' G 26 2 t := by
  go_enter Tryd.func17, Tryd.ntmps17
  go_wp2_with fail
  have H1 := ((Has.new w 24 #[.slice A t.length c]).alloc (.cells #[.slice none 0 0] 29)).alloc (.cells #[.slice none 0 0] 29)
  have H2 := (Has.new (w.alloc (.cells #[.slice A t.length c] 24)) 29 #[.slice none 0 0]).alloc (.cells #[.slice none 0 0] 29)
  have H3 := Has.new ((w.alloc (.cells #[.slice A t.length c] 24)).alloc (.cells #[.slice none 0 0] 29)) 29 #[.slice none 0 0]
  have hb : Below w.heap.size w (((w.alloc (.cells #[.slice A t.length c] 24)).alloc (.cells #[.slice none 0 0] 29)).alloc (.cells #[.slice none 0 0] 29)) :=
    (((Below.refl _ _).alloc (Nat.le_refl _) _).alloc (by simp) _).alloc (by simp; omega) _
  have hz : (((w.alloc (.cells #[.slice A t.length c] 24)).alloc (.cells #[.slice none 0 0] 29)).alloc (.cells #[.slice none 0 0] 29)).heap.size = w.heap.size + 1 + 1 + 1 := by simp
  simp only [World.size_alloc] at H1 H2 H3
  generalize (((w.alloc (.cells #[.slice A t.length c] 24)).alloc (.cells #[.slice none 0 0] 29)).alloc (.cells #[.slice none 0 0] 29)) = W at *
  refine (toInt64SS_any A t c B W (hR.below hb hB) (by omega) hn hl).mono ?_
  rintro e w1 ⟨rfl, hb1, hz1, hf⟩
  have H1' := H1.below hb1 H1.lt
  have H2' := H2.below hb1 H2.lt
  have H3' := H3.below hb1 H3.lt
  have c2 := H2'.cell 0
  have c3 := H3'.cell 0
  have f2 := H2'.free 0
  have f3 := H3'.free 0
  have HZ := Lib.hid hz
  have HZ1 := Lib.hid hz1
  clear hz hz1 H1 H2 H3
  go_wp2
  have H4 := (H2'.far (p := ⟨w.heap.size + 1 + 1, 0, none⟩) (by show w.heap.size + 1 ≠ w.heap.size + 1 + 1; omega) (.slice (some ⟨W.heap.size, 0, none⟩) t.length t.length)).put 0 (.slice (some ⟨W.heap.size, 0, none⟩) t.length t.length)
  have c4 := H4.cell 0
  have hW := HZ.out
  refine bodyPost_ret (v := .agg #[.slice (some ⟨W.heap.size, 0, none⟩) t.length t.length]) (by simp [results, Tryd.results17, go_sem, c4]) rfl ⟨W.heap.size, rfl, by omega, ?_, ?_, ?_⟩
  · exact ((hb.trans (hb1.mono (by omega))).setCell (by show w.heap.size ≤ w.heap.size + 1 + 1; omega) _).setCell (by show w.heap.size ≤ w.heap.size + 1; omega) _
  · have := HZ1.out
    simp
    omega
  · exact ⟨(hf.outer.far (by show W.heap.size ≠ w.heap.size + 1 + 1; omega) _).far (by show W.heap.size ≠ w.heap.size + 1; omega) _,
      fun i hi => ((hf.inner i hi).far (by show W.heap.size + 1 + i ≠ w.heap.size + 1 + 1; omega) _).far (by show W.heap.size + 1 + i ≠ w.heap.size + 1; omega) _⟩

end Go.Proofs.YtdehalkebneaoaaDoor
