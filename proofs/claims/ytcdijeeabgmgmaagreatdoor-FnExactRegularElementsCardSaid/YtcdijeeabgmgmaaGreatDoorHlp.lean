/- Sz To Eq Md Cd in one text. -/
import Derived.Test.YtcdijeeabgmgmaaGreatDoorProg
import Derived.Test.YtcdijeeabgmgmaaGreatDoorBa
/- The laws' helpers that measure arguments: what is accepted is short. -/
namespace Go.Proofs.YtcdijeeabgmgmaaGreatDoor
open Go.RowKit

/-- No more than L rows, and none longer than L. -/
def Small (t : List (List Int)) (L : Int) : Prop := (t.length : Int) ≤ L ∧ ∀ i, i < t.length → (((row t i).length : Nat) : Int) ≤ L

/-- What is left is less than 0, or the table is small. -/
def SzPost (t : List (List Int)) (left : Int) (w : World) (e : Ending) (w' : World) : Prop :=
  (∃ r : Int, e = .returned (.int .i64 r) ∧ (r = -1 ∨ (0 ≤ r ∧ r ≤ left ∧ Small t left))) ∧ w = w'

set_option maxHeartbeats 400000 in
theorem szInt64S_any (A : Option Addr) (n c : Nat) (left : Int) (w : World) (hn : n ≤ maxLen) (h0 : 0 ≤ left) (h1 : left ≤ 1048576) :
    Calls Tryz.prog 33 #[.slice A n c, .int .i64 left] w fun e w' => e = .returned (.int .i64 (if left < n then -1 else left - n)) ∧ w = w' := by
  unfold maxLen at hn
  by_cases h : left < n
  · go_enter Tryz.func33, Tryz.ntmps33
    go_wp2
    go_ret
    exact ⟨by simp, rfl⟩
  · go_enter Tryz.func33, Tryz.ntmps33
    go_wp2
    go_ret
    exact ⟨by simp, rfl⟩

set_option maxHeartbeats 400000 in
theorem szInt64SS_any (A : Option Addr) (t : List (List Int)) (c : Nat) (left : Int) (w : World) (B : Nat) (hR : Rws w B A t) (hn : t.length ≤ maxLen) (hl : ∀ i, i < t.length → (row t i).length ≤ maxLen) (h0 : 0 ≤ left) (h1 : left ≤ 1048576) :
    Calls Tryz.prog 32 #[.slice A t.length c, .int .i64 left] w (SzPost t left w) := by
  have hn' : t.length ≤ 9223372036854775807 := by unfold maxLen at hn; exact hn
  have HN := Lib.hid hn
  clear hn
  by_cases h : left < t.length
  · go_enter Tryz.func32, Tryz.ntmps32
    go_wp2
    go_ret
    exact ⟨⟨-1, rfl, .inl rfl⟩, rfl⟩
  · go_enter Tryz.func32, Tryz.ntmps32
    go_wp2
    go_loop [1, 5] (fun l i => ∃ (k : Nat) (r : Int), k ≤ t.length ∧ i = .int .i64 k ∧ l = .int .i64 r ∧ 0 ≤ r ∧ r ≤ left ∧ ∀ i, i < k → (((row t i).length : Nat) : Int) ≤ left) (fun _ i => t.length - (intOf i).toNat)
    case atStart => exact ⟨0, left - t.length, by omega, rfl, rfl, by omega, by omega, fun i hi => absurd hi (by omega)⟩
    case round =>
      obtain ⟨k, r, hk, rfl, rfl, hr0, hr1, hs⟩ := hrel
      by_cases hlt : k < t.length
      · have hlk := hl k hlt
        rcases hR with hR | ⟨b, o, rfl, hb, hc⟩
        · subst hR; exact absurd hlt (by simp)
        obtain ⟨R, c1, hcell, _⟩ := hc k hlt
        have HS := Lib.hid hs
        have HL := Lib.hid hl
        have HC := Lib.hid hc
        have HK := Lib.hid hlk
        clear hs hl hc hlk
        by_cases hz : r < (((row t k).length : Nat) : Int)
        · go_wp2_with (go_at_call 33; refine (szInt64S_any _ _ _ _ _ HK.out (by omega) (by omega)).mono ?_; rintro e w' ⟨rfl, rfl⟩)
          go_ret
          exact ⟨⟨-1, rfl, .inl rfl⟩, rfl⟩
        · go_wp2_with (go_at_call 33; refine (szInt64S_any _ _ _ _ _ HK.out (by omega) (by omega)).mono ?_; rintro e w' ⟨rfl, rfl⟩)
          go_round
          case rel => exact ⟨k + 1, r - (row t k).length, by omega, by go_num, by rw [if_neg (by omega)], by omega, by omega, fun i hi => by
            rcases Nat.lt_or_ge i k with h | h
            · exact HS.out i h
            · obtain rfl : i = k := by omega
              omega⟩
          case measure => simp [intOf]; omega
      · have hkk : k = t.length := by omega
        subst hkk
        go_wp2
        go_ret
        exact ⟨⟨r, rfl, .inr ⟨hr0, hr1, by omega, hs⟩⟩, rfl⟩

set_option maxHeartbeats 400000 in
theorem szGroup_any (A : Option Addr) (t : List (List Int)) (c : Nat) (left : Int) (w : World) (hR : Rws w w.heap.size A t) (hn : t.length ≤ maxLen) (hl : ∀ i, i < t.length → (row t i).length ≤ maxLen) (h0 : 0 ≤ left) (h1 : left ≤ 1048576) :
    Calls Tryz.prog 6 #[.agg #[.slice A t.length c], .int .i64 left] w fun e w' => SzPost t left (w.alloc (.cells #[.slice A t.length c] 24)) e w' := by
  go_enter Tryz.func6, Tryz.ntmps6
  go_wp2_with fail
  refine (szInt64SS_any _ _ _ _ _ w.heap.size (hR.below ((Below.refl _ _).alloc (Nat.le_refl _) _) (Nat.le_refl _)) hn hl h0 h1).mono ?_
  rintro e w' ⟨⟨r, rfl, hr⟩, rfl⟩
  rcases hr with rfl | ⟨hr0, hr1, hs⟩
  · go_wp2
    go_ret
    exact ⟨⟨-1, rfl, .inl rfl⟩, rfl⟩
  · go_wp2
    go_ret
    exact ⟨⟨r, rfl, .inr ⟨hr0, hr1, hs⟩⟩, rfl⟩

end Go.Proofs.YtcdijeeabgmgmaaGreatDoor

/- The laws' helpers that copy arguments into new memory. -/
namespace Go.Proofs.YtcdijeeabgmgmaaGreatDoor
open Go.RowKit

set_option maxHeartbeats 400000 in
/-- toInt64S: a copy in one new block. -/
theorem toInt64S_any (A : Option Addr) (xs : List Int) (c B : Nat) (w : World) (hR : Ints w B A xs) (hB : B ≤ w.heap.size) (hn : xs.length ≤ 1048576) :
    Calls Tryz.prog 27 #[.slice A xs.length c] w fun e w' => e = .returned (.slice (some ⟨w.heap.size, 0, none⟩) xs.length xs.length) ∧ Below w.heap.size w w' ∧ w'.heap.size = w.heap.size + 1 ∧
      Has w' w.heap.size 2 (tab xs.length fun j => .int .i64 (nth xs j)) := by
  have hmk := makeI xs.length hn
  go_enter Tryz.func27, Tryz.ntmps27
  go_wp2
  clear hmk
  go_loopw [4] (fun i wr => ∃ k : Nat, k ≤ xs.length ∧ i = .int .i64 k ∧ Below w.heap.size w wr ∧ wr.heap.size = w.heap.size + 1 ∧ Has wr w.heap.size 2 (tab xs.length fun j => .int .i64 (if j < k then nth xs j else 0))) (fun i _ => xs.length - (intOf i).toNat)
  case atStart => exact ⟨0, by omega, rfl, (Below.refl _ _).alloc (Nat.le_refl _) _, by simp, by simpa using Has.new w _ _⟩
  case round =>
    obtain ⟨k, hk, rfl, hb, hz, hh⟩ := hrel
    by_cases hlt : k < xs.length
    · rcases hR with hR | ⟨b, o, rfl, hbB, hc⟩
      · subst hR; exact absurd hlt (by simp)
      have hcell := (hb.cell (p := ⟨b, o + k, none⟩) (by show b < _; omega)).trans (hc k hlt)
      have hcell2 := hh.cell k
      rw [tab_get hlt, if_neg (by omega)] at hcell2
      have hfree := hh.free k
      have HC := Lib.hid hc
      have HZ := Lib.hid hz
      clear hc hz
      go_wp2
      go_roundw
      case rel =>
        refine ⟨k + 1, by omega, by go_num, hb.setCell (Nat.le_refl _) _, by simp [HZ.out], ?_⟩
        have h2 := hh.put k (.int .i64 (nth xs k))
        rw [tab_set hlt] at h2
        rw [tab_congr (g := fun j => if j = k then .int .i64 (nth xs k) else .int .i64 (if j < k then nth xs j else 0))]
        · exact h2
        · intro j _
          by_cases h : j = k
          · subst h; simp
          · by_cases h3 : j < k
            · simp [h, h3, show j < k + 1 by omega]
            · simp [h, h3, show ¬ j < k + 1 by omega]
      case measure => simp [intOf]; omega
    · have hkk : k = xs.length := by omega
      subst hkk
      go_wp2
      go_ret
      refine ⟨rfl, hb, hz, ?_⟩
      rw [tab_congr (g := fun j => .int .i64 (if j < xs.length then nth xs j else 0))]
      · exact hh
      · intro j hj; rw [if_pos hj]

/-- What a slot of the new outer row holds when k rows are made. -/
def slotAt (G : Nat) (t : List (List Int)) (k i : Nat) : Value :=
  if i < k then .slice (some ⟨G + 1 + i, 0, none⟩) (row t i).length (row t i).length else .slice none 0 0

/-- k rows are made. -/
structure ToRel (w wr : World) (t : List (List Int)) (k : Nat) : Prop where
  low : Below w.heap.size w wr
  size : wr.heap.size = w.heap.size + 1 + k
  outer : Has wr w.heap.size 25 (tab t.length (slotAt w.heap.size t k))
  inner : ∀ i, i < k → Has wr (w.heap.size + 1 + i) 2 (tab (row t i).length fun j => .int .i64 (nth (row t i) j))

theorem ToRel.step {w wr w1 : World} {t : List (List Int)} {k : Nat} (h : ToRel w wr t k) (hk : k < t.length) (hb : Below wr.heap.size wr w1) (hz : w1.heap.size = wr.heap.size + 1)
    (hh : Has w1 wr.heap.size 2 (tab (row t k).length fun j => .int .i64 (nth (row t k) j))) :
    ToRel w (w1.setCell ⟨w.heap.size, k, none⟩ (.slice (some ⟨wr.heap.size, 0, none⟩) (row t k).length (row t k).length)) t (k + 1) := by
  have hs := h.size
  refine ⟨(h.low.trans (hb.mono (by omega))).setCell (Nat.le_refl _) _, by simp; omega, ?_, ?_⟩
  · have h2 := (h.outer.below hb (by omega)).put k (.slice (some ⟨wr.heap.size, 0, none⟩) (row t k).length (row t k).length)
    rw [tab_set hk] at h2
    rw [tab_congr (g := fun i => if i = k then .slice (some ⟨wr.heap.size, 0, none⟩) (row t k).length (row t k).length else slotAt w.heap.size t k i)]
    · exact h2
    · intro i _
      unfold slotAt
      by_cases e : i = k
      · subst e; simp [hs]
      · by_cases e2 : i < k
        · simp [e, e2, show i < k + 1 by omega]
        · simp [e, e2, show ¬ i < k + 1 by omega]
  · intro i hi
    by_cases e : i = k
    · subst e
      rw [← hs]
      exact hh.far (by show wr.heap.size ≠ w.heap.size; omega) _
    · exact ((h.inner i (by omega)).below hb (by omega)).far (by show _ ≠ w.heap.size; omega) _

theorem ToRel.fresh {w wr : World} {t : List (List Int)} (h : ToRel w wr t t.length) : FreshT wr w.heap.size 25 2 t :=
  ⟨by rw [tab_congr (g := slotAt w.heap.size t t.length)]
      · exact h.outer
      · intro i hi; simp [slotAt, hi], h.inner⟩

set_option maxHeartbeats 400000 in
/-- toInt64SS: a copy of a table in new blocks. -/
theorem toInt64SS_any (A : Option Addr) (t : List (List Int)) (c B : Nat) (w : World) (hR : Rws w B A t) (hB : B ≤ w.heap.size) (hn : t.length ≤ 1048576) (hl : ∀ i, i < t.length → (row t i).length ≤ 1048576) :
    Calls Tryz.prog 36 #[.slice A t.length c] w fun e w' => e = .returned (.slice (some ⟨w.heap.size, 0, none⟩) t.length t.length) ∧ Below w.heap.size w w' ∧ w'.heap.size = w.heap.size + 1 + t.length ∧
      FreshT w' w.heap.size 25 2 t := by
  have hmk := makeS t.length hn
  have HL := Lib.hid hl
  clear hl
  go_enter Tryz.func36, Tryz.ntmps36
  go_wp2
  clear hmk
  go_loopw [4] (fun i wr => ∃ k : Nat, k ≤ t.length ∧ i = .int .i64 k ∧ ToRel w wr t k) (fun i _ => t.length - (intOf i).toNat)
  case atStart => exact ⟨0, by omega, rfl, (Below.refl _ _).alloc (Nat.le_refl _) _, by simp, by rw [tab_congr (g := fun _ => .slice none 0 0) (fun i _ => show slotAt w.heap.size t 0 i = _ from if_neg (by omega))]; exact Has.new w _ _, fun i hi => absurd hi (by omega)⟩
  case round =>
    obtain ⟨k, hk, rfl, hT⟩ := hrel
    by_cases hlt : k < t.length
    · rcases hR with hR | ⟨b, o, rfl, hbB, hc⟩
      · subst hR; exact absurd hlt (by simp)
      obtain ⟨R, c1, hc1, hc2⟩ := hc k hlt
      have hcell := (hT.low.cell (p := ⟨b, o + k, none⟩) (by show b < _; omega)).trans hc1
      have HC := Lib.hid hc
      clear hc hc1
      go_wp2_with fail
      refine (toInt64S_any _ _ _ B _ (hc2.below hT.low hB) (by have := hT.low.size; omega) (HL.out k hlt)).mono ?_
      rintro e w1 ⟨rfl, hb1, hz1, hh1⟩
      have hT1 := hT.step hlt hb1 hz1 hh1
      have hs := hT.size
      have hcell2 := ((hT.outer.below hb1 (by omega)).cell k).trans (tab_get hlt)
      have hfree := (hT.outer.below hb1 (by omega)).free k
      have HS := Lib.hid hs
      have HZ := Lib.hid hz1
      clear hs hz1 hcell
      go_wp2
      go_roundw
      case rel => exact ⟨k + 1, by omega, by go_num, hT1⟩
      case measure => simp [intOf]; omega
    · have hkk : k = t.length := by omega
      subst hkk
      go_wp2
      go_ret
      exact ⟨rfl, hT.low, hT.size, hT.fresh⟩

set_option maxHeartbeats 400000 in
/-- toGroup: a copy of a group in new blocks. -/
theorem toGroup_any (A : Option Addr) (t : List (List Int)) (c B : Nat) (w : World) (hR : Rws w B A t) (hB : B ≤ w.heap.size) (hn : t.length ≤ 1048576) (hl : ∀ i, i < t.length → (row t i).length ≤ 1048576) :
    Calls Tryz.prog 9 #[.agg #[.slice A t.length c]] w fun e w' => ∃ G, e = .returned (.agg #[.slice (some ⟨G, 0, none⟩) t.length t.length]) ∧ w.heap.size ≤ G ∧ Below w.heap.size w w' ∧ G + 1 + t.length ≤ w'.heap.size ∧
      FreshT w' G 25 2 t := by
  go_enter Tryz.func9, Tryz.ntmps9
  go_wp2_with fail
  have H1 := ((Has.new w 24 #[.slice A t.length c]).alloc (.cells #[.slice none 0 0] 32)).alloc (.cells #[.slice none 0 0] 32)
  have H2 := (Has.new (w.alloc (.cells #[.slice A t.length c] 24)) 32 #[.slice none 0 0]).alloc (.cells #[.slice none 0 0] 32)
  have H3 := Has.new ((w.alloc (.cells #[.slice A t.length c] 24)).alloc (.cells #[.slice none 0 0] 32)) 32 #[.slice none 0 0]
  have hb : Below w.heap.size w (((w.alloc (.cells #[.slice A t.length c] 24)).alloc (.cells #[.slice none 0 0] 32)).alloc (.cells #[.slice none 0 0] 32)) :=
    (((Below.refl _ _).alloc (Nat.le_refl _) _).alloc (by simp) _).alloc (by simp; omega) _
  have hz : (((w.alloc (.cells #[.slice A t.length c] 24)).alloc (.cells #[.slice none 0 0] 32)).alloc (.cells #[.slice none 0 0] 32)).heap.size = w.heap.size + 1 + 1 + 1 := by simp
  simp only [World.size_alloc] at H1 H2 H3
  generalize (((w.alloc (.cells #[.slice A t.length c] 24)).alloc (.cells #[.slice none 0 0] 32)).alloc (.cells #[.slice none 0 0] 32)) = W at *
  refine (toInt64SS_any A t c B W (hR.below hb hB) (by omega) hn hl).mono ?_
  rintro e w1 ⟨rfl, hb1, hz1, hf⟩
  have H1' := H1.below hb1 H1.lt
  have H2' := H2.below hb1 H2.lt
  have H3' := H3.below hb1 H3.lt
  have c2 := H2'.cell 0
  have c3 := H3'.cell 0
  have f2 := H2'.free 0
  have f3 := H3'.free 0
  have HZ := Lib.hid hz
  have HZ1 := Lib.hid hz1
  clear hz hz1 H1 H2 H3
  go_wp2
  have H4 := (H2'.far (p := ⟨w.heap.size + 1 + 1, 0, none⟩) (by show w.heap.size + 1 ≠ w.heap.size + 1 + 1; omega) (.slice (some ⟨W.heap.size, 0, none⟩) t.length t.length)).put 0 (.slice (some ⟨W.heap.size, 0, none⟩) t.length t.length)
  have c4 := H4.cell 0
  have hW := HZ.out
  refine bodyPost_ret (v := .agg #[.slice (some ⟨W.heap.size, 0, none⟩) t.length t.length]) (by simp [results, Tryz.results9, go_sem, c4]) rfl ⟨W.heap.size, rfl, by omega, ?_, ?_, ?_⟩
  · exact ((hb.trans (hb1.mono (by omega))).setCell (by show w.heap.size ≤ w.heap.size + 1 + 1; omega) _).setCell (by show w.heap.size ≤ w.heap.size + 1; omega) _
  · have := HZ1.out
    simp
    omega
  · exact ⟨(hf.outer.far (by show W.heap.size ≠ w.heap.size + 1 + 1; omega) _).far (by show W.heap.size ≠ w.heap.size + 1; omega) _,
      fun i hi => ((hf.inner i hi).far (by show W.heap.size + 1 + i ≠ w.heap.size + 1 + 1; omega) _).far (by show W.heap.size + 1 + i ≠ w.heap.size + 1; omega) _⟩

end Go.Proofs.YtcdijeeabgmgmaaGreatDoor

/- The laws' helpers that compare lists, tables and groups. -/
namespace Go.Proofs.YtcdijeeabgmgmaaGreatDoor
open Go.RowKit

theorem nth_ext {xs ys : List Int} (hl : xs.length = ys.length) (h : ∀ i, i < xs.length → nth xs i = nth ys i) : xs = ys := by
  apply List.ext_getElem hl
  intro i h1 h2
  have := h i h1
  simpa [nth, h1, h2] using this

theorem row_ext {t u : List (List Int)} (hl : t.length = u.length) (h : ∀ i, i < t.length → row t i = row u i) : t = u := by
  apply List.ext_getElem hl
  intro i h1 h2
  have := h i h1
  simpa [row, h1, h2] using this

set_option maxHeartbeats 400000 in
/-- eqInt64S: are two lists equal? -/
theorem eqInt64S_any (A A' : Option Addr) (xs ys : List Int) (c c' B B' : Nat) (w : World) (hx : Ints w B A xs) (hy : Ints w B' A' ys) (hn : xs.length ≤ 1048576) (hm : ys.length ≤ 1048576) :
    Calls Tryz.prog 12 #[.slice A xs.length c, .slice A' ys.length c'] w fun e w' => e = .returned (.bool (decide (xs = ys))) ∧ Drawn w w' := by
  by_cases hl : xs.length = ys.length
  · have hne : ((xs.length : Int) != (ys.length : Int)) = false := by simp [hl]
    have HLEN := Lib.hid hl
    clear hl
    go_enter Tryz.func12, Tryz.ntmps12
    go_wp2
    clear hne
    go_loopw [5] (fun i wr => ∃ k : Nat, k ≤ xs.length ∧ i = .int .i64 k ∧ Drawn w wr ∧ ∀ i, i < k → nth xs i = nth ys i) (fun i _ => xs.length - (intOf i).toNat)
    case atStart => exact ⟨0, by omega, rfl, Drawn.refl _, fun i hi => absurd hi (by omega)⟩
    case round =>
      obtain ⟨k, hk, rfl, hb, he⟩ := hrel
      have HE := Lib.hid he
      clear he
      by_cases hlt : k < xs.length
      · rcases hx with hx | ⟨b, o, rfl, hbB, hc⟩
        · subst hx; exact absurd hlt (by simp)
        have hlt2 : k < ys.length := by rw [← HLEN.out]; exact hlt
        rcases hy with hy | ⟨b', o', rfl, hbB', hc'⟩
        · subst hy; exact absurd hlt2 (by simp)
        have hcell := (hb.cell ⟨b, o + k, none⟩).trans (hc k hlt)
        have hcell' := (hb.cell ⟨b', o' + k, none⟩).trans (hc' k hlt2)
        have HC := Lib.hid hc
        have HC' := Lib.hid hc'
        clear hc hc'
        by_cases hq : nth xs k = nth ys k
        · have hq' : (nth xs k != nth ys k) = false := by simp [hq]
          have HQ := Lib.hid hq
          clear hq
          go_wp2
          go_quiet (fail)
          go_wp2
          go_roundw
          case rel => exact ⟨k + 1, by omega, by go_num, hb.more _, fun i hi => by
            rcases Nat.lt_or_ge i k with h | h
            · exact HE.out i h
            · obtain rfl : i = k := by omega
              exact HQ.out⟩
          case measure => simp [intOf]; omega
        · have hq' : (nth xs k != nth ys k) = true := by simp [hq]
          have HQ := Lib.hid hq
          clear hq
          go_wp2
          go_quiet (fail)
          go_wp2
          go_ret
          exact ⟨by rw [decide_eq_false (fun e => HQ.out (by rw [e]))]; rfl, hb.more _⟩
      · have hkk : k = xs.length := by omega
        subst hkk
        go_wp2
        go_ret
        exact ⟨by rw [decide_eq_true (nth_ext HLEN.out HE.out)]; rfl, hb⟩
  · have hne : ((xs.length : Int) != (ys.length : Int)) = true := by rw [bne_iff_ne]; omega
    have HLEN := Lib.hid hl
    clear hl
    go_enter Tryz.func12, Tryz.ntmps12
    go_wp2
    go_ret
    exact ⟨by rw [decide_eq_false (fun e => HLEN.out (by rw [e]))]; rfl, Drawn.refl _⟩

set_option maxHeartbeats 400000 in
/-- eqInt64SS: are two tables equal? -/
theorem eqInt64SS_any (A A' : Option Addr) (t u : List (List Int)) (c c' B B' : Nat) (w : World) (hx : Rws w B A t) (hy : Rws w B' A' u) (hn : t.length ≤ 1048576) (hm : u.length ≤ 1048576)
    (hn' : ∀ i, i < t.length → (row t i).length ≤ 1048576) (hm' : ∀ i, i < u.length → (row u i).length ≤ 1048576) :
    Calls Tryz.prog 21 #[.slice A t.length c, .slice A' u.length c'] w fun e w' => e = .returned (.bool (decide (t = u))) ∧ Drawn w w' := by
  have HN := Lib.hid hn'
  have HM := Lib.hid hm'
  clear hn' hm'
  by_cases hl : t.length = u.length
  · have hne : ((t.length : Int) != (u.length : Int)) = false := by simp [hl]
    have HLEN := Lib.hid hl
    clear hl
    go_enter Tryz.func21, Tryz.ntmps21
    go_wp2
    clear hne
    go_loopw [5] (fun i wr => ∃ k : Nat, k ≤ t.length ∧ i = .int .i64 k ∧ Drawn w wr ∧ ∀ i, i < k → row t i = row u i) (fun i _ => t.length - (intOf i).toNat)
    case atStart => exact ⟨0, by omega, rfl, Drawn.refl _, fun i hi => absurd hi (by omega)⟩
    case round =>
      obtain ⟨k, hk, rfl, hb, he⟩ := hrel
      have HE := Lib.hid he
      clear he
      by_cases hlt : k < t.length
      · rcases hx with hx | ⟨b, o, rfl, hbB, hc⟩
        · subst hx; exact absurd hlt (by simp)
        have hlt2 : k < u.length := by rw [← HLEN.out]; exact hlt
        rcases hy with hy | ⟨b', o', rfl, hbB', hc'⟩
        · subst hy; exact absurd hlt2 (by simp)
        obtain ⟨R, c1, h1, hI⟩ := hc k hlt
        obtain ⟨R', c1', h1', hI'⟩ := hc' k hlt2
        have hcell := (hb.cell ⟨b, o + k, none⟩).trans h1
        have hcell' := (hb.cell ⟨b', o' + k, none⟩).trans h1'
        have HC := Lib.hid hc
        have HC' := Lib.hid hc'
        clear hc hc' h1 h1'
        have HEQ := Lib.hid (eqInt64S_any R R' (row t k) (row u k) c1 c1' B B')
        have HI := Lib.hid (hb.ints hI)
        have HI' := Lib.hid (hb.ints hI')
        clear hI hI'
        by_cases hq : row t k = row u k
        · rw [decide_eq_true hq] at HEQ
          have HQ := Lib.hid hq
          clear hq
          go_wp2
          go_quiet ((go_at_call 12; exact Calls.quiet_of (HEQ.out _ HI.out HI'.out (HN.out k hlt) (HM.out k hlt2))))
          go_wp2
          go_roundw
          case rel => exact ⟨k + 1, by omega, by go_num, hb.more _, fun i hi => by
            rcases Nat.lt_or_ge i k with h | h
            · exact HE.out i h
            · obtain rfl : i = k := by omega
              exact HQ.out⟩
          case measure => simp [intOf]; omega
        · rw [decide_eq_false hq] at HEQ
          have HQ := Lib.hid hq
          clear hq
          go_wp2
          go_quiet ((go_at_call 12; exact Calls.quiet_of (HEQ.out _ HI.out HI'.out (HN.out k hlt) (HM.out k hlt2))))
          go_wp2
          go_ret
          exact ⟨by rw [decide_eq_false (fun e => HQ.out (by rw [e]))]; rfl, hb.more _⟩
      · have hkk : k = t.length := by omega
        subst hkk
        go_wp2
        go_ret
        exact ⟨by rw [decide_eq_true (row_ext HLEN.out HE.out)]; rfl, hb⟩
  · have hne : ((t.length : Int) != (u.length : Int)) = true := by rw [bne_iff_ne]; omega
    have HLEN := Lib.hid hl
    clear hl
    go_enter Tryz.func21, Tryz.ntmps21
    go_wp2
    go_ret
    exact ⟨by rw [decide_eq_false (fun e => HLEN.out (by rw [e]))]; rfl, Drawn.refl _⟩

set_option maxHeartbeats 400000 in
/-- eqGroup: are two groups equal? -/
theorem eqGroup_any (A A' : Option Addr) (t u : List (List Int)) (c c' B B' : Nat) (w : World) (hx : Rws w B A t) (hy : Rws w B' A' u) (hB : B ≤ w.heap.size) (hB' : B' ≤ w.heap.size) (hn : t.length ≤ 1048576) (hm : u.length ≤ 1048576)
    (hn' : ∀ i, i < t.length → (row t i).length ≤ 1048576) (hm' : ∀ i, i < u.length → (row u i).length ≤ 1048576) :
    Calls Tryz.prog 13 #[.agg #[.slice A t.length c], .agg #[.slice A' u.length c']] w fun e w' => e = .returned (.bool (decide (t = u))) ∧ Below w.heap.size w w' := by
  have hb0 : Below w.heap.size w ((w.alloc (.cells #[.slice A t.length c] 32)).alloc (.cells #[.slice A' u.length c'] 32)) := ((Below.refl _ _).alloc (Nat.le_refl _) _).alloc (by simp) _
  have HX := Lib.hid (hx.below hb0 hB)
  have HY := Lib.hid (hy.below hb0 hB')
  have HN := Lib.hid hn'
  have HM := Lib.hid hm'
  clear hx hy hn' hm'
  go_enter Tryz.func13, Tryz.ntmps13
  go_wp2_with fail
  refine (eqInt64SS_any A A' t u c c' B B' _ HX.out HY.out hn hm HN.out HM.out).mono ?_
  rintro e W1 ⟨rfl, hd⟩
  have hb1 := hb0.trans (hd.below w.heap.size)
  clear hd
  cases hq : decide (t = u)
  · have HQ := Lib.hid hq
    clear hq
    go_wp2
    go_ret
    exact ⟨by rw [HQ.out]; rfl, hb1⟩
  · have HQ := Lib.hid hq
    clear hq
    go_wp2
    go_ret
    exact ⟨by rw [HQ.out]; rfl, hb1⟩

end Go.Proofs.YtcdijeeabgmgmaaGreatDoor

/- The laws' helpers for modules: measure, copy, compare. -/
namespace Go.Proofs.YtcdijeeabgmgmaaGreatDoor
open Go.RowKit

set_option maxHeartbeats 400000 in
theorem szModule_any (A : Option Addr) (m : Int) (n c : Nat) (left : Int) (w : World) (hn : n ≤ maxLen) (h0 : 0 ≤ left) (h1 : left ≤ 1048576) :
    Calls Tryz.prog 24 #[.agg #[.int .i64 m, .slice A n c], .int .i64 left] w fun e w' => (∃ r : Int, e = .returned (.int .i64 r) ∧ (r = -1 ∨ (0 ≤ r ∧ r ≤ left ∧ (n : Int) ≤ left))) ∧ w' = w.alloc (.cells #[.int .i64 m, .slice A n c] 48) := by
  have HC := Lib.hid (szInt64S_any A n c left (w.alloc (.cells #[.int .i64 m, .slice A n c] 48)) hn h0 h1)
  unfold maxLen at hn
  by_cases h : left < n
  · rw [if_pos h] at HC
    go_enter Tryz.func24, Tryz.ntmps24
    go_wp2_with fail
    refine HC.out.mono ?_
    rintro e w' ⟨rfl, rfl⟩
    go_wp2
    go_ret
    exact ⟨⟨-1, rfl, .inl rfl⟩, rfl⟩
  · rw [if_neg h] at HC
    obtain ⟨r, hr⟩ : ∃ r, left - (n : Int) = r := ⟨_, rfl⟩
    rw [hr] at HC
    have hneg : decide (r < 0) = false := by simp; omega
    have HR := Lib.hid hr
    clear hr
    go_enter Tryz.func24, Tryz.ntmps24
    go_wp2_with fail
    refine HC.out.mono ?_
    rintro e w' ⟨rfl, rfl⟩
    go_wp2
    go_ret
    exact ⟨⟨r, rfl, .inr ⟨by have := HR.out; omega, by have := HR.out; omega, by omega⟩⟩, rfl⟩

set_option maxHeartbeats 800000 in
/-- toModule: a copy of a module, its list in one new block. -/
theorem toModule_any (A : Option Addr) (m : Int) (xs : List Int) (c B : Nat) (w : World) (hR : Ints w B A xs) (hB : B ≤ w.heap.size) (hn : xs.length ≤ 1048576) :
    Calls Tryz.prog 26 #[.agg #[.int .i64 m, .slice A xs.length c]] w fun e w' => ∃ G, e = .returned (.agg #[.int .i64 m, .slice (some ⟨G, 0, none⟩) xs.length xs.length]) ∧ w.heap.size ≤ G ∧ Below w.heap.size w w' ∧ G < w'.heap.size ∧
      Has w' G 2 (tab xs.length fun j => .int .i64 (nth xs j)) := by
  have HR := Lib.hid hR
  clear hR
  go_enter Tryz.func26, Tryz.ntmps26
  go_wp2_with fail
  have H1 := ((Has.new w 48 #[.int .i64 m, .slice A xs.length c]).alloc (.cells #[.int .i64 0, .slice none 0 0] 52)).alloc (.cells #[.int .i64 m, .slice none 0 0] 52)
  have H2 := (Has.new (w.alloc (.cells #[.int .i64 m, .slice A xs.length c] 48)) 52 #[.int .i64 0, .slice none 0 0]).alloc (.cells #[.int .i64 m, .slice none 0 0] 52)
  have H3 := Has.new ((w.alloc (.cells #[.int .i64 m, .slice A xs.length c] 48)).alloc (.cells #[.int .i64 0, .slice none 0 0] 52)) 52 #[.int .i64 m, .slice none 0 0]
  have hb : Below w.heap.size w (((w.alloc (.cells #[.int .i64 m, .slice A xs.length c] 48)).alloc (.cells #[.int .i64 0, .slice none 0 0] 52)).alloc (.cells #[.int .i64 m, .slice none 0 0] 52)) :=
    (((Below.refl _ _).alloc (Nat.le_refl _) _).alloc (by simp) _).alloc (by simp; omega) _
  have hz : (((w.alloc (.cells #[.int .i64 m, .slice A xs.length c] 48)).alloc (.cells #[.int .i64 0, .slice none 0 0] 52)).alloc (.cells #[.int .i64 m, .slice none 0 0] 52)).heap.size = w.heap.size + 1 + 1 + 1 := by simp
  simp only [World.size_alloc] at H1 H2 H3
  generalize (((w.alloc (.cells #[.int .i64 m, .slice A xs.length c] 48)).alloc (.cells #[.int .i64 0, .slice none 0 0] 52)).alloc (.cells #[.int .i64 m, .slice none 0 0] 52)) = W at *
  refine (toInt64S_any A xs c B W (HR.out.below hb hB) (by omega) hn).mono ?_
  rintro e w1 ⟨rfl, hb1, hz1, hf⟩
  have H1' := H1.below hb1 H1.lt
  have H2' := H2.below hb1 H2.lt
  have H3' := H3.below hb1 H3.lt
  have c3 := H3'.cell 0
  have c3' := H3'.cell 1
  have f3 := H3'.free 0
  have f3' := H3'.free 1
  have c2 := H2'.cell 0
  have c2' := H2'.cell 1
  have f2 := H2'.free 0
  have f2' := H2'.free 1
  have HZ := Lib.hid hz
  have HZ1 := Lib.hid hz1
  clear hz hz1 H1 H2 H3
  go_wp2
  have H4 := ((H2'.far (p := ⟨w.heap.size + 1 + 1, 1, none⟩) (by show w.heap.size + 1 ≠ w.heap.size + 1 + 1; omega) (.slice (some ⟨W.heap.size, 0, none⟩) xs.length xs.length)).put 0 (.int .i64 m)).put 1 (.slice (some ⟨W.heap.size, 0, none⟩) xs.length xs.length)
  have c4 := H4.cell 0
  have c4' := H4.cell 1
  have hW := HZ.out
  refine bodyPost_ret (v := .agg #[.int .i64 m, .slice (some ⟨W.heap.size, 0, none⟩) xs.length xs.length]) (by simp [results, Tryz.results26, go_sem, c4, c4']) rfl ⟨W.heap.size, rfl, by omega, ?_, ?_, ?_⟩
  · exact (((hb.trans (hb1.mono (by omega))).setCell (by show w.heap.size ≤ w.heap.size + 1 + 1; omega) _).setCell (by show w.heap.size ≤ w.heap.size + 1; omega) _).setCell (by show w.heap.size ≤ w.heap.size + 1; omega) _
  · have := HZ1.out
    simp
    omega
  · exact ((hf.far (by show W.heap.size ≠ w.heap.size + 1 + 1; omega) _).far (by show W.heap.size ≠ w.heap.size + 1; omega) _).far (by show W.heap.size ≠ w.heap.size + 1; omega) _

set_option maxHeartbeats 400000 in
/-- eqModule: are two modules equal? -/
theorem eqModule_any (A A' : Option Addr) (m m' : Int) (xs ys : List Int) (c c' B B' : Nat) (w : World) (hx : Ints w B A xs) (hy : Ints w B' A' ys) (hB : B ≤ w.heap.size) (hB' : B' ≤ w.heap.size) (hn : xs.length ≤ 1048576) (hm : ys.length ≤ 1048576) :
    Calls Tryz.prog 29 #[.agg #[.int .i64 m, .slice A xs.length c], .agg #[.int .i64 m', .slice A' ys.length c']] w fun e w' => e = .returned (.bool (decide (m = m') && decide (xs = ys))) ∧ Below w.heap.size w w' := by
  have hb0 : Below w.heap.size w ((w.alloc (.cells #[.int .i64 m, .slice A xs.length c] 52)).alloc (.cells #[.int .i64 m', .slice A' ys.length c'] 52)) := ((Below.refl _ _).alloc (Nat.le_refl _) _).alloc (by simp) _
  have HC := Lib.hid (eqInt64S_any A A' xs ys c c' B B' _ (hx.below hb0 hB) (hy.below hb0 hB') hn hm)
  clear hx hy
  by_cases hq : m = m'
  · have hq' : (m != m') = false := by simp [hq]
    have HQ := Lib.hid hq
    clear hq
    go_enter Tryz.func29, Tryz.ntmps29
    go_wp2_with fail
    refine HC.out.mono ?_
    rintro e W1 ⟨rfl, hd⟩
    have hb1 := hb0.trans (hd.below w.heap.size)
    clear hd
    cases hz : decide (xs = ys)
    · have HZ := Lib.hid hz
      clear hz
      go_wp2
      go_ret
      exact ⟨by rw [decide_eq_true HQ.out, HZ.out]; rfl, hb1⟩
    · have HZ := Lib.hid hz
      clear hz
      go_wp2
      go_ret
      exact ⟨by rw [decide_eq_true HQ.out, HZ.out]; rfl, hb1⟩
  · have hq' : (m != m') = true := by simp [hq]
    have HQ := Lib.hid hq
    clear hq
    go_enter Tryz.func29, Tryz.ntmps29
    go_wp2_with fail
    go_ret
    exact ⟨by rw [decide_eq_false HQ.out]; rfl, hb0⟩

theorem eqModule_same (A A' : Option Addr) (m : Int) (xs : List Int) (c c' B B' : Nat) (w : World) (hx : Ints w B A xs) (hy : Ints w B' A' xs) (hB : B ≤ w.heap.size) (hB' : B' ≤ w.heap.size) (hn : xs.length ≤ 1048576) :
    Calls Tryz.prog 29 #[.agg #[.int .i64 m, .slice A xs.length c], .agg #[.int .i64 m, .slice A' xs.length c']] w fun e w' => e = .returned (.bool true) ∧ Below w.heap.size w w' :=
  (eqModule_any A A' m m xs xs c c' B B' w hx hy hB hB' hn hn).mono fun _ _ ⟨h1, h2⟩ => ⟨by rw [h1]; simp, h2⟩

end Go.Proofs.YtcdijeeabgmgmaaGreatDoor

/- The laws' helpers for cochains: measure, copy, compare. -/
namespace Go.Proofs.YtcdijeeabgmgmaaGreatDoor
open Go.RowKit

set_option maxHeartbeats 400000 in
theorem szCochain_any (A : Option Addr) (m : Int) (n c : Nat) (left : Int) (w : World) (hn : n ≤ maxLen) (h0 : 0 ≤ left) (h1 : left ≤ 1048576) :
    Calls Tryz.prog 7 #[.agg #[.int .i64 m, .slice A n c], .int .i64 left] w fun e w' => (∃ r : Int, e = .returned (.int .i64 r) ∧ (r = -1 ∨ (0 ≤ r ∧ r ≤ left ∧ (n : Int) ≤ left))) ∧ w' = w.alloc (.cells #[.int .i64 m, .slice A n c] 27) := by
  have HC := Lib.hid (szInt64S_any A n c left (w.alloc (.cells #[.int .i64 m, .slice A n c] 27)) hn h0 h1)
  unfold maxLen at hn
  by_cases h : left < n
  · rw [if_pos h] at HC
    go_enter Tryz.func7, Tryz.ntmps7
    go_wp2_with fail
    refine HC.out.mono ?_
    rintro e w' ⟨rfl, rfl⟩
    go_wp2
    go_ret
    exact ⟨⟨-1, rfl, .inl rfl⟩, rfl⟩
  · rw [if_neg h] at HC
    obtain ⟨r, hr⟩ : ∃ r, left - (n : Int) = r := ⟨_, rfl⟩
    rw [hr] at HC
    have hneg : decide (r < 0) = false := by simp; omega
    have HR := Lib.hid hr
    clear hr
    go_enter Tryz.func7, Tryz.ntmps7
    go_wp2_with fail
    refine HC.out.mono ?_
    rintro e w' ⟨rfl, rfl⟩
    go_wp2
    go_ret
    exact ⟨⟨r, rfl, .inr ⟨by have := HR.out; omega, by have := HR.out; omega, by omega⟩⟩, rfl⟩

set_option maxHeartbeats 800000 in
/-- toCochain: a copy of a cochain, its list in one new block. -/
theorem toCochain_any (A : Option Addr) (m : Int) (xs : List Int) (c B : Nat) (w : World) (hR : Ints w B A xs) (hB : B ≤ w.heap.size) (hn : xs.length ≤ 1048576) :
    Calls Tryz.prog 10 #[.agg #[.int .i64 m, .slice A xs.length c]] w fun e w' => ∃ G, e = .returned (.agg #[.int .i64 m, .slice (some ⟨G, 0, none⟩) xs.length xs.length]) ∧ w.heap.size ≤ G ∧ Below w.heap.size w w' ∧ G < w'.heap.size ∧
      Has w' G 2 (tab xs.length fun j => .int .i64 (nth xs j)) := by
  have HR := Lib.hid hR
  clear hR
  go_enter Tryz.func10, Tryz.ntmps10
  go_wp2_with fail
  have H1 := ((Has.new w 27 #[.int .i64 m, .slice A xs.length c]).alloc (.cells #[.int .i64 0, .slice none 0 0] 34)).alloc (.cells #[.int .i64 m, .slice none 0 0] 34)
  have H2 := (Has.new (w.alloc (.cells #[.int .i64 m, .slice A xs.length c] 27)) 34 #[.int .i64 0, .slice none 0 0]).alloc (.cells #[.int .i64 m, .slice none 0 0] 34)
  have H3 := Has.new ((w.alloc (.cells #[.int .i64 m, .slice A xs.length c] 27)).alloc (.cells #[.int .i64 0, .slice none 0 0] 34)) 34 #[.int .i64 m, .slice none 0 0]
  have hb : Below w.heap.size w (((w.alloc (.cells #[.int .i64 m, .slice A xs.length c] 27)).alloc (.cells #[.int .i64 0, .slice none 0 0] 34)).alloc (.cells #[.int .i64 m, .slice none 0 0] 34)) :=
    (((Below.refl _ _).alloc (Nat.le_refl _) _).alloc (by simp) _).alloc (by simp; omega) _
  have hz : (((w.alloc (.cells #[.int .i64 m, .slice A xs.length c] 27)).alloc (.cells #[.int .i64 0, .slice none 0 0] 34)).alloc (.cells #[.int .i64 m, .slice none 0 0] 34)).heap.size = w.heap.size + 1 + 1 + 1 := by simp
  simp only [World.size_alloc] at H1 H2 H3
  generalize (((w.alloc (.cells #[.int .i64 m, .slice A xs.length c] 27)).alloc (.cells #[.int .i64 0, .slice none 0 0] 34)).alloc (.cells #[.int .i64 m, .slice none 0 0] 34)) = W at *
  refine (toInt64S_any A xs c B W (HR.out.below hb hB) (by omega) hn).mono ?_
  rintro e w1 ⟨rfl, hb1, hz1, hf⟩
  have H1' := H1.below hb1 H1.lt
  have H2' := H2.below hb1 H2.lt
  have H3' := H3.below hb1 H3.lt
  have c3 := H3'.cell 0
  have c3' := H3'.cell 1
  have f3 := H3'.free 0
  have f3' := H3'.free 1
  have c2 := H2'.cell 0
  have c2' := H2'.cell 1
  have f2 := H2'.free 0
  have f2' := H2'.free 1
  have HZ := Lib.hid hz
  have HZ1 := Lib.hid hz1
  clear hz hz1 H1 H2 H3
  go_wp2
  have H4 := ((H2'.far (p := ⟨w.heap.size + 1 + 1, 1, none⟩) (by show w.heap.size + 1 ≠ w.heap.size + 1 + 1; omega) (.slice (some ⟨W.heap.size, 0, none⟩) xs.length xs.length)).put 0 (.int .i64 m)).put 1 (.slice (some ⟨W.heap.size, 0, none⟩) xs.length xs.length)
  have c4 := H4.cell 0
  have c4' := H4.cell 1
  have hW := HZ.out
  refine bodyPost_ret (v := .agg #[.int .i64 m, .slice (some ⟨W.heap.size, 0, none⟩) xs.length xs.length]) (by simp [results, Tryz.results10, go_sem, c4, c4']) rfl ⟨W.heap.size, rfl, by omega, ?_, ?_, ?_⟩
  · exact (((hb.trans (hb1.mono (by omega))).setCell (by show w.heap.size ≤ w.heap.size + 1 + 1; omega) _).setCell (by show w.heap.size ≤ w.heap.size + 1; omega) _).setCell (by show w.heap.size ≤ w.heap.size + 1; omega) _
  · have := HZ1.out
    simp
    omega
  · exact ((hf.far (by show W.heap.size ≠ w.heap.size + 1 + 1; omega) _).far (by show W.heap.size ≠ w.heap.size + 1; omega) _).far (by show W.heap.size ≠ w.heap.size + 1; omega) _

set_option maxHeartbeats 400000 in
/-- eqCochain: are two cochains equal? -/
theorem eqCochain_any (A A' : Option Addr) (m m' : Int) (xs ys : List Int) (c c' B B' : Nat) (w : World) (hx : Ints w B A xs) (hy : Ints w B' A' ys) (hB : B ≤ w.heap.size) (hB' : B' ≤ w.heap.size) (hn : xs.length ≤ 1048576) (hm : ys.length ≤ 1048576) :
    Calls Tryz.prog 14 #[.agg #[.int .i64 m, .slice A xs.length c], .agg #[.int .i64 m', .slice A' ys.length c']] w fun e w' => e = .returned (.bool (decide (m = m') && decide (xs = ys))) ∧ Below w.heap.size w w' := by
  have hb0 : Below w.heap.size w ((w.alloc (.cells #[.int .i64 m, .slice A xs.length c] 34)).alloc (.cells #[.int .i64 m', .slice A' ys.length c'] 34)) := ((Below.refl _ _).alloc (Nat.le_refl _) _).alloc (by simp) _
  have HC := Lib.hid (eqInt64S_any A A' xs ys c c' B B' _ (hx.below hb0 hB) (hy.below hb0 hB') hn hm)
  clear hx hy
  by_cases hq : m = m'
  · have hq' : (m != m') = false := by simp [hq]
    have HQ := Lib.hid hq
    clear hq
    go_enter Tryz.func14, Tryz.ntmps14
    go_wp2_with fail
    refine HC.out.mono ?_
    rintro e W1 ⟨rfl, hd⟩
    have hb1 := hb0.trans (hd.below w.heap.size)
    clear hd
    cases hz : decide (xs = ys)
    · have HZ := Lib.hid hz
      clear hz
      go_wp2
      go_ret
      exact ⟨by rw [decide_eq_true HQ.out, HZ.out]; rfl, hb1⟩
    · have HZ := Lib.hid hz
      clear hz
      go_wp2
      go_ret
      exact ⟨by rw [decide_eq_true HQ.out, HZ.out]; rfl, hb1⟩
  · have hq' : (m != m') = true := by simp [hq]
    have HQ := Lib.hid hq
    clear hq
    go_enter Tryz.func14, Tryz.ntmps14
    go_wp2_with fail
    go_ret
    exact ⟨by rw [decide_eq_false HQ.out]; rfl, hb0⟩

theorem eqCochain_same (A A' : Option Addr) (m : Int) (xs : List Int) (c c' B B' : Nat) (w : World) (hx : Ints w B A xs) (hy : Ints w B' A' xs) (hB : B ≤ w.heap.size) (hB' : B' ≤ w.heap.size) (hn : xs.length ≤ 1048576) :
    Calls Tryz.prog 14 #[.agg #[.int .i64 m, .slice A xs.length c], .agg #[.int .i64 m, .slice A' xs.length c']] w fun e w' => e = .returned (.bool true) ∧ Below w.heap.size w w' :=
  (eqCochain_any A A' m m xs xs c c' B B' w hx hy hB hB' hn hn).mono fun _ _ ⟨h1, h2⟩ => ⟨by rw [h1]; simp, h2⟩

end Go.Proofs.YtcdijeeabgmgmaaGreatDoor
