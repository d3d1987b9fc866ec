/- ImA ImB ImC in one text. -/
import Derived.Test.YtcdijeeabgmgmaaGreatDoorBa
/- The program's test for tables. -/
namespace Go.Proofs.YtcdijeeabgmgmaaGreatDoor
open Go.RowKit

set_option maxHeartbeats 400000 in
theorem isTable_any (A : Option Addr) (t : List (List Int)) (c B : Nat) (w : World) (hR : Rws w B A t) (hn : t.length ≤ 1048576) (hl : ∀ i, i < t.length → (row t i).length ≤ 1048576) :
    Calls Tryz.prog 114 #[.slice A t.length c] w fun e w' => e = .returned (.bool (tabB t)) ∧ w = w' := by
  have HL := Lib.hid hl
  clear hl
  by_cases h1 : t.length < 1
  · go_enter Tryz.func114, Tryz.ntmps114
    go_wp2
    go_ret
    exact ⟨by rw [show tabB t = false by simp only [tabB, decide_eq_false_iff_not]; exact fun h => by have := h.n1; omega]; rfl, rfl⟩
  by_cases h8 : 8 < t.length
  · go_enter Tryz.func114, Tryz.ntmps114
    go_wp2
    go_ret
    exact ⟨by rw [show tabB t = false by simp only [tabB, decide_eq_false_iff_not]; exact fun h => by have := h.n8; omega]; simp, rfl⟩
  obtain ⟨b, o, R, C, rfl, hT⟩ := hR.tab (by omega)
  have HT := Lib.hid hT
  clear hT hR
  go_enter Tryz.func114, Tryz.ntmps114
  go_wp2
  go_loop [18] (fun a => ∃ k : Nat, k ≤ t.length ∧ a = .int .i64 k ∧ ∀ a, a < k → (row t a).length = t.length ∧ ∀ b, b < t.length → 0 ≤ nth (row t a) b ∧ nth (row t a) b < t.length) (fun a => t.length - (intOf a).toNat)
  case atStart => exact ⟨0, by omega, rfl, fun i hi => absurd hi (by omega)⟩
  case round =>
    obtain ⟨k, hk, rfl, hs⟩ := hrel
    have HS := Lib.hid hs
    clear hs
    by_cases hlt : k < t.length
    · have hrow := HT.out.row_ hlt
      by_cases hlen : (row t k).length = t.length
      · have hne : (((row t k).length : Int) != (t.length : Int)) = false := by simp [hlen]
        have HLEN := Lib.hid hlen
        have hl8 : (row t k).length ≤ 8 := by omega
        clear hlen
        go_wp2
        clear hne hrow
        go_loop [28] (fun a => ∃ j : Nat, j ≤ (row t k).length ∧ a = .int .i64 j ∧ ∀ b, b < j → 0 ≤ nth (row t k) b ∧ nth (row t k) b < t.length) (fun a => (row t k).length - (intOf a).toNat)
        case atStart => exact ⟨0, by omega, rfl, fun i hi => absurd hi (by omega)⟩
        case round =>
          obtain ⟨j, hj, rfl, hs2⟩ := hrel
          have HS2 := Lib.hid hs2
          clear hs2
          by_cases hlt2 : j < (row t k).length
          · obtain ⟨b', o', hR', hb', hcell⟩ := HT.out.ent_ hlt hlt2
            rw [hR']
            clear hR'
            by_cases hrg : nth (row t k) j < 0
            · go_wp2
              go_ret
              exact ⟨by rw [show tabB t = false by simp only [tabB, decide_eq_false_iff_not]; exact fun h => by have := h.rng k hlt j (by rw [← HLEN.out]; exact hlt2); omega]; rfl, rfl⟩
            · by_cases hrg2 : (t.length : Int) ≤ nth (row t k) j
              · go_wp2
                go_ret
                exact ⟨by rw [show tabB t = false by simp only [tabB, decide_eq_false_iff_not]; exact fun h => by have := h.rng k hlt j (by rw [← HLEN.out]; exact hlt2); omega]; rfl, rfl⟩
              · go_wp2
                go_round
                case rel => exact ⟨j + 1, by omega, by go_num, fun i hi => by
                  rcases Nat.lt_or_ge i j with h | h
                  · exact HS2.out i h
                  · obtain rfl : i = j := by omega
                    omega⟩
                case measure => simp [intOf]; omega
          · have hjj : j = (row t k).length := by omega
            subst hjj
            go_wp2
            go_round
            case rel => exact ⟨k + 1, by omega, by go_num, fun i hi => by
              rcases Nat.lt_or_ge i k with h | h
              · exact HS.out i h
              · obtain rfl : i = k := by omega
                exact ⟨HLEN.out, fun b hb => HS2.out b (by rw [HLEN.out]; exact hb)⟩⟩
            case measure => simp [intOf]; omega
      · have hne : (((row t k).length : Int) != (t.length : Int)) = true := by rw [bne_iff_ne]; omega
        have HLEN := Lib.hid hlen
        clear hlen
        go_wp2
        go_ret
        exact ⟨by rw [show tabB t = false by simp only [tabB, decide_eq_false_iff_not]; exact fun h => HLEN.out (h.sq k hlt)]; rfl, rfl⟩
    · have hkk : k = t.length := by omega
      subst hkk
      go_wp2
      go_ret
      exact ⟨by rw [show tabB t = true by simp only [tabB, decide_eq_true_eq]; exact ⟨by omega, by omega, fun a h => (HS.out a h).1, fun a h => (HS.out a h).2⟩]; rfl, rfl⟩

end Go.Proofs.YtcdijeeabgmgmaaGreatDoor

/- The program's three tests behind the test for tables. -/
namespace Go.Proofs.YtcdijeeabgmgmaaGreatDoor
open Go.RowKit Go.Shelf

attribute [local go_sem] Oper.semAt_some

/-- Is 0 a = a 0 = a at this element? -/
def KeepAt (t : List (List Int)) (a : Nat) : Prop := nth (row t 0) a = a ∧ nth (row t a) 0 = a

theorem keepB_true {t : List (List Int)} (h : ∀ x : Fin t.length, KeepAt t x.val) : keepB t = true := by
  simp only [keepB, decide_eq_true_eq]
  exact fun a ha => h ⟨a, ha⟩
theorem keepB_false {t : List (List Int)} (h : ∃ x : Fin t.length, ¬ KeepAt t x.val) : keepB t = false := by
  simp only [keepB, decide_eq_false_iff_not]
  obtain ⟨x, hx⟩ := h
  exact fun hk => hx (hk x.val x.isLt)

set_option maxRecDepth 100000 in
set_option maxHeartbeats 1000000 in
theorem keepsElements_any (t : List (List Int)) (c B b o : Nat) (bb oo C : Nat → Nat) (w : World) (hQ : SqT w B b o bb oo C t) (hB : B ≤ w.heap.size) (hI : IsTab t) :
    Calls Tryz.prog 115 #[.agg #[.slice (some ⟨b, o, none⟩) t.length c]] w fun e w' => e = .returned (.bool (keepB t)) ∧ Below w.heap.size w w' := by
  have hn1 := hI.n1
  have hn8 := hI.n8
  have HI := Lib.hid hI
  have HQ := Lib.hid hQ
  clear hI hQ
  refine (callsIn_wide (n := 8)).1 ?_
  refine callsIn_of_wp_marks Tryz.func115 rfl trivial ?_ rfl
  simp only [Tryz.ntmps115, List.size_toArray, List.length_cons, List.length_nil, Nat.reduceAdd, Nat.reduceSub, Array.replicate_succ, Array.replicate_zero, List.push_toArray, List.append_toArray, List.nil_append, List.cons_append]
  gi_wp2_with (refine ⟨trivial, ?_⟩; gi_at_call 74; refine (callsIn_wide.2 (elementsOf_any _ t.length c _)).mono ?_; rintro e w' ⟨rfl, rfl⟩)
  have bG := ((Boxed.new w 32 (.slice (some ⟨b, o, none⟩) t.length c)).alloc (.cells #[.bool false] 4)).alloc (.cells #[.slice (some ⟨b, o, none⟩) t.length c] 32)
  have bR := (Boxed.new (w.alloc (.cells #[.slice (some ⟨b, o, none⟩) t.length c] 32)) 4 (.bool false)).alloc (.cells #[.slice (some ⟨b, o, none⟩) t.length c] 32)
  have bE := Boxed.new ((w.alloc (.cells #[.slice (some ⟨b, o, none⟩) t.length c] 32)).alloc (.cells #[.bool false] 4)) 32 (.slice (some ⟨b, o, none⟩) t.length c)
  have hB0 : Below w.heap.size w (((w.alloc (.cells #[.slice (some ⟨b, o, none⟩) t.length c] 32)).alloc (.cells #[.bool false] 4)).alloc (.cells #[.slice (some ⟨b, o, none⟩) t.length c] 32)) :=
    (((Below.refl _ w).alloc (Nat.le_refl _) _).alloc (by simp) _).alloc (by simp; omega) _
  have hsz : (((w.alloc (.cells #[.slice (some ⟨b, o, none⟩) t.length c] 32)).alloc (.cells #[.bool false] 4)).alloc (.cells #[.slice (some ⟨b, o, none⟩) t.length c] 32)).heap.size = w.heap.size + 1 + 1 + 1 := by simp
  simp only [World.size_alloc] at bR bE
  obtain ⟨W0, hW0⟩ : ∃ W0, ((w.alloc (.cells #[.slice (some ⟨b, o, none⟩) t.length c] 32)).alloc (.cells #[.bool false] 4)).alloc (.cells #[.slice (some ⟨b, o, none⟩) t.length c] 32) = W0 := ⟨_, rfl⟩
  rw [hW0] at bG bR bE hB0 hsz ⊢
  clear hW0
  refine range_top (n := 8) (n₀ := w.heap.size) (by omega) (gf := 109) (lb := #[.pointer (some ⟨w.heap.size + 1 + 1, 0, none⟩)]) rfl (enters_of Tryz.func109 (by kernel_rfl) rfl)
    (elements_stops 7 (by omega) (w.heap.size + 1 + 1) w.heap.size t.length c _ W0 (by omega) bE.cell (by omega)) (by omega) (fun _ => rfl)
    (fun pre W => ((∀ x ∈ pre, KeepAt t x.val) ∧ Boxed W (w.heap.size + 1) 4 (.bool false)) ∧ Boxed W w.heap.size 32 (.slice (some ⟨b, o, none⟩) t.length c))
    (fun c' _ W => (c' = .ret ∧ ∃ x : Fin t.length, ¬ KeepAt t x.val) ∧ Boxed W (w.heap.size + 1) 4 (.bool false))
    (OwnFrom.and (OwnFrom.and (ownFrom_pure _ _) (Own.from (boxed_own _ _ _) _)) (Own.from (boxed_own _ _ _) _))
    (fun _ => OwnFrom.and (ownFrom_pure _ _) (Own.from (boxed_own _ _ _) _))
    ⟨⟨by simp, bR⟩, bG⟩ ?round ?done ?stop
  case round =>
    intro l x W K hK
    have HK := Lib.hid hK
    clear hK
    gi_wp2
    refine HK.out _ ?_
    clear HK
    rintro l pre W hr ⟨⟨hp, bR1⟩, bG1⟩ hKW _
    obtain ⟨k, hlt⟩ := x
    have HKW := Lib.hid hKW
    have HP := Lib.hid hp
    have HBR := Lib.hid bR1
    have HBG := Lib.hid bG1
    have hQ := (HQ.out.below hB0 hB).below hKW.1 hB
    have hbox := bG1.cell
    have hres := bR1.cell
    have hfre := bR1.frozen
    have hr0 := hQ.row0 (by omega)
    have hrk := hQ.row_ hlt
    have he0 := hQ.ent_ (show 0 < t.length by omega) hlt
    have hek := hQ.ent0 hlt
    clear hQ hKW hp bR1 bG1
    by_cases h1 : nth (row t 0) k = k
    · by_cases h2 : nth (row t k) 0 = k
      · have h1' : (nth (row t 0) k != (k : Int)) = false := by simp [h1]
        have h2' : (nth (row t k) 0 != (k : Int)) = false := by simp [h2]
        have H1 := Lib.hid h1
        have H2 := Lib.hid h2
        clear h1 h2
        gi_wp2
        exact ⟨Keeps.refl _ _, ⟨fun y hy => (List.mem_append.1 hy).elim (HP.out y) (fun e => by simp at e; subst e; exact ⟨H1.out, H2.out⟩), HBR.out⟩, HBG.out⟩
      · have h1' : (nth (row t 0) k != (k : Int)) = false := by simp [h1]
        have h2' : (nth (row t k) 0 != (k : Int)) = true := by simp [h2]
        have H2 := Lib.hid h2
        clear h1 h2
        gi_wp2
        exact ⟨(Keeps.refl _ _).setCell (p := ⟨w.heap.size + 1, 0, none⟩) (by simp) _, ⟨rfl, ⟨k, hlt⟩, fun h => H2.out h.2⟩, HBR.out.set _⟩
    · have h1' : (nth (row t 0) k != (k : Int)) = true := by simp [h1]
      have H1 := Lib.hid h1
      clear h1
      gi_wp2
      exact ⟨(Keeps.refl _ _).setCell (p := ⟨w.heap.size + 1, 0, none⟩) (by simp) _, ⟨rfl, ⟨k, hlt⟩, fun h => H1.out h.1⟩, HBR.out.set _⟩
  case done =>
    rintro D xs W hD rfl ⟨⟨hp, bR1⟩, _⟩ hKW hK
    have hres := bR1.cell
    have hfre := bR1.frozen
    have HP := Lib.hid hp
    have HKW := Lib.hid hKW
    clear hp hKW
    gi_wp2
    have hK' := (KeepsOthers.setCell W ⟨w.heap.size + 1, 0, none⟩ (.bool true)).same D _ hK rfl
    refine ⟨by simp, .inl ⟨_, _, rfl, run_takeDeferred hK', ?_⟩⟩
    have hc5 := cell_kept (bR1.set (.bool true)).cell (grownBy_putObj' _ D (.deferred none)) (fun r e => by cases e; exact ⟨_, hK', rfl⟩)
    refine ⟨.bool true, ?_, by rw [keepB_true (fun x => HP.out x (List.mem_finRange x))], ((hB0.trans HKW.out.1).setCell (p := ⟨w.heap.size + 1, 0, none⟩) (by simp) _).trans (belowK_b (w := w) (Nat.le_refl _) _ D _ _ (by omega) hK' rfl rfl)⟩
    simp [results, Tryz.f115, go_sem, hc5]
  case stop =>
    rintro D c' pre W hD hpre ⟨⟨rfl, hx⟩, bR1⟩ hKW hK
    have HX := Lib.hid hx
    have HKW := Lib.hid hKW
    clear hx hKW
    gi_wp2
    refine ⟨by simp, .inl ⟨_, _, rfl, run_takeDeferred hK, ?_⟩⟩
    have hc5 := cell_kept bR1.cell (grownBy_putObj' _ D (.deferred none)) (fun r e => by cases e; exact ⟨_, hK, rfl⟩)
    refine ⟨.bool false, ?_, by rw [keepB_false HX.out], (hB0.trans HKW.out.1).trans (belowK_b (w := w) (Nat.le_refl _) W D _ _ (by omega) hK rfl rfl)⟩
    simp [results, Tryz.f115, go_sem, hc5]

set_option maxHeartbeats 400000 in
/-- slices.Index: the first place of a number. -/
theorem index_found (A : Option Addr) (xs : List Int) (v : Int) (m c B : Nat) (w : World) (hR : Ints w B A xs) (hn : xs.length ≤ 1048576) (hm : m < xs.length) (hv : nth xs m = v) (hl : ∀ j, j < m → nth xs j ≠ v) :
    Calls Tryz.prog 129 #[.slice A xs.length c, .int .i64 v] w fun e w' => e = .returned (.int .i64 (m : Int)) ∧ w = w' := by
  have HV := Lib.hid hv
  have HL := Lib.hid hl
  clear hv hl
  go_enter Tryz.func129, Tryz.ntmps129
  go_wp2
  go_loop [8] (fun i => ∃ k : Nat, k ≤ m ∧ i = .int .i64 k) (fun i => xs.length - (intOf i).toNat)
  case atStart => exact ⟨0, by omega, rfl⟩
  case round =>
    obtain ⟨k, hk, rfl⟩ := hrel
    have hlt : k < xs.length := by omega
    obtain ⟨b, o, rfl, hb, hcell⟩ := hR.at_ hlt
    have HR := Lib.hid hR
    clear hR
    by_cases hkm : k = m
    · subst hkm
      have hq : (v == nth xs k) = true := by rw [HV.out]; simp
      go_wp2
      go_ret
      exact ⟨rfl, rfl⟩
    · have hq : (v == nth xs k) = false := by
        have := HL.out k (by omega)
        simp; exact fun e => this e.symm
      go_wp2
      go_round
      case rel => exact ⟨k + 1, by omega, by go_num⟩
      case measure => simp [intOf]; omega

set_option maxHeartbeats 400000 in
theorem index_none (A : Option Addr) (xs : List Int) (v : Int) (c B : Nat) (w : World) (hR : Ints w B A xs) (hn : xs.length ≤ 1048576) (hl : ∀ j, j < xs.length → nth xs j ≠ v) :
    Calls Tryz.prog 129 #[.slice A xs.length c, .int .i64 v] w fun e w' => e = .returned (.int .i64 (-1)) ∧ w = w' := by
  have HL := Lib.hid hl
  clear hl
  go_enter Tryz.func129, Tryz.ntmps129
  go_wp2
  go_loop [8] (fun i => ∃ k : Nat, k ≤ xs.length ∧ i = .int .i64 k) (fun i => xs.length - (intOf i).toNat)
  case atStart => exact ⟨0, by omega, rfl⟩
  case round =>
    obtain ⟨k, hk, rfl⟩ := hrel
    by_cases hlt : k < xs.length
    · obtain ⟨b, o, rfl, hb, hcell⟩ := hR.at_ hlt
      have HR := Lib.hid hR
      clear hR
      have hq : (v == nth xs k) = false := by
        have := HL.out k (by omega)
        simp; exact fun e => this e.symm
      go_wp2
      go_round
      case rel => exact ⟨k + 1, by omega, by go_num⟩
      case measure => simp [intOf]; omega
    · have hkk : k = xs.length := by omega
      subst hkk
      go_wp2
      go_ret
      exact ⟨rfl, rfl⟩

/-- The first 0 of the row of a is at an inverse. -/
def InvAt (t : List (List Int)) (a : Nat) : Prop := ∃ b, b < t.length ∧ nth (row t a) b = 0 ∧ (∀ c, c < b → nth (row t a) c ≠ 0) ∧ nth (row t b) a = 0
theorem invB_true {t : List (List Int)} (h : ∀ x : Fin t.length, InvAt t x.val) : invB t = true := by
  simp only [invB, decide_eq_true_eq]
  exact fun a ha => h ⟨a, ha⟩
theorem invB_false {t : List (List Int)} (h : ∃ x : Fin t.length, ¬ InvAt t x.val) : invB t = false := by
  simp only [invB, decide_eq_false_iff_not]
  obtain ⟨x, hx⟩ := h
  exact fun hk => hx (hk x.val x.isLt)

set_option maxRecDepth 100000 in
set_option maxHeartbeats 1000000 in
theorem hasInverses_any (t : List (List Int)) (c B b o : Nat) (bb oo C : Nat → Nat) (w : World) (hQ : SqT w B b o bb oo C t) (hB : B ≤ w.heap.size) (hI : IsTab t) :
    Calls Tryz.prog 117 #[.agg #[.slice (some ⟨b, o, none⟩) t.length c]] w fun e w' => e = .returned (.bool (invB t)) ∧ Below w.heap.size w w' := by
  have hn1 := hI.n1
  have hn8 := hI.n8
  have HI := Lib.hid hI
  have HQ := Lib.hid hQ
  clear hI hQ
  refine (callsIn_wide (n := 8)).1 ?_
  refine callsIn_of_wp_marks Tryz.func117 rfl trivial ?_ rfl
  simp only [Tryz.ntmps117, List.size_toArray, List.length_cons, List.length_nil, Nat.reduceAdd, Nat.reduceSub, Array.replicate_succ, Array.replicate_zero, List.push_toArray, List.append_toArray, List.nil_append, List.cons_append]
  gi_wp2_with (refine ⟨trivial, ?_⟩; gi_at_call 74; refine (callsIn_wide.2 (elementsOf_any _ t.length c _)).mono ?_; rintro e w' ⟨rfl, rfl⟩)
  have bG := ((Boxed.new w 32 (.slice (some ⟨b, o, none⟩) t.length c)).alloc (.cells #[.bool false] 4)).alloc (.cells #[.slice (some ⟨b, o, none⟩) t.length c] 32)
  have bR := (Boxed.new (w.alloc (.cells #[.slice (some ⟨b, o, none⟩) t.length c] 32)) 4 (.bool false)).alloc (.cells #[.slice (some ⟨b, o, none⟩) t.length c] 32)
  have bE := Boxed.new ((w.alloc (.cells #[.slice (some ⟨b, o, none⟩) t.length c] 32)).alloc (.cells #[.bool false] 4)) 32 (.slice (some ⟨b, o, none⟩) t.length c)
  have hB0 : Below w.heap.size w (((w.alloc (.cells #[.slice (some ⟨b, o, none⟩) t.length c] 32)).alloc (.cells #[.bool false] 4)).alloc (.cells #[.slice (some ⟨b, o, none⟩) t.length c] 32)) :=
    (((Below.refl _ w).alloc (Nat.le_refl _) _).alloc (by simp) _).alloc (by simp; omega) _
  have hsz : (((w.alloc (.cells #[.slice (some ⟨b, o, none⟩) t.length c] 32)).alloc (.cells #[.bool false] 4)).alloc (.cells #[.slice (some ⟨b, o, none⟩) t.length c] 32)).heap.size = w.heap.size + 1 + 1 + 1 := by simp
  simp only [World.size_alloc] at bR bE
  obtain ⟨W0, hW0⟩ : ∃ W0, ((w.alloc (.cells #[.slice (some ⟨b, o, none⟩) t.length c] 32)).alloc (.cells #[.bool false] 4)).alloc (.cells #[.slice (some ⟨b, o, none⟩) t.length c] 32) = W0 := ⟨_, rfl⟩
  rw [hW0] at bG bR bE hB0 hsz ⊢
  clear hW0
  refine range_top (n := 8) (n₀ := w.heap.size) (by omega) (gf := 109) (lb := #[.pointer (some ⟨w.heap.size + 1 + 1, 0, none⟩)]) rfl (enters_of Tryz.func109 (by kernel_rfl) rfl)
    (elements_stops 7 (by omega) (w.heap.size + 1 + 1) w.heap.size t.length c _ W0 (by omega) bE.cell (by omega)) (by omega) (fun _ => rfl)
    (fun pre W => ((∀ x ∈ pre, InvAt t x.val) ∧ Boxed W (w.heap.size + 1) 4 (.bool false)) ∧ Boxed W w.heap.size 32 (.slice (some ⟨b, o, none⟩) t.length c))
    (fun c' _ W => (c' = .ret ∧ ∃ x : Fin t.length, ¬ InvAt t x.val) ∧ Boxed W (w.heap.size + 1) 4 (.bool false))
    (OwnFrom.and (OwnFrom.and (ownFrom_pure _ _) (Own.from (boxed_own _ _ _) _)) (Own.from (boxed_own _ _ _) _))
    (fun _ => OwnFrom.and (ownFrom_pure _ _) (Own.from (boxed_own _ _ _) _))
    ⟨⟨by simp, bR⟩, bG⟩ ?round ?done ?stop
  case round =>
    intro l x W K hK
    have HK := Lib.hid hK
    clear hK
    gi_wp2
    refine HK.out _ ?_
    clear HK
    rintro l pre W hr ⟨⟨hp, bR1⟩, bG1⟩ hKW _
    obtain ⟨k, hlt⟩ := x
    have HKW := Lib.hid hKW
    have HP := Lib.hid hp
    have HBR := Lib.hid bR1
    have HBG := Lib.hid bG1
    have hQ := (HQ.out.below hB0 hB).below hKW.1 hB
    have hbox := bG1.cell
    have hres := bR1.cell
    have hfre := bR1.frozen
    have hrk := hQ.row_ hlt
    have hlen := HI.out.sq k hlt
    have hints : Ints W B (some ⟨bb k, oo k, none⟩) (row t k) := .inr ⟨bb k, oo k, rfl, (hQ.2 k hlt).2.1, fun j hj => hQ.ent_ hlt (by rw [hlen] at hj; exact hj)⟩
    have HLEN := Lib.hid hlen
    have HINTS := Lib.hid hints
    have HQW := Lib.hid hQ
    clear hKW hp bR1 bG1 hlen hints hQ
    by_cases hz : ∃ j, j < t.length ∧ nth (row t k) j = 0
    · obtain ⟨j0, hj0, hz0⟩ := hz
      obtain ⟨m, hm, hm0, hml⟩ := least_zero (fun c => nth (row t k) c) j0 hz0
      have hmt : m < t.length := by omega
      have hcon := index_found (some ⟨bb k, oo k, none⟩) (row t k) 0 m (C k) B W HINTS.out (by rw [HLEN.out]; omega) (by rw [HLEN.out]; exact hmt) hm0 hml
      rw [HLEN.out] at hcon
      have HCON := Lib.hid hcon
      have hrm := HQW.out.row_ hmt
      have hem := HQW.out.ent_ hmt hlt
      have HM0 := Lib.hid hm0
      have HML := Lib.hid hml
      clear hcon hz0 hm0 hml
      by_cases h2 : nth (row t m) k = 0
      · have h2' : (nth (row t m) k != 0) = false := by simp [h2]
        have H2 := Lib.hid h2
        clear h2
        gi_wp2_with (refine ⟨trivial, ?_⟩; gi_at_call 129; refine (CallsIn.inRound l (callsIn_wide.2 HCON.out)).mono ?_; rintro e w' ⟨rfl, rfl⟩)
        exact ⟨Keeps.refl _ _, ⟨fun y hy => (List.mem_append.1 hy).elim (HP.out y) (fun e => by simp at e; subst e; exact ⟨m, hmt, HM0.out, HML.out, H2.out⟩), HBR.out⟩, HBG.out⟩
      · have h2' : (nth (row t m) k != 0) = true := by simp [h2]
        have H2 := Lib.hid h2
        clear h2
        gi_wp2_with (refine ⟨trivial, ?_⟩; gi_at_call 129; refine (CallsIn.inRound l (callsIn_wide.2 HCON.out)).mono ?_; rintro e w' ⟨rfl, rfl⟩)
        exact ⟨(Keeps.refl _ _).setCell (p := ⟨w.heap.size + 1, 0, none⟩) (by simp) _, ⟨rfl, ⟨k, hlt⟩, fun h => by
          obtain ⟨m', _, e1, e2, e3⟩ := h
          obtain rfl : m' = m := by
            rcases Nat.lt_trichotomy m' m with h | h | h
            · exact absurd e1 (HML.out m' h)
            · exact h
            · exact absurd HM0.out (e2 m h)
          exact H2.out e3⟩, HBR.out.set _⟩
    · have hcon := index_none (some ⟨bb k, oo k, none⟩) (row t k) 0 (C k) B W HINTS.out (by rw [HLEN.out]; omega) (fun j hj h0 => hz ⟨j, by rw [HLEN.out] at hj; exact hj, h0⟩)
      rw [HLEN.out] at hcon
      have HCON := Lib.hid hcon
      have HZ := Lib.hid hz
      clear hcon hz
      gi_wp2_with (refine ⟨trivial, ?_⟩; gi_at_call 129; refine (CallsIn.inRound l (callsIn_wide.2 HCON.out)).mono ?_; rintro e w' ⟨rfl, rfl⟩)
      exact ⟨(Keeps.refl _ _).setCell (p := ⟨w.heap.size + 1, 0, none⟩) (by simp) _, ⟨rfl, ⟨k, hlt⟩, fun h => by
        obtain ⟨m', e0, e1, _, _⟩ := h
        exact HZ.out ⟨m', e0, e1⟩⟩, HBR.out.set _⟩
  case done =>
    rintro D xs W hD rfl ⟨⟨hp, bR1⟩, _⟩ hKW hK
    have hres := bR1.cell
    have hfre := bR1.frozen
    have HP := Lib.hid hp
    have HKW := Lib.hid hKW
    clear hp hKW
    gi_wp2
    have hK' := (KeepsOthers.setCell W ⟨w.heap.size + 1, 0, none⟩ (.bool true)).same D _ hK rfl
    refine ⟨by simp, .inl ⟨_, _, rfl, run_takeDeferred hK', ?_⟩⟩
    have hc5 := cell_kept (bR1.set (.bool true)).cell (grownBy_putObj' _ D (.deferred none)) (fun r e => by cases e; exact ⟨_, hK', rfl⟩)
    refine ⟨.bool true, ?_, by rw [invB_true (fun x => HP.out x (List.mem_finRange x))], ((hB0.trans HKW.out.1).setCell (p := ⟨w.heap.size + 1, 0, none⟩) (by simp) _).trans (belowK_b (w := w) (Nat.le_refl _) _ D _ _ (by omega) hK' rfl rfl)⟩
    simp [results, Tryz.f117, go_sem, hc5]
  case stop =>
    rintro D c' pre W hD hpre ⟨⟨rfl, hx⟩, bR1⟩ hKW hK
    have HX := Lib.hid hx
    have HKW := Lib.hid hKW
    clear hx hKW
    gi_wp2
    refine ⟨by simp, .inl ⟨_, _, rfl, run_takeDeferred hK, ?_⟩⟩
    have hc5 := cell_kept bR1.cell (grownBy_putObj' _ D (.deferred none)) (fun r e => by cases e; exact ⟨_, hK, rfl⟩)
    refine ⟨.bool false, ?_, by rw [invB_false HX.out], (hB0.trans HKW.out.1).trans (belowK_b (w := w) (Nat.le_refl _) W D _ _ (by omega) hK rfl rfl)⟩
    simp [results, Tryz.f117, go_sem, hc5]

end Go.Proofs.YtcdijeeabgmgmaaGreatDoor

/- The program's test for brackets: three loops in one another. -/
namespace Go.Proofs.YtcdijeeabgmgmaaGreatDoor
open Go.RowKit Go.Shelf

attribute [local go_sem] Oper.semAt_some

/-- Do the products of three elements not depend on brackets? -/
def AssocAt (t : List (List Int)) (a b c : Nat) : Prop := nth (row t (nth (row t a) b).toNat) c = nth (row t a) (nth (row t b) c).toNat
theorem assocB_true {t : List (List Int)} (h : ∀ x y z : Fin t.length, AssocAt t x.val y.val z.val) : assocB t = true := by
  simp only [assocB, decide_eq_true_eq]
  exact fun a ha b hb c hc => h ⟨a, ha⟩ ⟨b, hb⟩ ⟨c, hc⟩
theorem assocB_false {t : List (List Int)} (h : ∃ x y z : Fin t.length, ¬ AssocAt t x.val y.val z.val) : assocB t = false := by
  simp only [assocB, decide_eq_false_iff_not]
  obtain ⟨x, y, z, hx⟩ := h
  exact fun hk => hx (hk x.val x.isLt y.val y.isLt z.val z.isLt)

set_option maxRecDepth 100000 in
set_option maxHeartbeats 2000000 in
theorem ignoresBrackets_any (t : List (List Int)) (c B b o : Nat) (bb oo C : Nat → Nat) (w : World) (hQ : SqT w B b o bb oo C t) (hB : B ≤ w.heap.size) (hI : IsTab t) :
    Calls Tryz.prog 116 #[.agg #[.slice (some ⟨b, o, none⟩) t.length c]] w fun e w' => e = .returned (.bool (assocB t)) ∧ Below w.heap.size w w' := by
  have hn1 := hI.n1
  have hn8 := hI.n8
  have HI := Lib.hid hI
  have HQ := Lib.hid hQ
  clear hI hQ
  refine (callsIn_wide (n := 20)).1 ?_
  refine callsIn_of_wp_marks Tryz.func116 rfl trivial ?_ rfl
  simp only [Tryz.ntmps116, List.size_toArray, List.length_cons, List.length_nil, Nat.reduceAdd, Nat.reduceSub, Array.replicate_succ, Array.replicate_zero, List.push_toArray, List.append_toArray, List.nil_append, List.cons_append]
  gi_wp2_with (refine ⟨trivial, ?_⟩; gi_at_call 74; refine (callsIn_wide.2 (elementsOf_any _ t.length c _)).mono ?_; rintro e w' ⟨rfl, rfl⟩)
  have bG := ((Boxed.new w 32 (.slice (some ⟨b, o, none⟩) t.length c)).alloc (.cells #[.bool false] 4)).alloc (.cells #[.slice (some ⟨b, o, none⟩) t.length c] 32)
  have bR := (Boxed.new (w.alloc (.cells #[.slice (some ⟨b, o, none⟩) t.length c] 32)) 4 (.bool false)).alloc (.cells #[.slice (some ⟨b, o, none⟩) t.length c] 32)
  have bE := Boxed.new ((w.alloc (.cells #[.slice (some ⟨b, o, none⟩) t.length c] 32)).alloc (.cells #[.bool false] 4)) 32 (.slice (some ⟨b, o, none⟩) t.length c)
  have hB0 : Below w.heap.size w (((w.alloc (.cells #[.slice (some ⟨b, o, none⟩) t.length c] 32)).alloc (.cells #[.bool false] 4)).alloc (.cells #[.slice (some ⟨b, o, none⟩) t.length c] 32)) :=
    (((Below.refl _ w).alloc (Nat.le_refl _) _).alloc (by simp) _).alloc (by simp; omega) _
  have hsz : (((w.alloc (.cells #[.slice (some ⟨b, o, none⟩) t.length c] 32)).alloc (.cells #[.bool false] 4)).alloc (.cells #[.slice (some ⟨b, o, none⟩) t.length c] 32)).heap.size = w.heap.size + 1 + 1 + 1 := by simp
  simp only [World.size_alloc] at bR bE
  obtain ⟨W0, hW0⟩ : ∃ W0, ((w.alloc (.cells #[.slice (some ⟨b, o, none⟩) t.length c] 32)).alloc (.cells #[.bool false] 4)).alloc (.cells #[.slice (some ⟨b, o, none⟩) t.length c] 32) = W0 := ⟨_, rfl⟩
  rw [hW0] at bG bR bE hB0 hsz ⊢
  clear hW0
  have HB0 := Lib.hid hB0
  have HSZ := Lib.hid hsz
  refine range_topB (n := 20) (n₀ := w.heap.size) (by omega) (gf := 109) (lb := #[.pointer (some ⟨w.heap.size + 1 + 1, 0, none⟩)]) rfl (enters_of Tryz.func109 (by kernel_rfl) rfl)
    (elements_stops 19 (by omega) (w.heap.size + 1 + 1) w.heap.size t.length c _ W0 (by omega) bE.cell (by omega)) (by omega) (fun _ => rfl) 2 (fun x => .int .i64 (x.val : Int))
    (fun pre W => ((∀ x ∈ pre, ∀ y z : Fin t.length, AssocAt t x.val y.val z.val) ∧ Boxed W (w.heap.size + 1) 4 (.bool false)) ∧ Boxed W w.heap.size 32 (.slice (some ⟨b, o, none⟩) t.length c))
    (fun c' _ W => (c' = .ret ∧ ∃ x y z : Fin t.length, ¬ AssocAt t x.val y.val z.val) ∧ Boxed W (w.heap.size + 1) 4 (.bool false))
    (OwnFrom.and (OwnFrom.and (ownFrom_pure _ _) (Own.from (boxed_own _ _ _) _)) (Own.from (boxed_own _ _ _) _))
    (fun _ => OwnFrom.and (ownFrom_pure _ _) (Own.from (boxed_own _ _ _) _))
    ⟨⟨by simp, bR⟩, bG⟩ ?round ?done ?stop
  case round =>
    clear bG bR bE hB0 hsz
    intro l x W K hK
    have HK := Lib.hid hK
    clear hK
    gi_wp2
    refine HK.out _ ?_
    clear HK
    rintro l B1 pre W1 hB1 hle1 hr ⟨⟨hp, bR1⟩, bG1⟩ hKW bX1 _
    rw [hB1]
    clear hB1
    obtain ⟨k, hk⟩ := x
    dsimp only at bX1
    have HKW := Lib.hid hKW
    have HP := Lib.hid hp
    have HR := Lib.hid hr
    have HLE := Lib.hid hle1
    clear hKW hp hr hle1
    have hbox := bG1.cell
    gi_wp2_with (refine ⟨trivial, ?_⟩; gi_at_call 74; refine (CallsIn.inRound l (callsIn_wide.2 (elementsOf_any _ t.length c _))).mono ?_; rintro e w' ⟨rfl, rfl⟩)
    clear hbox
    have bGA := bG1.alloc (.cells #[.slice (some ⟨b, o, none⟩) t.length c] 32)
    have bRA := bR1.alloc (.cells #[.slice (some ⟨b, o, none⟩) t.length c] 32)
    have bXA := bX1.alloc (.cells #[.slice (some ⟨b, o, none⟩) t.length c] 32)
    have bEA := Boxed.new W1 32 (.slice (some ⟨b, o, none⟩) t.length c)
    have hK1 : Keeps w.heap.size W1 (W1.alloc (.cells #[.slice (some ⟨b, o, none⟩) t.length c] 32)) := (Keeps.refl _ _).alloc (by have := bG1.lt; omega) _
    have hszA : (W1.alloc (.cells #[.slice (some ⟨b, o, none⟩) t.length c] 32)).heap.size = W1.heap.size + 1 := by simp
    have hrA : ∃ r, (W1.alloc (.cells #[.slice (some ⟨b, o, none⟩) t.length c] 32)).heap[l]? = some (.loop r) := by
      obtain ⟨r, hr⟩ := HR.out
      exact ⟨r, (Below.heap_alloc W1 _ l (Array.getElem?_eq_some_iff.1 hr).1).trans hr⟩
    have hltG := bG1.lt
    have hltX := bX1.lt
    clear bG1 bR1 bX1
    obtain ⟨W2, hW2⟩ : ∃ W2, W1.alloc (.cells #[.slice (some ⟨b, o, none⟩) t.length c] 32) = W2 := ⟨_, rfl⟩
    rw [hW2] at bGA bRA bXA bEA hK1 hszA hrA ⊢
    clear hW2
    have HK1 := Lib.hid hK1
    have HSA := Lib.hid hszA
    refine range_inB (n := 20 - 1 - 1) (n₀ := w.heap.size) (by omega) hrA (gf := 109) (lb := #[.pointer (some ⟨W1.heap.size, 0, none⟩)]) rfl (enters_of Tryz.func109 (by kernel_rfl) rfl)
      (elements_stops (20 - 1 - 1 - 1) (by omega) W1.heap.size w.heap.size t.length c _ W2 (by omega) bEA.cell (by omega)) (by omega) (fun _ => rfl) 2 (fun x => .int .i64 (x.val : Int))
      (fun pre W => (((∀ y ∈ pre, ∀ z : Fin t.length, AssocAt t k y.val z.val) ∧ Boxed W (w.heap.size + 1) 4 (.bool false)) ∧ Boxed W w.heap.size 32 (.slice (some ⟨b, o, none⟩) t.length c)) ∧ Boxed W B1 2 (.int .i64 (k : Int)))
      (fun c' _ W => (c' = .ret ∧ ∃ x y z : Fin t.length, ¬ AssocAt t x.val y.val z.val) ∧ Boxed W (w.heap.size + 1) 4 (.bool false))
      (OwnFrom.and (OwnFrom.and (OwnFrom.and (ownFrom_pure _ _) (Own.from (boxed_own _ _ _) _)) (Own.from (boxed_own _ _ _) _)) (Own.from (boxed_own _ _ _) _))
      (fun _ => OwnFrom.and (ownFrom_pure _ _) (Own.from (boxed_own _ _ _) _))
      ⟨⟨⟨by simp, bRA⟩, bGA⟩, bXA⟩ ?round2 ?done2 ?stop2
    case done2 =>
      rintro ys W rfl ⟨⟨⟨hq, bR2⟩, bG2⟩, _⟩ hKW2
      have HQQ := Lib.hid hq
      have HKW2 := Lib.hid hKW2
      clear hq hKW2
      gi_wp2
      exact ⟨HK1.out.trans HKW2.out, ⟨fun y hy => (List.mem_append.1 hy).elim (HP.out y) (fun e => by simp at e; subst e; exact fun y z => HQQ.out y (List.mem_finRange y) z), bR2⟩, bG2⟩
    case stop2 =>
      rintro c' pre' W hpre ⟨⟨rfl, hx⟩, bR2⟩ hKW2
      have HX := Lib.hid hx
      have HKW2 := Lib.hid hKW2
      clear hx hKW2
      gi_wp2
      exact ⟨HK1.out.trans HKW2.out, ⟨rfl, HX.out⟩, bR2⟩
    case round2 =>
      clear bGA bRA bXA bEA hK1 hszA hrA
      intro l2 y W K hK
      have HK := Lib.hid hK
      clear hK
      gi_wp2
      refine HK.out _ ?_
      clear HK
      rintro l2 B2 pre2 W3 hB2 hle2 hr2 ⟨⟨⟨hp2, bR2⟩, bG2⟩, bX2⟩ hKW2 bY2 _
      rw [hB2]
      clear hB2
      obtain ⟨j, hj⟩ := y
      dsimp only at bY2
      have HKW2 := Lib.hid hKW2
      have HP2 := Lib.hid hp2
      have HR2 := Lib.hid hr2
      have HLE2 := Lib.hid hle2
      clear hKW2 hp2 hr2 hle2
      have hbox := bG2.cell
      gi_wp2_with (refine ⟨trivial, ?_⟩; gi_at_call 74; refine (CallsIn.inRound l2 (callsIn_wide.2 (elementsOf_any _ t.length c _))).mono ?_; rintro e w' ⟨rfl, rfl⟩)
      clear hbox
      have bGB := bG2.alloc (.cells #[.slice (some ⟨b, o, none⟩) t.length c] 32)
      have bRB := bR2.alloc (.cells #[.slice (some ⟨b, o, none⟩) t.length c] 32)
      have bXB := bX2.alloc (.cells #[.slice (some ⟨b, o, none⟩) t.length c] 32)
      have bYB := bY2.alloc (.cells #[.slice (some ⟨b, o, none⟩) t.length c] 32)
      have bEB := Boxed.new W3 32 (.slice (some ⟨b, o, none⟩) t.length c)
      have hK2 : Keeps w.heap.size W3 (W3.alloc (.cells #[.slice (some ⟨b, o, none⟩) t.length c] 32)) := (Keeps.refl _ _).alloc (by have := bG2.lt; omega) _
      have hszB : (W3.alloc (.cells #[.slice (some ⟨b, o, none⟩) t.length c] 32)).heap.size = W3.heap.size + 1 := by simp
      have hrB : ∃ r, (W3.alloc (.cells #[.slice (some ⟨b, o, none⟩) t.length c] 32)).heap[l2]? = some (.loop r) := by
        obtain ⟨r, hr⟩ := HR2.out
        exact ⟨r, (Below.heap_alloc W3 _ l2 (Array.getElem?_eq_some_iff.1 hr).1).trans hr⟩
      have hltG2 := bG2.lt
      clear bG2 bR2 bX2 bY2
      obtain ⟨W4, hW4⟩ : ∃ W4, W3.alloc (.cells #[.slice (some ⟨b, o, none⟩) t.length c] 32) = W4 := ⟨_, rfl⟩
      rw [hW4] at bGB bRB bXB bYB bEB hK2 hszB hrB ⊢
      clear hW4
      have HK2 := Lib.hid hK2
      have HSB := Lib.hid hszB
      refine range_in (n := 20 - 1 - 1 - 1 - 1) (n₀ := w.heap.size) (by omega) hrB (gf := 109) (lb := #[.pointer (some ⟨W3.heap.size, 0, none⟩)]) rfl (enters_of Tryz.func109 (by kernel_rfl) rfl)
        (elements_stops (20 - 1 - 1 - 1 - 1 - 1) (by omega) W3.heap.size w.heap.size t.length c _ W4 (by omega) bEB.cell (by omega)) (by omega) (fun _ => rfl)
        (fun pre W => ((((∀ z ∈ pre, AssocAt t k j z.val) ∧ Boxed W (w.heap.size + 1) 4 (.bool false)) ∧ Boxed W w.heap.size 32 (.slice (some ⟨b, o, none⟩) t.length c)) ∧ Boxed W B1 2 (.int .i64 (k : Int))) ∧ Boxed W B2 2 (.int .i64 (j : Int)))
        (fun c' _ W => (c' = .ret ∧ ∃ x y z : Fin t.length, ¬ AssocAt t x.val y.val z.val) ∧ Boxed W (w.heap.size + 1) 4 (.bool false))
        (OwnFrom.and (OwnFrom.and (OwnFrom.and (OwnFrom.and (ownFrom_pure _ _) (Own.from (boxed_own _ _ _) _)) (Own.from (boxed_own _ _ _) _)) (Own.from (boxed_own _ _ _) _)) (Own.from (boxed_own _ _ _) _))
        (fun _ => OwnFrom.and (ownFrom_pure _ _) (Own.from (boxed_own _ _ _) _))
        ⟨⟨⟨⟨by simp, bRB⟩, bGB⟩, bXB⟩, bYB⟩ ?round3 ?done3 ?stop3
      case done3 =>
        rintro zs W rfl ⟨⟨⟨⟨hq, bR3⟩, bG3⟩, bX3⟩, _⟩ hKW3
        have HQQ := Lib.hid hq
        have HKW3 := Lib.hid hKW3
        clear hq hKW3
        gi_wp2
        exact ⟨HK2.out.trans HKW3.out, ⟨⟨fun y hy => (List.mem_append.1 hy).elim (HP2.out y) (fun e => by simp at e; subst e; exact fun z => HQQ.out z (List.mem_finRange z)), bR3⟩, bG3⟩, bX3⟩
      case stop3 =>
        rintro c' pre' W hpre ⟨⟨rfl, hx⟩, bR3⟩ hKW3
        have HX := Lib.hid hx
        have HKW3 := Lib.hid hKW3
        clear hx hKW3
        gi_wp2
        exact ⟨HK2.out.trans HKW3.out, ⟨rfl, HX.out⟩, bR3⟩
      case round3 =>
        clear bGB bRB bXB bYB bEB hK2 hszB hrB
        intro l3 z W K hK
        have HK := Lib.hid hK
        clear hK
        gi_wp2
        refine HK.out _ ?_
        clear HK
        rintro l3 pre3 W5 hr3 ⟨⟨⟨⟨hp3, bR3⟩, bG3⟩, bX3⟩, bY3⟩ hKW3 _
        obtain ⟨i, hi⟩ := z
        have hQ := (HQ.out.below HB0.out hB).below (((HKW.out.trans HK1.out).trans (HKW2.out.trans HK2.out)).trans hKW3).1 hB
        have hbox := bG3.cell
        have hres := bR3.cell
        have hfre := bR3.frozen
        have hx := bX3.cell
        have hy := bY3.cell
        have hrk := hQ.row_ hk
        have hrj := hQ.row_ hj
        obtain ⟨m1, hm1, HM1, hekj⟩ := hQ.idx hk hj (HI.out.rng k hk j hj)
        obtain ⟨m2, hm2, HM2, heji⟩ := hQ.idx hj hi (HI.out.rng j hj i hi)
        have hrm := hQ.row_ hm1
        have hemi := hQ.ent_ hm1 hi
        have hekm := hQ.ent_ hk hm2
        have HP3 := Lib.hid hp3
        have HBR := Lib.hid bR3
        have HBG := Lib.hid bG3
        have HBX := Lib.hid bX3
        have HBY := Lib.hid bY3
        clear hQ hp3 bR3 bG3 bX3 bY3 hKW3 hr3
        by_cases hq : nth (row t m1) i = nth (row t k) m2
        · have hq' : (nth (row t m1) i != nth (row t k) m2) = false := by simp [hq]
          have HQQ := Lib.hid hq
          clear hq
          gi_wp2
          refine region_quiet_round (by kernel_rfl) (by kernel_rfl) (by kernel_rfl) ?_
          repeat (gi_big_quiet_step (fail))
          refine wpQuietIn_nil ?_
          intro _ hw'
          obtain ⟨nq, hw''⟩ := hw'
          subst hw''
          gi_wp2
          exact ⟨(Keeps.refl _ _).drewN _, ⟨⟨⟨fun y hy => (List.mem_append.1 hy).elim (HP3.out y) (fun e => by simp at e; subst e; show nth (row t (nth (row t k) j).toNat) i = nth (row t k) (nth (row t j) i).toNat; rw [HM1.out, HM2.out]; exact HQQ.out), HBR.out⟩, HBG.out⟩, HBX.out⟩, HBY.out⟩
        · have hq' : (nth (row t m1) i != nth (row t k) m2) = true := by simp [hq]
          have HQQ := Lib.hid hq
          clear hq
          gi_wp2
          refine region_quiet_round (by kernel_rfl) (by kernel_rfl) (by kernel_rfl) ?_
          repeat (gi_big_quiet_step (fail))
          refine wpQuietIn_nil ?_
          intro _ hw'
          obtain ⟨nq, hw''⟩ := hw'
          subst hw''
          gi_wp2
          have hbr : Boxed (W5.drewN nq) (w.heap.size + 1) 4 (.bool false) := HBR.out
          exact ⟨((Keeps.refl _ _).drewN _).setCell (p := ⟨w.heap.size + 1, 0, none⟩) (by simp) _, ⟨rfl, ⟨k, hk⟩, ⟨j, hj⟩, ⟨i, hi⟩, fun h => by
            unfold AssocAt at h
            dsimp only at h
            rw [HM1.out, HM2.out] at h
            exact HQQ.out h⟩, hbr.set _⟩
  case done =>
    rintro D xs W hD rfl ⟨⟨hp, bR1⟩, _⟩ hKW hK
    have hres := bR1.cell
    have hfre := bR1.frozen
    have HP := Lib.hid hp
    have HKW := Lib.hid hKW
    clear hp hKW
    gi_wp2
    have hK' := (KeepsOthers.setCell W ⟨w.heap.size + 1, 0, none⟩ (.bool true)).same D _ hK rfl
    refine ⟨by simp, .inl ⟨_, _, rfl, run_takeDeferred hK', ?_⟩⟩
    have hc5 := cell_kept (bR1.set (.bool true)).cell (grownBy_putObj' _ D (.deferred none)) (fun r e => by cases e; exact ⟨_, hK', rfl⟩)
    refine ⟨.bool true, ?_, by rw [assocB_true (fun x => HP.out x (List.mem_finRange x))], ((hB0.trans HKW.out.1).setCell (p := ⟨w.heap.size + 1, 0, none⟩) (by simp) _).trans (belowK_b (w := w) (Nat.le_refl _) _ D _ _ (by omega) hK' rfl rfl)⟩
    simp [results, Tryz.f116, go_sem, hc5]
  case stop =>
    rintro D c' pre W hD hpre ⟨⟨rfl, hx⟩, bR1⟩ hKW hK
    have HX := Lib.hid hx
    have HKW := Lib.hid hKW
    clear hx hKW
    gi_wp2
    refine ⟨by simp, .inl ⟨_, _, rfl, run_takeDeferred hK, ?_⟩⟩
    have hc5 := cell_kept bR1.cell (grownBy_putObj' _ D (.deferred none)) (fun r e => by cases e; exact ⟨_, hK, rfl⟩)
    refine ⟨.bool false, ?_, by rw [assocB_false HX.out], (hB0.trans HKW.out.1).trans (belowK_b (w := w) (Nat.le_refl _) W D _ _ (by omega) hK rfl rfl)⟩
    simp [results, Tryz.f116, go_sem, hc5]

end Go.Proofs.YtcdijeeabgmgmaaGreatDoor
