/- The specification's test for groups. -/
import Derived.Test.YtcdijeeabgmgmaaGreatDoorBa
namespace Go.Proofs.YtcdijeeabgmgmaaGreatDoor
open Go.RowKit

set_option maxHeartbeats 400000 in
theorem l01In_yes (n lo hi : Int) (w : World) (h0 : lo ≤ n) (h1 : n ≤ hi) :
    Calls Tryz.prog 66 #[.int .i64 n, .int .i64 lo, .int .i64 hi] w fun e w' => e = .returned (.bool true) ∧ w = w' := by
  go_enter Tryz.func66, Tryz.ntmps66
  go_wp2
  go_ret
  exact ⟨rfl, rfl⟩

set_option maxHeartbeats 400000 in
theorem l01In_no (n lo hi : Int) (w : World) (h : n < lo ∨ hi < n) :
    Calls Tryz.prog 66 #[.int .i64 n, .int .i64 lo, .int .i64 hi] w fun e w' => e = .returned (.bool false) ∧ w = w' := by
  by_cases h0 : lo ≤ n
  · have h1 : hi < n := by omega
    clear h
    go_enter Tryz.func66, Tryz.ntmps66
    go_wp2
    go_ret
    exact ⟨by simp; omega, rfl⟩
  · clear h
    go_enter Tryz.func66, Tryz.ntmps66
    go_wp2
    go_ret
    exact ⟨rfl, rfl⟩

/-- What the second loop asks of an element. -/
structure AskedA (t : List (List Int)) (a : Nat) : Prop where
  left : nth (row t 0) a = a
  right : nth (row t a) 0 = a
  inv : ∃ b, b < t.length ∧ nth (row t a) b = 0 ∧ nth (row t b) a = 0
  assoc : ∀ b, b < t.length → ∀ c, c < t.length → nth (row t (nth (row t a) b).toNat) c = nth (row t a) (nth (row t b) c).toNat

open Classical in
/-- Is an inverse among the first j elements? -/
noncomputable def fnd (t : List (List Int)) (k j : Nat) : Bool := decide (∃ b, b < j ∧ nth (row t k) b = 0 ∧ nth (row t b) k = 0)

theorem fnd_keep {t : List (List Int)} {k j : Nat} (h : fnd t k j = true) : fnd t k (j + 1) = true := by
  simp only [fnd, decide_eq_true_eq] at h ⊢
  obtain ⟨b, h1, h2⟩ := h
  exact ⟨b, by omega, h2⟩
theorem fnd_hit {t : List (List Int)} {k j : Nat} (h1 : nth (row t k) j = 0) (h2 : nth (row t j) k = 0) : fnd t k (j + 1) = true := by
  simp only [fnd, decide_eq_true_eq]
  exact ⟨j, by omega, h1, h2⟩
theorem fnd_miss {t : List (List Int)} {k j : Nat} (h : fnd t k j = false) (hn : ¬ (nth (row t k) j = 0 ∧ nth (row t j) k = 0)) : fnd t k (j + 1) = false := by
  simp only [fnd, decide_eq_false_iff_not] at h ⊢
  rintro ⟨b, h1, h2⟩
  rcases Nat.lt_or_ge b j with h3 | h3
  · exact h ⟨b, h3, h2⟩
  · obtain rfl : b = j := by omega
    exact hn h2

theorem isGrp_of_asked {t : List (List Int)} (h1 : (1 : Int) ≤ t.length) (h8 : (t.length : Int) ≤ 8) (hs : ∀ a, a < t.length → (row t a).length = t.length ∧ ∀ b, b < t.length → 0 ≤ ent t a b ∧ ent t a b < t.length)
    (ha : ∀ a, a < t.length → AskedA t a) : IsGrp t :=
  ⟨by omega, by omega, fun a h => (hs a h).1, fun a h => (hs a h).2, fun a h => ⟨(ha a h).left, (ha a h).right⟩, fun a h => (ha a h).assoc, fun a h => (ha a h).inv⟩

set_option maxRecDepth 100000 in
set_option maxHeartbeats 400000 in
theorem l01Is_any (A : Option Addr) (t : List (List Int)) (c B : Nat) (w : World) (hR : Rws w B A t) (hB : B ≤ w.heap.size) (hn : t.length ≤ 1048576) (hl : ∀ i, i < t.length → (row t i).length ≤ 1048576) :
    Calls Tryz.prog 65 #[.agg #[.slice A t.length c]] w fun e w' => e = .returned (.bool (grpB t)) ∧ Below w.heap.size w w' := by
  by_cases hr : (1 : Int) ≤ t.length ∧ (t.length : Int) ≤ 8
  · obtain ⟨hr0, hr1⟩ := hr
    obtain ⟨b, o, R, C, rfl, hT⟩ := hR.tab (by omega)
    have HT := Lib.hid hT
    have HL := Lib.hid hl
    clear hT hl hR
    go_enter Tryz.func65, Tryz.ntmps65
    go_wp2_with (go_at_call 66; refine (l01In_yes _ _ _ _ hr0 hr1).mono ?_; rintro e w' ⟨rfl, rfl⟩)
    have hb0 : Below w.heap.size w (w.alloc (.cells #[.slice (some ⟨b, o, none⟩) t.length c] 32)) := (Below.refl _ _).alloc (Nat.le_refl _) _
    have hbox := (Has.new w 32 #[.slice (some ⟨b, o, none⟩) t.length c]).cell 0
    generalize w.alloc (.cells #[.slice (some ⟨b, o, none⟩) t.length c] 32) = W at *
    have hT := HT.out.below hb0 hB
    have HT := Lib.hid hT
    clear hT
    go_loop [4] (fun a => ∃ k : Nat, k ≤ t.length ∧ a = .int .i64 k ∧ ∀ a, a < k → (row t a).length = t.length ∧ ∀ b, b < t.length → 0 ≤ ent t a b ∧ ent t a b < t.length) (fun a => t.length - (intOf a).toNat)
    case atStart => exact ⟨0, by omega, rfl, fun i hi => absurd hi (by omega)⟩
    case round =>
      obtain ⟨k, hk, rfl, hs⟩ := hrel
      have HS := Lib.hid hs
      clear hs
      by_cases hlt : k < t.length
      · have hrow := HT.out.row_ hlt
        by_cases hlen : (row t k).length = t.length
        · have hne : (((row t k).length : Int) != (t.length : Int)) = false := by simp [hlen]
          have HLEN := Lib.hid hlen
          clear hlen
          go_wp2
          clear hne hrow
          go_loop [5] (fun a => ∃ j : Nat, j ≤ t.length ∧ a = .int .i64 j ∧ ∀ b, b < j → 0 ≤ ent t k b ∧ ent t k b < t.length) (fun a => t.length - (intOf a).toNat)
          case atStart => exact ⟨0, by omega, rfl, fun i hi => absurd hi (by omega)⟩
          case round =>
            obtain ⟨j, hj, rfl, hs2⟩ := hrel
            have HS2 := Lib.hid hs2
            clear hs2
            by_cases hlt2 : j < t.length
            · have hrow := HT.out.row_ hlt
              obtain ⟨b', o', hR', hb', hcell⟩ := HT.out.ent_ hlt (by rw [HLEN.out]; exact hlt2)
              rw [hR'] at hrow
              clear hR'
              have hj3 : j < (row t k).length := by rw [HLEN.out]; exact hlt2
              by_cases hrg : 0 ≤ nth (row t k) j ∧ nth (row t k) j ≤ t.length - 1
              · go_wp2_with (go_at_call 66; refine (l01In_yes _ _ _ _ hrg.1 hrg.2).mono ?_; rintro e w' ⟨rfl, rfl⟩)
                go_round
                case rel => exact ⟨j + 1, by omega, by go_num, fun i hi => by
                  rcases Nat.lt_or_ge i j with h | h
                  · exact HS2.out i h
                  · obtain rfl : i = j := by omega
                    exact ⟨hrg.1, by have := hrg.2; show nth (row t k) i < _; omega⟩⟩
                case measure => simp [intOf]; omega
              · go_wp2_with (go_at_call 66; refine (l01In_no _ _ _ _ (by omega)).mono ?_; rintro e w' ⟨rfl, rfl⟩)
                go_ret
                exact ⟨by rw [grpB_false (fun h => hrg (by have := h.rng k hlt j hlt2; exact ⟨this.1, by have := this.2; show ent t k j ≤ _; omega⟩))]; rfl, hb0⟩
            · have hjj : j = t.length := by omega
              subst hjj
              go_wp2
              go_round
              case rel => exact ⟨k + 1, by omega, by go_num, fun i hi => by
                rcases Nat.lt_or_ge i k with h | h
                · exact HS.out i h
                · obtain rfl : i = k := by omega
                  exact ⟨HLEN.out, HS2.out⟩⟩
              case measure => simp [intOf]; omega
        · have hne : (((row t k).length : Int) != (t.length : Int)) = true := by rw [bne_iff_ne]; omega
          have HLEN := Lib.hid hlen
          clear hlen
          go_wp2
          go_ret
          exact ⟨by rw [grpB_false (fun h => HLEN.out (h.sq k hlt))]; rfl, hb0⟩
      · have hkk : k = t.length := by omega
        subst hkk
        go_wp2
        obtain ⟨bb, oo, hQ⟩ := HT.out.sq (by omega) (fun i hi => (HS.out i hi).1)
        have HQ := Lib.hid hQ
        clear hQ HT HL
        go_loopw [6] (fun a wr => ∃ k : Nat, k ≤ t.length ∧ a = .int .i64 k ∧ Drawn W wr ∧ ∀ a, a < k → AskedA t a) (fun a _ => t.length - (intOf a).toNat)
        case atStart => exact ⟨0, by omega, rfl, Drawn.refl _, fun i hi => absurd hi (by omega)⟩
        case round =>
          obtain ⟨k, hk, rfl, hd, hs3⟩ := hrel
          have HS3 := Lib.hid hs3
          have HD := Lib.hid hd
          have hbox2 := (hd.cell ⟨w.heap.size, 0, none⟩).trans hbox
          clear hs3 hd
          by_cases hlt : k < t.length
          · have hQ := HD.out.sqt HQ.out
            have hr0 := hQ.row0 (by omega)
            have hrk := hQ.row_ hlt
            have he0 := hQ.ent_ (show 0 < t.length by omega) hlt
            have hek := hQ.ent0 hlt
            have HQ2 := Lib.hid hQ
            clear hQ
            by_cases h1 : nth (row t 0) k = k
            · by_cases h2 : nth (row t k) 0 = k
              · have h1' : (nth (row t 0) k != (k : Int)) = false := by simp [h1]
                have h2' : (nth (row t k) 0 != (k : Int)) = false := by simp [h2]
                have H1 := Lib.hid h1
                have H2 := Lib.hid h2
                clear h1 h2
                go_wp2
                clear h1' h2' hr0 hrk he0 hek hbox2
                obtain ⟨wo, rfl⟩ : ∃ wo, wo = wr := ⟨_, rfl⟩
                go_loopw [7, 8] (fun f b wr => ∃ j : Nat, j ≤ t.length ∧ b = .int .i64 j ∧ f = .bool (fnd t k j) ∧ Drawn W wr ∧ ∀ b, b < j → ∀ c, c < t.length → nth (row t (nth (row t k) b).toNat) c = nth (row t k) (nth (row t b) c).toNat) (fun _ b _ => t.length - (intOf b).toNat)
                case atStart => exact ⟨0, by omega, rfl, by simp [fnd], HD.out, fun i hi => absurd hi (by omega)⟩
                case round =>
                  obtain ⟨j, hj, rfl, rfl, hd, hs4⟩ := hrel
                  have HS4 := Lib.hid hs4
                  have HD4 := Lib.hid hd
                  have hbox2 := (hd.cell ⟨w.heap.size, 0, none⟩).trans hbox
                  clear hs4 hd
                  by_cases hlt2 : j < t.length
                  · have hQ := HD4.out.sqt HQ.out
                    have hrk := hQ.row_ hlt
                    have hrj := hQ.row_ hlt2
                    have hekj := hQ.ent_ hlt hlt2
                    have hejk := hQ.ent_ hlt2 hlt
                    have HQ4 := Lib.hid hQ
                    clear hQ
                    have hstep : ∃ f e1 e2 f', fnd t k j = f ∧ (nth (row t k) j == 0) = e1 ∧ (nth (row t j) k == 0) = e2 ∧ fnd t k (j + 1) = f' ∧ f' = (f || (e1 && e2)) := by
                      refine ⟨_, _, _, _, rfl, rfl, rfl, rfl, ?_⟩
                      cases hf : fnd t k j
                      · by_cases e1 : nth (row t k) j = 0 ∧ nth (row t j) k = 0
                        · rw [fnd_hit e1.1 e1.2]; simp [e1.1, e1.2]
                        · rw [fnd_miss hf e1]
                          simp only [Bool.false_or]
                          rcases Decidable.not_and_iff_or_not.1 e1 with e | e <;> simp [e]
                      · rw [fnd_keep hf]; rfl
                    obtain ⟨f, e1, e2, f', hf, he1, he2, hf', hff⟩ := hstep
                    rw [hf]
                    have HF' := Lib.hid hf'
                    clear hf hf'
                    have hcase : f = true ∨ (f = false ∧ e1 = false) ∨ (f = false ∧ e1 = true) := by cases f <;> cases e1 <;> simp
                    rcases hcase with rfl | ⟨rfl, rfl⟩ | ⟨rfl, rfl⟩
                    all_goals
                      simp only [Bool.false_or, Bool.false_and, Bool.true_or, Bool.true_and] at hff
                      subst hff
                      go_wp2
                      have HE2 := Lib.hid he2
                      clear he1 he2 hrk hrj hekj hejk hbox2
                      obtain ⟨wi, rfl⟩ : ∃ wi, wi = wr := ⟨_, rfl⟩
                      go_loopw [9] (fun c wr => ∃ l : Nat, l ≤ t.length ∧ c = .int .i64 l ∧ Drawn W wr ∧ ∀ c, c < l → nth (row t (nth (row t k) j).toNat) c = nth (row t k) (nth (row t j) c).toNat) (fun c _ => t.length - (intOf c).toNat)
                      case atStart => exact ⟨0, by omega, rfl, HD4.out, fun i hi => absurd hi (by omega)⟩
                      case round =>
                        obtain ⟨l, hl, rfl, hd, hs5⟩ := hrel
                        have HS5 := Lib.hid hs5
                        have HD5 := Lib.hid hd
                        have hbox2 := (hd.cell ⟨w.heap.size, 0, none⟩).trans hbox
                        clear hs5 hd
                        by_cases hlt3 : l < t.length
                        · have hQ := HD5.out.sqt HQ.out
                          have hrk := hQ.row_ hlt
                          have hrj := hQ.row_ hlt2
                          obtain ⟨m1, hm1, HM1, hekj⟩ := hQ.idx hlt hlt2 ((HS.out k hlt).2 j hlt2)
                          obtain ⟨m2, hm2, HM2, hejl⟩ := hQ.idx hlt2 hlt3 ((HS.out j hlt2).2 l hlt3)
                          have hrm := hQ.row_ hm1
                          have heml := hQ.ent_ hm1 hlt3
                          have hekm := hQ.ent_ hlt hm2
                          have HQ5 := Lib.hid hQ
                          clear hQ
                          by_cases hq : nth (row t m1) l = nth (row t k) m2
                          · have hq' : (nth (row t m1) l != nth (row t k) m2) = false := by simp [hq]
                            have HQQ := Lib.hid hq
                            clear hq
                            go_wp2
                            go_quiet (fail)
                            go_wp2
                            go_roundw
                            case rel => exact ⟨l + 1, by omega, by go_num, HD5.out.more _, fun i hi => by
                              rcases Nat.lt_or_ge i l with h | h
                              · exact HS5.out i h
                              · obtain rfl : i = l := by omega
                                rw [HM1.out, HM2.out]
                                exact HQQ.out⟩
                            case measure => simp [intOf]; omega
                          · have hq' : (nth (row t m1) l != nth (row t k) m2) = true := by simp [hq]
                            have HQQ := Lib.hid hq
                            clear hq
                            go_wp2
                            go_quiet (fail)
                            go_wp2
                            go_ret
                            exact ⟨by
                              rw [grpB_false (fun h => HQQ.out (by
                                have := h.assoc k hlt j hlt2 l hlt3
                                unfold ent at this
                                rw [HM1.out, HM2.out] at this
                                exact this))]
                              rfl, hb0.trans ((HD5.out.more _).below _)⟩
                        · have hll : l = t.length := by omega
                          subst hll
                          go_wp2
                          go_roundw
                          case rel => exact ⟨j + 1, by omega, by go_num, by first | rw [HF'.out] | rw [HF'.out, HE2.out], HD5.out, fun i hi => by
                            rcases Nat.lt_or_ge i j with h | h
                            · exact HS4.out i h
                            · obtain rfl : i = j := by omega
                              exact HS5.out⟩
                          case measure => simp [intOf]; omega
                  · have hjj : j = t.length := by omega
                    subst hjj
                    cases hf : fnd t k t.length
                    · have HF := Lib.hid hf
                      clear hf
                      go_wp2
                      go_ret
                      exact ⟨by
                        rw [grpB_false (fun h => by
                          obtain ⟨b, h1, h2, h3⟩ := h.inv k hlt
                          have h4 : fnd t k t.length = true := by simp only [fnd, decide_eq_true_eq]; exact ⟨b, h1, h2, h3⟩
                          rw [HF.out] at h4
                          cases h4)]
                        rfl, hb0.trans (HD4.out.below _)⟩
                    · have HF := Lib.hid hf
                      clear hf
                      go_wp2
                      go_roundw
                      case rel => exact ⟨k + 1, by omega, by go_num, HD4.out, fun i hi => by
                        rcases Nat.lt_or_ge i k with h | h
                        · exact HS3.out i h
                        · obtain rfl : i = k := by omega
                          refine ⟨H1.out, H2.out, ?_, HS4.out⟩
                          have h4 := HF.out
                          simp only [fnd, decide_eq_true_eq] at h4
                          exact h4⟩
                      case measure => simp [intOf]; omega
              · have h1' : (nth (row t 0) k != (k : Int)) = false := by simp [h1]
                have h2' : (nth (row t k) 0 != (k : Int)) = true := by simp [h2]
                have H2 := Lib.hid h2
                clear h1 h2
                go_wp2
                go_ret
                exact ⟨by rw [grpB_false (fun h => H2.out (h.id k hlt).2)]; rfl, hb0.trans (HD.out.below _)⟩
            · have h1' : (nth (row t 0) k != (k : Int)) = true := by simp [h1]
              have H1 := Lib.hid h1
              clear h1
              go_wp2
              go_ret
              exact ⟨by rw [grpB_false (fun h => H1.out (h.id k hlt).1)]; rfl, hb0.trans (HD.out.below _)⟩
          · have hkk : k = t.length := by omega
            subst hkk
            go_wp2
            go_ret
            exact ⟨by rw [grpB_true (isGrp_of_asked hr0 hr1 HS.out HS3.out)]; rfl, hb0.trans (HD.out.below _)⟩
  · go_enter Tryz.func65, Tryz.ntmps65
    go_wp2_with (go_at_call 66; refine (l01In_no _ _ _ _ (by omega)).mono ?_; rintro e w' ⟨rfl, rfl⟩)
    go_ret
    exact ⟨by rw [grpB_false (fun h => hr ⟨by have := h.n1; omega, by have := h.n8; omega⟩)]; rfl, (Below.refl _ _).alloc (Nat.le_refl _) _⟩

end Go.Proofs.YtcdijeeabgmgmaaGreatDoor
