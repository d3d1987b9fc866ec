/- The program's three tests behind the test for tables. -/
import Derived.Test.YtdehalkebneaoaaDoorIt
import Derived.Test.YtdehalkebneaoaaDoorRng
import Derived.Test.YtdehalkebneaoaaDoorGrp
namespace Go.Proofs.YtdehalkebneaoaaDoor
open Go.RowKit Go.Shelf

attribute [local go_sem] Oper.semAt_some

/-- Is 0 a = a 0 = a at this element? -/
def KeepAt (t : List (List Int)) (a : Nat) : Prop := nth (row t 0) a = a ∧ nth (row t a) 0 = a

theorem keepB_true {t : List (List Int)} (h : ∀ x : Fin t.length, KeepAt t x.val) : keepB t = true := by
  simp only [keepB, decide_eq_true_eq]
  exact fun a ha => h ⟨a, ha⟩
theorem keepB_false {t : List (List Int)} (h : ∃ x : Fin t.length, ¬ KeepAt t x.val) : keepB t = false := by
  simp only [keepB, decide_eq_false_iff_not]
  obtain ⟨x, hx⟩ := h
  exact fun hk => hx (hk x.val x.isLt)

set_option maxRecDepth 100000 in
set_option maxHeartbeats 1000000 in
theorem keepsElements_any (t : List (List Int)) (c B b o : Nat) (bb oo C : Nat → Nat) (w : World) (hQ : SqT w B b o bb oo C t) (hB : B ≤ w.heap.size) (hI : IsTab t) :
    Calls Tryd.prog 118 #[.agg #[.slice (some ⟨b, o, none⟩) t.length c]] w fun e w' => e = .returned (.bool (keepB t)) ∧ Below w.heap.size w w' := by
  have hn1 := hI.n1
  have hn8 := hI.n8
  have HI := Lib.hid hI
  have HQ := Lib.hid hQ
  clear hI hQ
  refine (callsIn_wide (n := 8)).1 ?_
  refine callsIn_of_wp_marks Tryd.func118 rfl trivial ?_ rfl
  simp only [Tryd.ntmps118, List.size_toArray, List.length_cons, List.length_nil, Nat.reduceAdd, Nat.reduceSub, Array.replicate_succ, Array.replicate_zero, List.push_toArray, List.append_toArray, List.nil_append, List.cons_append]
  gi_wp2_with (refine ⟨trivial, ?_⟩; gi_at_call 101; refine (callsIn_wide.2 (elementsOf_any _ t.length c _)).mono ?_; rintro e w' ⟨rfl, rfl⟩)
  have bG := ((Boxed.new w 29 (.slice (some ⟨b, o, none⟩) t.length c)).alloc (.cells #[.bool false] 4)).alloc (.cells #[.slice (some ⟨b, o, none⟩) t.length c] 29)
  have bR := (Boxed.new (w.alloc (.cells #[.slice (some ⟨b, o, none⟩) t.length c] 29)) 4 (.bool false)).alloc (.cells #[.slice (some ⟨b, o, none⟩) t.length c] 29)
  have bE := Boxed.new ((w.alloc (.cells #[.slice (some ⟨b, o, none⟩) t.length c] 29)).alloc (.cells #[.bool false] 4)) 29 (.slice (some ⟨b, o, none⟩) t.length c)
  have hB0 : Below w.heap.size w (((w.alloc (.cells #[.slice (some ⟨b, o, none⟩) t.length c] 29)).alloc (.cells #[.bool false] 4)).alloc (.cells #[.slice (some ⟨b, o, none⟩) t.length c] 29)) :=
    (((Below.refl _ w).alloc (Nat.le_refl _) _).alloc (by simp) _).alloc (by simp; omega) _
  have hsz : (((w.alloc (.cells #[.slice (some ⟨b, o, none⟩) t.length c] 29)).alloc (.cells #[.bool false] 4)).alloc (.cells #[.slice (some ⟨b, o, none⟩) t.length c] 29)).heap.size = w.heap.size + 1 + 1 + 1 := by simp
  simp only [World.size_alloc] at bR bE
  obtain ⟨W0, hW0⟩ : ∃ W0, ((w.alloc (.cells #[.slice (some ⟨b, o, none⟩) t.length c] 29)).alloc (.cells #[.bool false] 4)).alloc (.cells #[.slice (some ⟨b, o, none⟩) t.length c] 29) = W0 := ⟨_, rfl⟩
  rw [hW0] at bG bR bE hB0 hsz ⊢
  clear hW0
  refine range_top (n := 8) (n₀ := w.heap.size) (by omega) (gf := 147) (lb := #[.pointer (some ⟨w.heap.size + 1 + 1, 0, none⟩)]) rfl (enters_of Tryd.func147 (by kernel_rfl) rfl)
    (elements_stops 7 (by omega) (w.heap.size + 1 + 1) w.heap.size t.length c _ W0 (by omega) bE.cell (by omega)) (by omega) (fun _ => rfl)
    (fun pre W => ((∀ x ∈ pre, KeepAt t x.val) ∧ Boxed W (w.heap.size + 1) 4 (.bool false)) ∧ Boxed W w.heap.size 29 (.slice (some ⟨b, o, none⟩) t.length c))
    (fun c' _ W => (c' = .ret ∧ ∃ x : Fin t.length, ¬ KeepAt t x.val) ∧ Boxed W (w.heap.size + 1) 4 (.bool false))
    (OwnFrom.and (OwnFrom.and (ownFrom_pure _ _) (Own.from (boxed_own _ _ _) _)) (Own.from (boxed_own _ _ _) _))
    (fun _ => OwnFrom.and (ownFrom_pure _ _) (Own.from (boxed_own _ _ _) _))
    ⟨⟨by simp, bR⟩, bG⟩ ?round ?done ?stop
  case round =>
    intro l x W K hK
    have HK := Lib.hid hK
    clear hK
    gi_wp2
    refine HK.out _ ?_
    clear HK
    rintro l pre W hr ⟨⟨hp, bR1⟩, bG1⟩ hKW _
    obtain ⟨k, hlt⟩ := x
    have HKW := Lib.hid hKW
    have HP := Lib.hid hp
    have HBR := Lib.hid bR1
    have HBG := Lib.hid bG1
    have hQ := (HQ.out.below hB0 hB).below hKW.1 hB
    have hbox := bG1.cell
    have hres := bR1.cell
    have hfre := bR1.frozen
    have hr0 := hQ.row0 (by omega)
    have hrk := hQ.row_ hlt
    have he0 := hQ.ent_ (show 0 < t.length by omega) hlt
    have hek := hQ.ent0 hlt
    clear hQ hKW hp bR1 bG1
    by_cases h1 : nth (row t 0) k = k
    · by_cases h2 : nth (row t k) 0 = k
      · have h1' : (nth (row t 0) k != (k : Int)) = false := by simp [h1]
        have h2' : (nth (row t k) 0 != (k : Int)) = false := by simp [h2]
        have H1 := Lib.hid h1
        have H2 := Lib.hid h2
        clear h1 h2
        gi_wp2
        exact ⟨Keeps.refl _ _, ⟨fun y hy => (List.mem_append.1 hy).elim (HP.out y) (fun e => by simp at e; subst e; exact ⟨H1.out, H2.out⟩), HBR.out⟩, HBG.out⟩
      · have h1' : (nth (row t 0) k != (k : Int)) = false := by simp [h1]
        have h2' : (nth (row t k) 0 != (k : Int)) = true := by simp [h2]
        have H2 := Lib.hid h2
        clear h1 h2
        gi_wp2
        exact ⟨(Keeps.refl _ _).setCell (p := ⟨w.heap.size + 1, 0, none⟩) (by simp) _, ⟨rfl, ⟨k, hlt⟩, fun h => H2.out h.2⟩, HBR.out.set _⟩
    · have h1' : (nth (row t 0) k != (k : Int)) = true := by simp [h1]
      have H1 := Lib.hid h1
      clear h1
      gi_wp2
      exact ⟨(Keeps.refl _ _).setCell (p := ⟨w.heap.size + 1, 0, none⟩) (by simp) _, ⟨rfl, ⟨k, hlt⟩, fun h => H1.out h.1⟩, HBR.out.set _⟩
  case done =>
    rintro D xs W hD rfl ⟨⟨hp, bR1⟩, _⟩ hKW hK
    have hres := bR1.cell
    have hfre := bR1.frozen
    have HP := Lib.hid hp
    have HKW := Lib.hid hKW
    clear hp hKW
    gi_wp2
    have hK' := (KeepsOthers.setCell W ⟨w.heap.size + 1, 0, none⟩ (.bool true)).same D _ hK rfl
    refine ⟨by simp, .inl ⟨_, _, rfl, run_takeDeferred hK', ?_⟩⟩
    have hc5 := cell_kept (bR1.set (.bool true)).cell (grownBy_putObj' _ D (.deferred none)) (fun r e => by cases e; exact ⟨_, hK', rfl⟩)
    refine ⟨.bool true, ?_, by rw [keepB_true (fun x => HP.out x (List.mem_finRange x))], ((hB0.trans HKW.out.1).setCell (p := ⟨w.heap.size + 1, 0, none⟩) (by simp) _).trans (belowK_b (w := w) (Nat.le_refl _) _ D _ _ (by omega) hK' rfl rfl)⟩
    simp [results, Tryd.f118, go_sem, hc5]
  case stop =>
    rintro D c' pre W hD hpre ⟨⟨rfl, hx⟩, bR1⟩ hKW hK
    have HX := Lib.hid hx
    have HKW := Lib.hid hKW
    clear hx hKW
    gi_wp2
    refine ⟨by simp, .inl ⟨_, _, rfl, run_takeDeferred hK, ?_⟩⟩
    have hc5 := cell_kept bR1.cell (grownBy_putObj' _ D (.deferred none)) (fun r e => by cases e; exact ⟨_, hK, rfl⟩)
    refine ⟨.bool false, ?_, by rw [keepB_false HX.out], (hB0.trans HKW.out.1).trans (belowK_b (w := w) (Nat.le_refl _) W D _ _ (by omega) hK rfl rfl)⟩
    simp [results, Tryd.f118, go_sem, hc5]

set_option maxHeartbeats 400000 in
/-- slices.Index: the first place of a number. -/
theorem index_found (A : Option Addr) (xs : List Int) (v : Int) (m c B : Nat) (w : World) (hR : Ints w B A xs) (hn : xs.length ≤ 1048576) (hm : m < xs.length) (hv : nth xs m = v) (hl : ∀ j, j < m → nth xs j ≠ v) :
    Calls Tryd.prog 143 #[.slice A xs.length c, .int .i64 v] w fun e w' => e = .returned (.int .i64 (m : Int)) ∧ w = w' := by
  have HV := Lib.hid hv
  have HL := Lib.hid hl
  clear hv hl
  go_enter Tryd.func143, Tryd.ntmps143
  go_wp2
  go_loop [8] (fun i => ∃ k : Nat, k ≤ m ∧ i = .int .i64 k) (fun i => xs.length - (intOf i).toNat)
  case atStart => exact ⟨0, by omega, rfl⟩
  case round =>
    obtain ⟨k, hk, rfl⟩ := hrel
    have hlt : k < xs.length := by omega
    obtain ⟨b, o, rfl, hb, hcell⟩ := hR.at_ hlt
    have HR := Lib.hid hR
    clear hR
    by_cases hkm : k = m
    · subst hkm
      have hq : (v == nth xs k) = true := by rw [HV.out]; simp
      go_wp2
      go_ret
      exact ⟨rfl, rfl⟩
    · have hq : (v == nth xs k) = false := by
        have := HL.out k (by omega)
        simp; exact fun e => this e.symm
      go_wp2
      go_round
      case rel => exact ⟨k + 1, by omega, by go_num⟩
      case measure => simp [intOf]; omega

set_option maxHeartbeats 400000 in
theorem index_none (A : Option Addr) (xs : List Int) (v : Int) (c B : Nat) (w : World) (hR : Ints w B A xs) (hn : xs.length ≤ 1048576) (hl : ∀ j, j < xs.length → nth xs j ≠ v) :
    Calls Tryd.prog 143 #[.slice A xs.length c, .int .i64 v] w fun e w' => e = .returned (.int .i64 (-1)) ∧ w = w' := by
  have HL := Lib.hid hl
  clear hl
  go_enter Tryd.func143, Tryd.ntmps143
  go_wp2
  go_loop [8] (fun i => ∃ k : Nat, k ≤ xs.length ∧ i = .int .i64 k) (fun i => xs.length - (intOf i).toNat)
  case atStart => exact ⟨0, by omega, rfl⟩
  case round =>
    obtain ⟨k, hk, rfl⟩ := hrel
    by_cases hlt : k < xs.length
    · obtain ⟨b, o, rfl, hb, hcell⟩ := hR.at_ hlt
      have HR := Lib.hid hR
      clear hR
      have hq : (v == nth xs k) = false := by
        have := HL.out k (by omega)
        simp; exact fun e => this e.symm
      go_wp2
      go_round
      case rel => exact ⟨k + 1, by omega, by go_num⟩
      case measure => simp [intOf]; omega
    · have hkk : k = xs.length := by omega
      subst hkk
      go_wp2
      go_ret
      exact ⟨rfl, rfl⟩

/-- The first 0 of the row of a is at an inverse. -/
def InvAt (t : List (List Int)) (a : Nat) : Prop := ∃ b, b < t.length ∧ nth (row t a) b = 0 ∧ (∀ c, c < b → nth (row t a) c ≠ 0) ∧ nth (row t b) a = 0
theorem invB_true {t : List (List Int)} (h : ∀ x : Fin t.length, InvAt t x.val) : invB t = true := by
  simp only [invB, decide_eq_true_eq]
  exact fun a ha => h ⟨a, ha⟩
theorem invB_false {t : List (List Int)} (h : ∃ x : Fin t.length, ¬ InvAt t x.val) : invB t = false := by
  simp only [invB, decide_eq_false_iff_not]
  obtain ⟨x, hx⟩ := h
  exact fun hk => hx (hk x.val x.isLt)

set_option maxRecDepth 100000 in
set_option maxHeartbeats 1000000 in
theorem hasInverses_any (t : List (List Int)) (c B b o : Nat) (bb oo C : Nat → Nat) (w : World) (hQ : SqT w B b o bb oo C t) (hB : B ≤ w.heap.size) (hI : IsTab t) :
    Calls Tryd.prog 120 #[.agg #[.slice (some ⟨b, o, none⟩) t.length c]] w fun e w' => e = .returned (.bool (invB t)) ∧ Below w.heap.size w w' := by
  have hn1 := hI.n1
  have hn8 := hI.n8
  have HI := Lib.hid hI
  have HQ := Lib.hid hQ
  clear hI hQ
  refine (callsIn_wide (n := 8)).1 ?_
  refine callsIn_of_wp_marks Tryd.func120 rfl trivial ?_ rfl
  simp only [Tryd.ntmps120, List.size_toArray, List.length_cons, List.length_nil, Nat.reduceAdd, Nat.reduceSub, Array.replicate_succ, Array.replicate_zero, List.push_toArray, List.append_toArray, List.nil_append, List.cons_append]
  gi_wp2_with (refine ⟨trivial, ?_⟩; gi_at_call 101; refine (callsIn_wide.2 (elementsOf_any _ t.length c _)).mono ?_; rintro e w' ⟨rfl, rfl⟩)
  have bG := ((Boxed.new w 29 (.slice (some ⟨b, o, none⟩) t.length c)).alloc (.cells #[.bool false] 4)).alloc (.cells #[.slice (some ⟨b, o, none⟩) t.length c] 29)
  have bR := (Boxed.new (w.alloc (.cells #[.slice (some ⟨b, o, none⟩) t.length c] 29)) 4 (.bool false)).alloc (.cells #[.slice (some ⟨b, o, none⟩) t.length c] 29)
  have bE := Boxed.new ((w.alloc (.cells #[.slice (some ⟨b, o, none⟩) t.length c] 29)).alloc (.cells #[.bool false] 4)) 29 (.slice (some ⟨b, o, none⟩) t.length c)
  have hB0 : Below w.heap.size w (((w.alloc (.cells #[.slice (some ⟨b, o, none⟩) t.length c] 29)).alloc (.cells #[.bool false] 4)).alloc (.cells #[.slice (some ⟨b, o, none⟩) t.length c] 29)) :=
    (((Below.refl _ w).alloc (Nat.le_refl _) _).alloc (by simp) _).alloc (by simp; omega) _
  have hsz : (((w.alloc (.cells #[.slice (some ⟨b, o, none⟩) t.length c] 29)).alloc (.cells #[.bool false] 4)).alloc (.cells #[.slice (some ⟨b, o, none⟩) t.length c] 29)).heap.size = w.heap.size + 1 + 1 + 1 := by simp
  simp only [World.size_alloc] at bR bE
  obtain ⟨W0, hW0⟩ : ∃ W0, ((w.alloc (.cells #[.slice (some ⟨b, o, none⟩) t.length c] 29)).alloc (.cells #[.bool false] 4)).alloc (.cells #[.slice (some ⟨b, o, none⟩) t.length c] 29) = W0 := ⟨_, rfl⟩
  rw [hW0] at bG bR bE hB0 hsz ⊢
  clear hW0
  refine range_top (n := 8) (n₀ := w.heap.size) (by omega) (gf := 147) (lb := #[.pointer (some ⟨w.heap.size + 1 + 1, 0, none⟩)]) rfl (enters_of Tryd.func147 (by kernel_rfl) rfl)
    (elements_stops 7 (by omega) (w.heap.size + 1 + 1) w.heap.size t.length c _ W0 (by omega) bE.cell (by omega)) (by omega) (fun _ => rfl)
    (fun pre W => ((∀ x ∈ pre, InvAt t x.val) ∧ Boxed W (w.heap.size + 1) 4 (.bool false)) ∧ Boxed W w.heap.size 29 (.slice (some ⟨b, o, none⟩) t.length c))
    (fun c' _ W => (c' = .ret ∧ ∃ x : Fin t.length, ¬ InvAt t x.val) ∧ Boxed W (w.heap.size + 1) 4 (.bool false))
    (OwnFrom.and (OwnFrom.and (ownFrom_pure _ _) (Own.from (boxed_own _ _ _) _)) (Own.from (boxed_own _ _ _) _))
    (fun _ => OwnFrom.and (ownFrom_pure _ _) (Own.from (boxed_own _ _ _) _))
    ⟨⟨by simp, bR⟩, bG⟩ ?round ?done ?stop
  case round =>
    intro l x W K hK
    have HK := Lib.hid hK
    clear hK
    gi_wp2
    refine HK.out _ ?_
    clear HK
    rintro l pre W hr ⟨⟨hp, bR1⟩, bG1⟩ hKW _
    obtain ⟨k, hlt⟩ := x
    have HKW := Lib.hid hKW
    have HP := Lib.hid hp
    have HBR := Lib.hid bR1
    have HBG := Lib.hid bG1
    have hQ := (HQ.out.below hB0 hB).below hKW.1 hB
    have hbox := bG1.cell
    have hres := bR1.cell
    have hfre := bR1.frozen
    have hrk := hQ.row_ hlt
    have hlen := HI.out.sq k hlt
    have hints : Ints W B (some ⟨bb k, oo k, none⟩) (row t k) := .inr ⟨bb k, oo k, rfl, (hQ.2 k hlt).2.1, fun j hj => hQ.ent_ hlt (by rw [hlen] at hj; exact hj)⟩
    have HLEN := Lib.hid hlen
    have HINTS := Lib.hid hints
    have HQW := Lib.hid hQ
    clear hKW hp bR1 bG1 hlen hints hQ
    by_cases hz : ∃ j, j < t.length ∧ nth (row t k) j = 0
    · obtain ⟨j0, hj0, hz0⟩ := hz
      obtain ⟨m, hm, hm0, hml⟩ := least_zero (fun c => nth (row t k) c) j0 hz0
      have hmt : m < t.length := by omega
      have hcon := index_found (some ⟨bb k, oo k, none⟩) (row t k) 0 m (C k) B W HINTS.out (by rw [HLEN.out]; omega) (by rw [HLEN.out]; exact hmt) hm0 hml
      rw [HLEN.out] at hcon
      have HCON := Lib.hid hcon
      have hrm := HQW.out.row_ hmt
      have hem := HQW.out.ent_ hmt hlt
      have HM0 := Lib.hid hm0
      have HML := Lib.hid hml
      clear hcon hz0 hm0 hml
      by_cases h2 : nth (row t m) k = 0
      · have h2' : (nth (row t m) k != 0) = false := by simp [h2]
        have H2 := Lib.hid h2
        clear h2
        gi_wp2_with (refine ⟨trivial, ?_⟩; gi_at_call 143; refine (CallsIn.inRound l (callsIn_wide.2 HCON.out)).mono ?_; rintro e w' ⟨rfl, rfl⟩)
        exact ⟨Keeps.refl _ _, ⟨fun y hy => (List.mem_append.1 hy).elim (HP.out y) (fun e => by simp at e; subst e; exact ⟨m, hmt, HM0.out, HML.out, H2.out⟩), HBR.out⟩, HBG.out⟩
      · have h2' : (nth (row t m) k != 0) = true := by simp [h2]
        have H2 := Lib.hid h2
        clear h2
        gi_wp2_with (refine ⟨trivial, ?_⟩; gi_at_call 143; refine (CallsIn.inRound l (callsIn_wide.2 HCON.out)).mono ?_; rintro e w' ⟨rfl, rfl⟩)
        exact ⟨(Keeps.refl _ _).setCell (p := ⟨w.heap.size + 1, 0, none⟩) (by simp) _, ⟨rfl, ⟨k, hlt⟩, fun h => by
          obtain ⟨m', _, e1, e2, e3⟩ := h
          obtain rfl : m' = m := by
            rcases Nat.lt_trichotomy m' m with h | h | h
            · exact absurd e1 (HML.out m' h)
            · exact h
            · exact absurd HM0.out (e2 m h)
          exact H2.out e3⟩, HBR.out.set _⟩
    · have hcon := index_none (some ⟨bb k, oo k, none⟩) (row t k) 0 (C k) B W HINTS.out (by rw [HLEN.out]; omega) (fun j hj h0 => hz ⟨j, by rw [HLEN.out] at hj; exact hj, h0⟩)
      rw [HLEN.out] at hcon
      have HCON := Lib.hid hcon
      have HZ := Lib.hid hz
      clear hcon hz
      gi_wp2_with (refine ⟨trivial, ?_⟩; gi_at_call 143; refine (CallsIn.inRound l (callsIn_wide.2 HCON.out)).mono ?_; rintro e w' ⟨rfl, rfl⟩)
      exact ⟨(Keeps.refl _ _).setCell (p := ⟨w.heap.size + 1, 0, none⟩) (by simp) _, ⟨rfl, ⟨k, hlt⟩, fun h => by
        obtain ⟨m', e0, e1, _, _⟩ := h
        exact HZ.out ⟨m', e0, e1⟩⟩, HBR.out.set _⟩
  case done =>
    rintro D xs W hD rfl ⟨⟨hp, bR1⟩, _⟩ hKW hK
    have hres := bR1.cell
    have hfre := bR1.frozen
    have HP := Lib.hid hp
    have HKW := Lib.hid hKW
    clear hp hKW
    gi_wp2
    have hK' := (KeepsOthers.setCell W ⟨w.heap.size + 1, 0, none⟩ (.bool true)).same D _ hK rfl
    refine ⟨by simp, .inl ⟨_, _, rfl, run_takeDeferred hK', ?_⟩⟩
    have hc5 := cell_kept (bR1.set (.bool true)).cell (grownBy_putObj' _ D (.deferred none)) (fun r e => by cases e; exact ⟨_, hK', rfl⟩)
    refine ⟨.bool true, ?_, by rw [invB_true (fun x => HP.out x (List.mem_finRange x))], ((hB0.trans HKW.out.1).setCell (p := ⟨w.heap.size + 1, 0, none⟩) (by simp) _).trans (belowK_b (w := w) (Nat.le_refl _) _ D _ _ (by omega) hK' rfl rfl)⟩
    simp [results, Tryd.f120, go_sem, hc5]
  case stop =>
    rintro D c' pre W hD hpre ⟨⟨rfl, hx⟩, bR1⟩ hKW hK
    have HX := Lib.hid hx
    have HKW := Lib.hid hKW
    clear hx hKW
    gi_wp2
    refine ⟨by simp, .inl ⟨_, _, rfl, run_takeDeferred hK, ?_⟩⟩
    have hc5 := cell_kept bR1.cell (grownBy_putObj' _ D (.deferred none)) (fun r e => by cases e; exact ⟨_, hK, rfl⟩)
    refine ⟨.bool false, ?_, by rw [invB_false HX.out], (hB0.trans HKW.out.1).trans (belowK_b (w := w) (Nat.le_refl _) W D _ _ (by omega) hK rfl rfl)⟩
    simp [results, Tryd.f120, go_sem, hc5]

end Go.Proofs.YtdehalkebneaoaaDoor
