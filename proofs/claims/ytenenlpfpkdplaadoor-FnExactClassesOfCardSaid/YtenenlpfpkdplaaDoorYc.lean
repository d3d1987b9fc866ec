/- Classes: the model, and the set of a class by the program. -/
import Derived.Test.YtenenlpfpkdplaaDoorCm
namespace Go.Proofs.YtenenlpfpkdplaaDoor
open Go.RowKit Go.Shelf

attribute [local go_sem] Oper.semAt_some

/-- The class of an element. -/
noncomputable def cls (t : List (List Int)) (a : Nat) : Nat := rowF (con t) a 0 (List.range t.length)
theorem cls_lt {t : List (List Int)} (hg : IsGrp t) {a : Nat} (ha : a < t.length) : cls t a < 2 ^ t.length := rowF_lt (fun _ hb => con_lt hg ha (List.mem_range.1 hb)) (Nat.two_pow_pos _)
theorem rowF_keep {f : Nat → Nat → Nat} {a x : Nat} : ∀ (bs : List Nat) (m : Nat), m.testBit x = true → (rowF f a m bs).testBit x = true
  | [], _, h => h
  | b :: bs, m, h => rowF_keep bs (m ||| 2 ^ f a b) (by rw [Nat.testBit_or, h, Bool.true_or])
theorem rowF_bit {f : Nat → Nat → Nat} {a b : Nat} : ∀ (bs : List Nat) (m : Nat), b ∈ bs → (rowF f a m bs).testBit (f a b) = true
  | [], _, h => by cases h
  | c :: bs, m, h => by
    rcases List.mem_cons.1 h with rfl | h
    · exact rowF_keep bs _ (by rw [Nat.testBit_or, Nat.testBit_two_pow_self, Bool.or_true])
    · exact rowF_bit bs _ h
theorem cls_pos {t : List (List Int)} (hg : IsGrp t) {a : Nat} (ha : a < t.length) : 0 < (elI (cls t a)).length := by
  have h1 := hg.n1
  have h8 := hg.n8
  have hc := con_lt hg ha h1
  have hb : (cls t a).testBit (con t a 0) = true := rowF_bit _ _ (List.mem_range.2 h1)
  rw [elI_len]
  exact List.length_pos_of_mem (a := con t a 0) (List.mem_filter.2 ⟨List.mem_range.2 (by omega), hb⟩)
theorem elI_le (s : Nat) : (elI s).length ≤ 8 := by rw [elI_selI]; exact selI_len

noncomputable def ccStep (t : List (List Int)) (S : Nat × List Nat) (a : Nat) : Nat × List Nat := if S.1.testBit a = true then S else (S.1 ||| cls t a, S.2 ++ [cls t a])
noncomputable def ccF (t : List (List Int)) (l : List Nat) : Nat × List Nat := l.foldl (ccStep t) (0, [])
theorem ccF_snoc (t : List (List Int)) (l : List Nat) (a : Nat) : ccF t (l ++ [a]) = ccStep t (ccF t l) a := by simp [ccF, List.foldl_append]
theorem ccStep_old {t : List (List Int)} {S : Nat × List Nat} {a : Nat} (h : S.1.testBit a = true) : ccStep t S a = S := by rw [ccStep, if_pos h]
theorem ccStep_new {t : List (List Int)} {S : Nat × List Nat} {a : Nat} (h : S.1.testBit a = false) : ccStep t S a = (S.1 ||| cls t a, S.2 ++ [cls t a]) := by rw [ccStep, if_neg (by simp [h])]
structure CcB (t : List (List Int)) (k : Nat) (S : Nat × List Nat) : Prop where
  met : S.1 < 2 ^ t.length
  len : S.2.length ≤ k
theorem ccStep_b {t : List (List Int)} (hg : IsGrp t) {k a : Nat} {S : Nat × List Nat} (h : CcB t k S) (ha : a < t.length) : CcB t (k + 1) (ccStep t S a) := by
  cases hm : S.1.testBit a with
  | true =>
    rw [ccStep_old hm]
    exact ⟨h.met, Nat.le_succ_of_le h.len⟩
  | false =>
    rw [ccStep_new hm]
    refine ⟨Nat.or_lt_two_pow h.met (cls_lt hg ha), ?_⟩
    show (_ ++ [_]).length ≤ _
    have := h.len
    simp
    omega
theorem ccF_b {t : List (List Int)} (hg : IsGrp t) (l : List Nat) (hl : ∀ a ∈ l, a < t.length) : CcB t l.length (ccF t l) := by
  have key : ∀ (l : List Nat) (k : Nat) (S : Nat × List Nat), CcB t k S → (∀ a ∈ l, a < t.length) → CcB t (k + l.length) (l.foldl (ccStep t) S) := by
    intro l
    induction l with
    | nil => exact fun k S h _ => h
    | cons a l ih =>
      intro k S h hl
      have h2 := ih (k + 1) _ (ccStep_b hg h (hl a (by simp))) fun x hx => hl x (by simp [hx])
      rw [show k + (a :: l).length = k + 1 + l.length by simp; omega]
      exact h2
  have h := key l 0 (0, []) ⟨Nat.two_pow_pos _, Nat.le_refl _⟩ hl
  rw [Nat.zero_add] at h
  exact h

noncomputable def yClassesOf0 (t : List (List Int)) : List (List Int) := if grpB t = true then (ccF t (List.range t.length)).2.map elI else []
noncomputable def qClassesOf1 (t : List (List Int)) : Int := if grpB t = true then 0 else 1
theorem cc_no {t : List (List Int)} (h : grpB t = false) : yClassesOf0 t = [] ∧ qClassesOf1 t = 1 := by simp [yClassesOf0, qClassesOf1, h]
theorem cc_yes {t : List (List Int)} (h : grpB t = true) : yClassesOf0 t = (ccF t (List.range t.length)).2.map elI ∧ qClassesOf1 t = 0 := by simp [yClassesOf0, qClassesOf1, h]
theorem row_map_len (l : List Nat) (i : Nat) : (row (l.map elI) i).length ≤ 8 := by
  unfold row
  rw [List.getElem?_map]
  cases l[i]? with
  | none => simp
  | some s => exact elI_le s
theorem classesOf_small0 (t : List (List Int)) : SmallT (yClassesOf0 t) := by
  cases hg : grpB t with
  | false =>
    rw [(cc_no hg).1]
    exact ⟨by simp, fun i hi => by simp at hi⟩
  | true =>
    have hgr := grpB_iff.1 hg
    have h8 := hgr.n8
    have hl := (ccF_b hgr (List.range t.length) fun a ha => List.mem_range.1 ha).len
    rw [List.length_range] at hl
    rw [(cc_yes hg).1]
    refine ⟨by rw [List.length_map]; omega, fun i hi => ?_⟩
    have := row_map_len (ccF t (List.range t.length)).2 i
    omega

set_option maxRecDepth 100000 in
set_option maxHeartbeats 2000000 in
theorem classSet_any (A : Option Addr) (t : List (List Int)) (c a : Nat) (w : World) (hR : RwsW w A t) (hg : IsGrp t) (ha : a < t.length) :
    Calls Tryd.prog 94 #[.agg #[.slice A t.length c], .int .i64 (a : Int)] w fun e w' => e = .returned (.int .u64 (cls t a : Int)) ∧ Ex w w' := by
  have hn8 := hg.n8
  have HRW := Lib.hid hR
  have HG := Lib.hid hg
  clear hR hg
  refine (callsIn_wide (n := 8)).1 ?_
  refine callsIn_of_wp_marks Tryd.func94 rfl trivial ?_ rfl
  simp only [Tryd.ntmps94, List.size_toArray, List.length_cons, List.length_nil, Nat.reduceAdd, Nat.reduceSub, Array.replicate_succ, Array.replicate_zero, List.push_toArray, List.append_toArray, List.nil_append, List.cons_append]
  gi_wp2_with (refine ⟨trivial, ?_⟩; gi_at_call 92; refine (callsIn_wide.2 (elementsOf_any _ t.length c _)).mono ?_; rintro e w' ⟨rfl, rfl⟩)
  have e0 : Ex w ((((w.alloc (.cells #[.slice A t.length c] 35)).alloc (.cells #[.int .i64 (a : Int)] 2)).alloc (.cells #[.int .u64 0] 78)).alloc (.cells #[.slice A t.length c] 35)) := ((((Ex.refl w).alloc _).alloc _).alloc _).alloc _
  have b0 : Has ((((w.alloc (.cells #[.slice A t.length c] 35)).alloc (.cells #[.int .i64 (a : Int)] 2)).alloc (.cells #[.int .u64 0] 78)).alloc (.cells #[.slice A t.length c] 35)) (w.heap.size) 35 #[.slice A t.length c] := ((((Has.newAt (w := w) (e := 35) (cs := #[.slice A t.length c]) (k := w.heap.size) (by simp)).alloc _).alloc _).alloc _)
  have b1 : Has ((((w.alloc (.cells #[.slice A t.length c] 35)).alloc (.cells #[.int .i64 (a : Int)] 2)).alloc (.cells #[.int .u64 0] 78)).alloc (.cells #[.slice A t.length c] 35)) (w.heap.size + 1) 2 #[.int .i64 (a : Int)] := (((Has.newAt (w := (w.alloc (.cells #[.slice A t.length c] 35))) (e := 2) (cs := #[.int .i64 (a : Int)]) (k := w.heap.size + 1) (by simp)).alloc _).alloc _)
  have b2 : Has ((((w.alloc (.cells #[.slice A t.length c] 35)).alloc (.cells #[.int .i64 (a : Int)] 2)).alloc (.cells #[.int .u64 0] 78)).alloc (.cells #[.slice A t.length c] 35)) (w.heap.size + 1 + 1) 78 #[.int .u64 0] := ((Has.newAt (w := ((w.alloc (.cells #[.slice A t.length c] 35)).alloc (.cells #[.int .i64 (a : Int)] 2))) (e := 78) (cs := #[.int .u64 0]) (k := w.heap.size + 1 + 1) (by simp)).alloc _)
  have b3 : Has ((((w.alloc (.cells #[.slice A t.length c] 35)).alloc (.cells #[.int .i64 (a : Int)] 2)).alloc (.cells #[.int .u64 0] 78)).alloc (.cells #[.slice A t.length c] 35)) (w.heap.size + 1 + 1 + 1) 35 #[.slice A t.length c] := (Has.newAt (w := (((w.alloc (.cells #[.slice A t.length c] 35)).alloc (.cells #[.int .i64 (a : Int)] 2)).alloc (.cells #[.int .u64 0] 78))) (e := 35) (cs := #[.slice A t.length c]) (k := w.heap.size + 1 + 1 + 1) (by simp))
  have hsz : ((((w.alloc (.cells #[.slice A t.length c] 35)).alloc (.cells #[.int .i64 (a : Int)] 2)).alloc (.cells #[.int .u64 0] 78)).alloc (.cells #[.slice A t.length c] 35)).heap.size = w.heap.size + 1 + 1 + 1 + 1 := by simp
  generalize ((((w.alloc (.cells #[.slice A t.length c] 35)).alloc (.cells #[.int .i64 (a : Int)] 2)).alloc (.cells #[.int .u64 0] 78)).alloc (.cells #[.slice A t.length c] 35)) = W0 at *
  obtain ⟨D, hD⟩ : ∃ D, w.heap.size + 1 + 1 = D := ⟨_, rfl⟩
  rw [hD] at b2 b3 hsz ⊢
  refine range_top (n := 8) (n₀ := w.heap.size) (by omega) (gf := 141) (lb := #[.pointer (some ⟨D + 1, 0, none⟩)]) rfl (enters_of Tryd.func141 (by kernel_rfl) rfl)
    (elements_stops 7 (by omega) (D + 1) w.heap.size t.length c _ W0 (by omega) (b3.cell 0) (by omega)) (by omega) (fun _ => rfl)
    (fun pre W => Has W D 78 #[.int .u64 (rowF (con t) a 0 (pre.map fun x => x.val) : Int)] ∧ Has W w.heap.size 35 #[.slice A t.length c] ∧ Has W (w.heap.size + 1) 2 #[.int .i64 (a : Int)])
    (fun c' _ W => False)
    (OwnFrom.and (Own.from (has_own _ _ _) _) (OwnFrom.and (Own.from (has_own _ _ (fun _ => #[.slice A t.length c])) _) (Own.from (has_own _ _ (fun _ => #[.int .i64 (a : Int)])) _)))
    (fun _ => ownFrom_pure _ _)
    ⟨b2, b0, b1⟩ ?round ?done ?stop
  case stop =>
    rintro D' c' pre W hD' hpre h
    exact h.elim
  case done =>
    rintro D' xs W hD' rfl ⟨bS1, _⟩ hKW hK
    rw [fin_val, show rowF (con t) a 0 (List.range t.length) = cls t a from rfl] at bS1
    have hs := bS1.cell 0
    have HKW := Lib.hid hKW
    clear hKW bS1
    gi_wp2
    refine ⟨by simp, .inl ⟨_, _, rfl, run_takeDeferred hK, ?_⟩⟩
    exact ⟨_, results_tmp rfl _ _ _, rfl, ((Ex.below e0).trans HKW.out.1).trans (belowK_b (w := w) (Nat.le_refl _) W D' _ _ (by omega) hK rfl rfl)⟩
  case round =>
    intro l x W K hK
    have HK := Lib.hid hK
    clear hK
    gi_wp2
    refine HK.out _ ?_
    clear HK
    rintro l pre W7 hr ⟨bS, bG, bA⟩ hKW _
    obtain ⟨k, hk⟩ := x
    have hE7 : Ex w W7 := e0.trans' hKW.1 (by omega)
    have hRN : rowF (con t) a 0 ((pre ++ [(⟨k, hk⟩ : Fin t.length)]).map fun x => x.val) = rowF (con t) a 0 (pre.map fun x => x.val) ||| 2 ^ con t a k := by rw [List.map_append]; exact rowF_snoc _ _ _ _
    have hRl := lt256 hn8 (rowF_lt (f := con t) (a := a) (m := 0) (fun b hb => con_lt HG.out ha (by
      obtain ⟨y, _, rfl⟩ := List.mem_map.1 hb
      exact y.isLt)) (Nat.two_pow_pos _) : rowF (con t) a 0 (pre.map fun x => x.val) < 2 ^ t.length)
    have hx8 : con t a k < 8 := by have := con_lt HG.out ha hk; omega
    have HE7 := Lib.hid hE7
    have HCO := Lib.hid (fun W' (he : Ex W7 W') => conjugateOf_any A t c a k W' (HRW.out.ex (HE7.out.trans he)) HG.out ha hk)
    have HRN := Lib.hid hRN
    clear hRN hE7
    obtain ⟨x, hx⟩ : ∃ x, con t a k = x := ⟨_, rfl⟩
    obtain ⟨R, hRe⟩ : ∃ R, rowF (con t) a 0 (pre.map fun x => x.val) = R := ⟨_, rfl⟩
    rw [hx] at HCO hx8
    rw [hx, hRe] at HRN
    rw [hRe] at hRl bS
    clear hx hRe
    have HBS := Lib.hid bS
    have HBG := Lib.hid bG
    have HBA := Lib.hid bA
    have HF := Lib.hid (fun W' (he : Ex W7 W') => (⟨(HBS.out.ex he).cell 0, (HBG.out.ex he).cell 0, (HBA.out.ex he).cell 0⟩ : W'.cell? ⟨D, 0, none⟩ = some (.int .u64 (R : Int)) ∧ W'.cell? ⟨w.heap.size, 0, none⟩ = some (.slice A t.length c) ∧ W'.cell? ⟨w.heap.size + 1, 0, none⟩ = some (.int .i64 (a : Int))))
    have hzw : w.heap.size ≤ W7.heap.size := HE7.out.size
    clear bS bG bA hKW
    gi_wp2_with fail
    refine Late.round (C := fun w' : World => Ex W7 w' ∧ (w'.cell? ⟨D, 0, none⟩ = some (.int .u64 (R : Int)) ∧ w'.cell? ⟨w.heap.size, 0, none⟩ = some (.slice A t.length c) ∧ w'.cell? ⟨w.heap.size + 1, 0, none⟩ = some (.int .i64 (a : Int))))
      (fun j => j != 6) (by kernel_rfl) (by rfl) (by rintro ⟨_, _, h⟩; exact h) ⟨(Ex.refl W7).drew, HF.out _ (Ex.refl W7).drew⟩ ?_
    intro hS
    refine Late.take (i := 0) (oi := _) (v := ?_) rfl (by kernel_rfl) (by kernel_rfl) (by kernel_rfl) (by kernel_rfl) (fun _ _ _ h => h) (Or.inl ⟨by rfl, ?_⟩) hS ?_
    rotate_left
    · (intro w hSw; (try dsimp only at hSw); go_simp; first | done | with_reducible rfl)
    simp only [Act.put]
    refine Late.take (i := 1) (oi := _) (v := ?_) rfl (by kernel_rfl) (by kernel_rfl) (by kernel_rfl) (by kernel_rfl) (fun _ _ _ h => h) (Or.inl ⟨by rfl, ?_⟩) hS ?_
    rotate_left
    · (intro w hSw; (try dsimp only at hSw); go_simp; first | done | with_reducible rfl)
    simp only [Act.put]
    refine Late.take (i := 2) (oi := _) (v := ?_) rfl (by kernel_rfl) (by kernel_rfl) (by kernel_rfl) (by kernel_rfl) (fun _ _ _ h => h) (Or.inl ⟨by rfl, ?_⟩) hS ?_
    rotate_left
    · (intro w hSw; (try dsimp only at hSw); go_simp; first | done | with_reducible rfl)
    simp only [Act.put]
    refine Late.take (i := 3) (oi := _) (v := ?_) rfl (by kernel_rfl) (by kernel_rfl) (by kernel_rfl) (by kernel_rfl) (fun _ _ _ h => h) (Or.inl ⟨by rfl, ?_⟩) hS ?_
    rotate_left
    · (intro w hSw; (try dsimp only at hSw); go_simp; first | done | with_reducible rfl)
    simp only [Act.put]
    refine Late.one (i := 4) (o := _) (by kernel_rfl) rfl (fun K' hK' => ?_)
    rw [if_pos (by rfl)]
    go_simp
    refine (HCO.out _ hS.1).mono ?_
    rintro e w1 ⟨rfl, hew1⟩
    have hS1 := And.intro (hS.1.trans hew1) (HF.out _ (hS.1.trans hew1))
    refine hK'.out _ _ (fun _ => hS1) (fun _ => ?_)
    clear hK' K'
    try simp only [Act.put]
    refine Late.one (i := 5) (o := _) (by kernel_rfl) rfl (fun K' hK' => ?_)
    rw [if_pos (by rfl)]
    go_simp
    refine (with_any R x _ hRl hx8).mono ?_
    rintro e w' ⟨rfl, rfl⟩
    refine hK'.out _ _ (fun _ => hS1) (fun _ => ?_)
    clear hK' K'
    try simp only [Act.put]
    have c0 := (HBS.out.ex hS1.1).cell 0
    have f0 := (HBS.out.ex hS1.1).free 0
    refine Late.one (i := 6) (o := _) (by kernel_rfl) rfl (fun K' hK' => ?_)
    go_simp
    refine hK'.out _ _ (fun h => by cases h) (fun _ => ?_)
    clear hK' K'
    refine Late.done (by kernel_rfl) ?_ _
    exact ⟨(Keeps.of_below hS1.1 hzw).setCell (p := ⟨D, 0, none⟩) (by show w.heap.size ≤ D; omega) _, by show Has _ _ _ _; rw [HRN.out]; exact (HBS.out.ex hS1.1).put1,
      (HBG.out.ex hS1.1).far (p := ⟨D, 0, none⟩) (by show w.heap.size ≠ D; omega) _, (HBA.out.ex hS1.1).far (p := ⟨D, 0, none⟩) (by show w.heap.size + 1 ≠ D; omega) _⟩

end Go.Proofs.YtenenlpfpkdplaaDoor
