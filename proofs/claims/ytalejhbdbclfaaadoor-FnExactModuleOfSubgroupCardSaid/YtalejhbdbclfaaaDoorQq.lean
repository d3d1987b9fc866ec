/- Cosets, by the program. -/
import Derived.Test.YtalejhbdbclfaaaDoorQp
import Derived.Test.YtalejhbdbclfaaaDoorGw
import Derived.Test.YtalejhbdbclfaaaDoorNi
namespace Go.Proofs.YtalejhbdbclfaaaDoor
open Go.RowKit Go.Shelf

attribute [local go_sem] Oper.semAt_some

/-- The state behind some elements. -/
def cosF (t : List (List Int)) (els l : List Nat) : Cos := l.foldl (cosStep t els) ⟨0, fun _ => 0, []⟩
theorem cosF_snoc (t : List (List Int)) (els l : List Nat) (a : Nat) : cosF t els (l ++ [a]) = cosStep t els (cosF t els l) a := by simp [cosF, List.foldl_append]
theorem cosF_range (t : List (List Int)) (els : List Nat) : ∀ k, cosF t els (List.range k) = cosK t els k
  | 0 => rfl
  | k + 1 => by
    rw [List.range_succ, cosF_snoc, cosF_range t els k]
    rfl
theorem fin_val (N : Nat) : (List.finRange N).map (fun x => x.val) = List.range N := by
  apply List.ext_getElem
  · simp
  · intro i h1 h2
    simp
theorem cosStep_b {t : List (List Int)} (hg : IsGrp t) {els : List Nat} (he : ∀ b ∈ els, b < t.length) {k a : Nat} {S : Cos} (h : CosB t k S) (ha : a < t.length) : CosB t (k + 1) (cosStep t els S a) := by
  cases hm : S.met.testBit a with
  | true =>
    rw [cosStep_old hm]
    exact ⟨h.met, Nat.le_succ_of_le h.len, h.lt, h.num⟩
  | false =>
    rw [cosStep_new hm]
    refine ⟨cosRow_lt hg ha _ h.met _ he, ?_, ?_, fun x => ?_⟩
    · show (_ ++ [a]).length ≤ _
      have := h.len
      simp
      omega
    · intro x hx
      rcases List.mem_append.1 hx with hx | hx
      · exact h.lt x hx
      · obtain rfl : x = a := by simpa using hx
        exact ha
    · show _ ≤ (_ ++ [a]).length
      have := cosRow_num (a := a) (t := t) S h.num els x
      simp
      omega
theorem cosF_b {t : List (List Int)} (hg : IsGrp t) {els : List Nat} (he : ∀ b ∈ els, b < t.length) (l : List Nat) (hl : ∀ a ∈ l, a < t.length) : CosB t l.length (cosF t els l) := by
  have key : ∀ (l : List Nat) (k : Nat) (S : Cos), CosB t k S → (∀ a ∈ l, a < t.length) → CosB t (k + l.length) (l.foldl (cosStep t els) S) := by
    intro l
    induction l with
    | nil => exact fun k S h _ => h
    | cons a l ih =>
      intro k S h hl
      have h2 := ih (k + 1) _ (cosStep_b hg he h (hl a (by simp))) fun x hx => hl x (by simp [hx])
      rw [show k + (a :: l).length = k + 1 + l.length by simp; omega]
      exact h2
  have h := key l 0 ⟨0, fun _ => 0, []⟩ ⟨Nat.two_pow_pos _, Nat.le_refl _, fun x hx => (by cases hx), fun _ => Nat.le_refl _⟩ hl
  rw [Nat.zero_add] at h
  exact h

/-- The numbers of the cosets so far. -/
noncomputable def numT (N : Nat) (f : Nat → Nat) : Array Value := tab N fun x => .int .i64 (f x : Int)
def ltI (fs : List Nat) : List Value := (fs.map fun x : Nat => (x : Int)).map fun x => .int .i64 x

set_option maxRecDepth 100000 in
set_option maxHeartbeats 8000000 in
theorem cosetsOf_any (A : Option Addr) (t : List (List Int)) (c s : Nat) (w : World) (hR : RwsW w A t) (hg : IsGrp t) (hs : s < 2 ^ t.length) (hT : TabL w) (S : Cos) (hS : cosK t (elN s) t.length = S) :
    Calls Tryd.prog 127 #[.agg #[.slice A t.length c], .int .u64 (s : Int)] w fun e w' => ∃ D v, e = .returned (.tuple #[.slice (some ⟨D, 0, none⟩) t.length t.length, v]) ∧ Ex w w' ∧ w.heap.size ≤ D ∧ Has w' D 2 (tab t.length fun x => .int .i64 (S.num x : Int)) ∧ GrowI w' (D + 1) v S.fst.length (S.fst.map fun x : Nat => (x : Int)) := by
  obtain ⟨i0, hi, hi0, hi1, hi2⟩ := info_parts infoI
  obtain ⟨b, o, bb, oo, C, rfl, hQ⟩ := hR.sq hg
  have hn8 := hg.n8
  have hs256 := lt256 hn8 hs
  have hels : ∀ b ∈ elN s, b < t.length := fun b hb => el_lt hs hb
  have HCB := Lib.hid (fun l (hl : ∀ a ∈ l, a < t.length) => cosF_b hg hels l hl)
  have HRL := Lib.hid (fun a (ha : a < t.length) S (hS : S.met < 2 ^ t.length) l (hl : ∀ b ∈ l, b < t.length) => cosRow_lt hg ha S hS l hl)
  have HEL := Lib.hid hels
  have HEN := Lib.hid (fun x y (hx : x < t.length) (hy : y < t.length) W (he : Ex w W) => (⟨(hQ.ex he).row_ hx, by rw [(hQ.ex he).ent_ hx hy, hg.ent hx hy], hg.mul_lt hx hy⟩ : W.cell? ⟨b, o + x, none⟩ = some (.slice (some ⟨bb x, oo x, none⟩) t.length (C x)) ∧ W.cell? ⟨bb x, oo x + y, none⟩ = some (.int .i64 (mul t x y : Int)) ∧ mul t x y < t.length))
  have HTB := Lib.hid hT
  have hTl := hT.lt
  have HSK : Hid (cosF t (elN s) ((List.finRange t.length).map fun x => x.val) = S) := Lib.hid (by rw [fin_val, cosF_range, hS])
  have e0 : Ex w ((((w.alloc (.cells #[.slice (some ⟨b, o, none⟩) t.length c] 27)).alloc (.cells #[.int .u64 (s : Int)] 129)).alloc (.cells #[.slice none 0 0] 25)).alloc (.cells #[.slice none 0 0] 25)) := ((((Ex.refl w).alloc _).alloc _).alloc _).alloc _
  have b0 : Has ((((w.alloc (.cells #[.slice (some ⟨b, o, none⟩) t.length c] 27)).alloc (.cells #[.int .u64 (s : Int)] 129)).alloc (.cells #[.slice none 0 0] 25)).alloc (.cells #[.slice none 0 0] 25)) (w.heap.size) 27 #[.slice (some ⟨b, o, none⟩) t.length c] := ((((Has.newAt (w := w) (e := 27) (cs := #[.slice (some ⟨b, o, none⟩) t.length c]) (k := w.heap.size) (by simp)).alloc _).alloc _).alloc _)
  have b1 : Has ((((w.alloc (.cells #[.slice (some ⟨b, o, none⟩) t.length c] 27)).alloc (.cells #[.int .u64 (s : Int)] 129)).alloc (.cells #[.slice none 0 0] 25)).alloc (.cells #[.slice none 0 0] 25)) (w.heap.size + 1) 129 #[.int .u64 (s : Int)] := (((Has.newAt (w := (w.alloc (.cells #[.slice (some ⟨b, o, none⟩) t.length c] 27))) (e := 129) (cs := #[.int .u64 (s : Int)]) (k := w.heap.size + 1) (by simp)).alloc _).alloc _)
  have b2 : Has ((((w.alloc (.cells #[.slice (some ⟨b, o, none⟩) t.length c] 27)).alloc (.cells #[.int .u64 (s : Int)] 129)).alloc (.cells #[.slice none 0 0] 25)).alloc (.cells #[.slice none 0 0] 25)) (w.heap.size + 1 + 1) 25 #[.slice none 0 0] := ((Has.newAt (w := ((w.alloc (.cells #[.slice (some ⟨b, o, none⟩) t.length c] 27)).alloc (.cells #[.int .u64 (s : Int)] 129))) (e := 25) (cs := #[.slice none 0 0]) (k := w.heap.size + 1 + 1) (by simp)).alloc _)
  have b3 : Has ((((w.alloc (.cells #[.slice (some ⟨b, o, none⟩) t.length c] 27)).alloc (.cells #[.int .u64 (s : Int)] 129)).alloc (.cells #[.slice none 0 0] 25)).alloc (.cells #[.slice none 0 0] 25)) (w.heap.size + 1 + 1 + 1) 25 #[.slice none 0 0] := (Has.newAt (w := (((w.alloc (.cells #[.slice (some ⟨b, o, none⟩) t.length c] 27)).alloc (.cells #[.int .u64 (s : Int)] 129)).alloc (.cells #[.slice none 0 0] 25))) (e := 25) (cs := #[.slice none 0 0]) (k := w.heap.size + 1 + 1 + 1) (by simp))
  obtain ⟨W0, hW0⟩ : ∃ W0, ((((w.alloc (.cells #[.slice (some ⟨b, o, none⟩) t.length c] 27)).alloc (.cells #[.int .u64 (s : Int)] 129)).alloc (.cells #[.slice none 0 0] 25)).alloc (.cells #[.slice none 0 0] 25)) = W0 := ⟨_, rfl⟩
  have hsz : W0.heap.size = w.heap.size + 1 + 1 + 1 + 1 := by rw [← hW0]; simp
  rw [hW0] at e0 b0 b1 b2 b3
  have HW0 := Lib.hid hW0
  have c0 := b0.cell 0
  have hmk := makeI t.length (by omega)
  clear hW0 hR hg hT hS hQ hels
  refine (callsIn_wide (n := 20)).1 ?_
  refine callsIn_of_wp_marks Tryd.func127 rfl trivial ?_ rfl
  simp only [Tryd.ntmps127, List.size_toArray, List.length_cons, List.length_nil, Nat.reduceAdd, Nat.reduceSub, Array.replicate_succ, Array.replicate_zero, List.push_toArray, List.append_toArray, List.nil_append, List.cons_append]
  refine wpIn_wide.2 ?_
  go_wp2_with fail
  rw [HW0.out]
  refine (groupOrder_ex (some ⟨b, o, none⟩) t.length c W0 (by omega)).mono ?_
  rintro e W1 ⟨rfl, he1⟩
  obtain ⟨D, hD⟩ : ∃ D, W1.heap.size = D := ⟨_, rfl⟩
  obtain ⟨p, hp⟩ : ∃ p, w.heap.size = p := ⟨_, rfl⟩
  have HP := Lib.hid hp
  rw [hp] at b0 b1 b2 b3 hsz
  have HB0 := Lib.hid (b0.ex he1)
  have HB1 := Lib.hid (b1.ex he1)
  have HB2 := Lib.hid (b2.ex he1)
  have HB3 := Lib.hid (b3.ex he1)
  have HE1 := Lib.hid (e0.trans he1)
  have hpD : p + 1 + 1 + 1 < D := by have := (b3.ex he1).lt; omega
  rw [hp] at c0 ⊢
  have bN1 := HB2.out.alloc (.cells (tab t.length fun _ => .int .i64 0) 2)
  have cr := bN1.cell 0
  have fr := bN1.free 0
  have bG3 := ((HB0.out.alloc (.cells (tab t.length fun _ => .int .i64 0) 2)).far (p := ⟨p + 1 + 1, 0, none⟩) (by show p ≠ p + 1 + 1; omega) (.slice (some ⟨D, 0, none⟩) t.length t.length)).alloc (.cells #[.int .u64 0] 129)
  have bS3 := ((HB1.out.alloc (.cells (tab t.length fun _ => .int .i64 0) 2)).far (p := ⟨p + 1 + 1, 0, none⟩) (by show p + 1 ≠ p + 1 + 1; omega) (.slice (some ⟨D, 0, none⟩) t.length t.length)).alloc (.cells #[.int .u64 0] 129)
  have bL3 := ((HB3.out.alloc (.cells (tab t.length fun _ => .int .i64 0) 2)).far (p := ⟨p + 1 + 1, 0, none⟩) (by show p + 1 + 1 + 1 ≠ p + 1 + 1; omega) (.slice (some ⟨D, 0, none⟩) t.length t.length)).alloc (.cells #[.int .u64 0] 129)
  have bN3 := (bN1.put1 (v := .slice (some ⟨D, 0, none⟩) t.length t.length)).alloc (.cells #[.int .u64 0] 129)
  have bD3 := ((Has.newAt (w := W1) (e := 2) (cs := tab t.length fun _ => .int .i64 0) hD).far (p := ⟨p + 1 + 1, 0, none⟩) (by show D ≠ p + 1 + 1; omega) (.slice (some ⟨D, 0, none⟩) t.length t.length)).alloc (.cells #[.int .u64 0] 129)
  have bM3 : Has (((W1.alloc (.cells (tab t.length fun _ => .int .i64 0) 2)).setCell ⟨p + 1 + 1, 0, none⟩ (.slice (some ⟨D, 0, none⟩) t.length t.length)).alloc (.cells #[.int .u64 0] 129)) (D + 1) 129 #[.int .u64 0] := Has.newAt (by simp [hD])
  have e3 : Ex w (((W1.alloc (.cells (tab t.length fun _ => .int .i64 0) 2)).setCell ⟨p + 1 + 1, 0, none⟩ (.slice (some ⟨D, 0, none⟩) t.length t.length)).alloc (.cells #[.int .u64 0] 129)) := ((HE1.out.alloc _).setCell (p := ⟨p + 1 + 1, 0, none⟩) (by show w.heap.size ≤ p + 1 + 1; omega) _).alloc _
  have hz3 : (((W1.alloc (.cells (tab t.length fun _ => .int .i64 0) 2)).setCell ⟨p + 1 + 1, 0, none⟩ (.slice (some ⟨D, 0, none⟩) t.length t.length)).alloc (.cells #[.int .u64 0] 129)).heap.size = D + 1 + 1 := by simp [hD]
  have k0 := bG3.cell 0
  clear b0 b1 b2 b3 e0 he1 c0 HB0 HB1 HB2 HB3 bN1
  go_wp2_with fail
  refine (elementsOf_any (some ⟨b, o, none⟩) t.length c _).mono ?_
  rintro e w' ⟨rfl, rfl⟩
  rw [hz3]
  generalize (((W1.alloc (.cells (tab t.length fun _ => .int .i64 0) 2)).setCell ⟨p + 1 + 1, 0, none⟩ (.slice (some ⟨D, 0, none⟩) t.length t.length)).alloc (.cells #[.int .u64 0] 129)) = W3 at *
  obtain ⟨W4, hW4⟩ : ∃ W4, W3.alloc (.cells #[.slice (some ⟨b, o, none⟩) t.length c] 27) = W4 := ⟨_, rfl⟩
  have bG := bG3.alloc (.cells #[.slice (some ⟨b, o, none⟩) t.length c] 27)
  have bS := bS3.alloc (.cells #[.slice (some ⟨b, o, none⟩) t.length c] 27)
  have bL := bL3.alloc (.cells #[.slice (some ⟨b, o, none⟩) t.length c] 27)
  have bN := bN3.alloc (.cells #[.slice (some ⟨b, o, none⟩) t.length c] 27)
  have bD := bD3.alloc (.cells #[.slice (some ⟨b, o, none⟩) t.length c] 27)
  have bM := bM3.alloc (.cells #[.slice (some ⟨b, o, none⟩) t.length c] 27)
  have bE : Has (W3.alloc (.cells #[.slice (some ⟨b, o, none⟩) t.length c] 27)) (D + 1 + 1) 27 #[.slice (some ⟨b, o, none⟩) t.length c] := Has.newAt hz3
  have e4 := e3.alloc (.cells #[.slice (some ⟨b, o, none⟩) t.length c] 27)
  have hz4 : (W3.alloc (.cells #[.slice (some ⟨b, o, none⟩) t.length c] 27)).heap.size = D + 1 + 1 + 1 := by simp [hz3]
  rw [hW4] at bG bS bL bN bD bM bE e4 hz4 ⊢
  clear bG3 bS3 bL3 bN3 bD3 bM3 e3 hz3 cr fr k0 hW4 hmk
  go_wp2_with fail
  have HE4 := Lib.hid e4
  clear e4
  refine (wpIn_wide (n := 20)).1 ?_
  refine range_topB (n := 20) (n₀ := p) (by omega) (gf := 198) (lb := #[.pointer (some ⟨D + 1 + 1, 0, none⟩)]) rfl (enters_of Tryd.func198 (by kernel_rfl) rfl)
    (elements_stops 19 (by omega) (D + 1 + 1) p t.length c _ W4 (by omega) (bE.cell 0) (by omega)) (by omega) (fun _ => rfl) 2 (fun x => .int .i64 (x.1 : Int))
    (fun pre W => (Has W D 2 (numT t.length (cosF t (elN s) (pre.map fun x => x.val)).num) ∧ Has W (D + 1) 129 #[.int .u64 ((cosF t (elN s) (pre.map fun x => x.val)).met : Int)]) ∧ (∃ v, Boxed W (p + 1 + 1 + 1) 25 v ∧ W.ownsRow (D + 1) 2 1 v (cosF t (elN s) (pre.map fun x => x.val)).fst.length (ltI (cosF t (elN s) (pre.map fun x => x.val)).fst) ∧ True) ∧ Has W p 27 #[.slice (some ⟨b, o, none⟩) t.length c] ∧ Has W (p + 1) 129 #[.int .u64 (s : Int)] ∧ Has W (p + 1 + 1) 25 #[.slice (some ⟨D, 0, none⟩) t.length t.length])
    (fun c' _ W => False)
    (OwnFrom.and (OwnFrom.and (Own.from (has_own _ _ _) _) (Own.from (has_own _ _ _) _)) (OwnFrom.and (Own.from (holdsRow_own (D + 1) (p + 1 + 1 + 1) 25 2 1 (fun pre : List (Fin t.length) => (cosF t (elN s) (pre.map fun x => x.val)).fst.length) (fun pre => ltI (cosF t (elN s) (pre.map fun x => x.val)).fst) (fun _ _ => True)) _) (OwnFrom.and (Own.from (has_own _ _ _) _) (OwnFrom.and (Own.from (has_own _ _ _) _) (Own.from (has_own _ _ _) _)))))
    (fun _ => ownFrom_pure _ _)
    ⟨⟨bD, bM⟩, ⟨_, bL, World.ownsRow_nil _ _ _ _, trivial⟩, bG, bS, bN⟩ ?round ?done ?stop
  case stop =>
    rintro D' c' pre W hD' hpre h
    exact h.elim
  case done =>
    rintro D' xs W hD' hxs ⟨⟨hDn, hM⟩, ⟨v, hL, hrow, _⟩, hG, hS, hN⟩ hKW hK
    rw [hxs, HSK.out] at hDn
    rw [hxs, HSK.out] at hrow
    have hgi : GrowI W (D + 1) v S.fst.length (S.fst.map fun x : Nat => (x : Int)) := ⟨hrow, by simp⟩
    obtain ⟨FA, fc, rfl⟩ := hgi.form
    have HGI := Lib.hid hgi
    have HDN := Lib.hid hDn
    have HLB := Lib.hid (show Has W (p + 1 + 1 + 1) 25 #[.slice FA S.fst.length fc] from hL)
    have HNB := Lib.hid hN
    have HKW := Lib.hid hKW
    have HKD := Lib.hid hK
    have cn := HNB.out.cell 0
    have fn := HNB.out.free 0
    have cl := HLB.out.cell 0
    have fl := HLB.out.free 0
    clear bG bS bL bN bD bM bE hDn hM hL hrow hgi hG hS hN hKW hK
    simp only [Exit.inBlock, Exit.then]
    go_wp2_with fail
    go_region
    go_wp2_with fail
    have hnn : p + 1 + 1 ≠ D' := by intro e; have h1 := HNB.out; have h2 := HKD.out; rw [← e, show W.heap[p + 1 + 1]? = _ from h1] at h2; cases h2
    have hnl : p + 1 + 1 + 1 ≠ D' := by intro e; have h1 := HLB.out; have h2 := HKD.out; rw [← e, show W.heap[p + 1 + 1 + 1]? = _ from h1] at h2; cases h2
    have hK0 : ((W.setCell ⟨p + 1 + 1, 0, none⟩ (.slice (some ⟨D, 0, none⟩) t.length t.length)).setCell ⟨p + 1 + 1 + 1, 0, none⟩ (.slice FA S.fst.length fc)).heap[D']? = some (.deferred (some [])) :=
      (Below.heap_setCell _ _ _ D' (fun e => hnl e.symm)).trans ((Below.heap_setCell _ _ _ D' (fun e => hnn e.symm)).trans HKD.out)
    have hK' : ((W.setCell ⟨p + 1 + 1, 0, none⟩ (.slice (some ⟨D, 0, none⟩) t.length t.length)).setCell ⟨p + 1 + 1 + 1, 0, none⟩ (.slice FA S.fst.length fc)).drew.heap[D']? = some (.deferred (some [])) := hK0
    refine ⟨by simp, .inl ⟨_, _, rfl, run_takeDeferred hK', ?_⟩⟩
    have hNs := (HNB.out.put1 (v := .slice (some ⟨D, 0, none⟩) t.length t.length)).far (p := ⟨p + 1 + 1 + 1, 0, none⟩) (by show p + 1 + 1 ≠ p + 1 + 1 + 1; omega) (.slice FA S.fst.length fc)
    have hLs := (HLB.out.far (p := ⟨p + 1 + 1, 0, none⟩) (by show p + 1 + 1 + 1 ≠ p + 1 + 1; omega) (.slice (some ⟨D, 0, none⟩) t.length t.length)).put1 (v := .slice FA S.fst.length fc)
    have hDs := (HDN.out.far (p := ⟨p + 1 + 1, 0, none⟩) (by show D ≠ p + 1 + 1; omega) (.slice (some ⟨D, 0, none⟩) t.length t.length)).far (p := ⟨p + 1 + 1 + 1, 0, none⟩) (by show D ≠ p + 1 + 1 + 1; omega) (.slice FA S.fst.length fc)
    have hGs := (HGI.out.set HNB.out (by decide) 0 (.slice (some ⟨D, 0, none⟩) t.length t.length)).set (HLB.out.far (p := ⟨p + 1 + 1, 0, none⟩) (by show p + 1 + 1 + 1 ≠ p + 1 + 1; omega) (.slice (some ⟨D, 0, none⟩) t.length t.length)) (by decide) 0 (.slice FA S.fst.length fc)
    have hpw : w.heap.size = p := HP.out
    have hEs : Ex w ((W.setCell ⟨p + 1 + 1, 0, none⟩ (.slice (some ⟨D, 0, none⟩) t.length t.length)).setCell ⟨p + 1 + 1 + 1, 0, none⟩ (.slice FA S.fst.length fc)) :=
      ((HE4.out.trans' HKW.out.1 (by omega)).setCell (by show w.heap.size ≤ p + 1 + 1; omega) _).setCell (by show w.heap.size ≤ p + 1 + 1 + 1; omega) _
    have hx := (Ex.refl ((W.setCell ⟨p + 1 + 1, 0, none⟩ (.slice (some ⟨D, 0, none⟩) t.length t.length)).setCell ⟨p + 1 + 1 + 1, 0, none⟩ (.slice FA S.fst.length fc))).drew
    have hNs := hNs.ex hx
    have hLs := hLs.ex hx
    have hDs := hDs.ex hx
    have hGs := hGs.ex hx
    have hEs := hEs.trans hx
    clear hx hK0
    generalize ((W.setCell ⟨p + 1 + 1, 0, none⟩ (.slice (some ⟨D, 0, none⟩) t.length t.length)).setCell ⟨p + 1 + 1 + 1, 0, none⟩ (.slice FA S.fst.length fc)).drew = Ws at *
    have hg8 := grownBy_putObj' Ws D' (.deferred none)
    have hr8 : ∀ r, some D' = some r → ∃ o : Obj, Ws.heap[r]? = some o ∧ o.isCells = false := fun r e => by cases e; exact ⟨_, hK', rfl⟩
    have c8 := (hNs.grownR hg8 hr8).cell 0
    have c9 := (hLs.grownR hg8 hr8).cell 0
    exact ⟨.tuple #[.slice (some ⟨D, 0, none⟩) t.length t.length, .slice FA S.fst.length fc], by simp [results, Tryd.results127, go_sem, c8, c9], D, _, rfl, Below.grown hEs hg8 hEs.size (fun k hk => by cases hk; omega), by omega, hDs.grownR hg8 hr8, hGs.grown hg8 hr8⟩
  case round =>
    clear bG bS bL bN bD bM bE
    intro l x W K hK
    have HK := Lib.hid hK
    clear hK
    gi_wp2
    refine HK.out _ ?_
    clear HK
    rintro l B1 pre W1 hB1 hle1 hr ⟨⟨hDn, hM⟩, ⟨v, hL, hrow, _⟩, hG, hS, hN⟩ hKW bX _
    rw [hB1]
    clear hB1
    obtain ⟨a, ha⟩ := x
    dsimp only at bX
    have HSNOC : Hid (cosF t (elN s) ((pre ++ [(⟨a, ha⟩ : Fin t.length)]).map fun x => x.val) = cosStep t (elN s) (cosF t (elN s) (pre.map fun x => x.val)) a) := Lib.hid (by rw [List.map_append]; exact cosF_snoc _ _ _ _)
    have hcb := HCB.out (pre.map fun x => x.val) (fun y hy => by obtain ⟨x, _, rfl⟩ := List.mem_map.1 hy; exact x.isLt)
    have hpl : pre.length ≤ t.length := by omega
    obtain ⟨S1, hS1⟩ : ∃ S1, cosF t (elN s) (pre.map fun x => x.val) = S1 := ⟨_, rfl⟩
    rw [hS1] at hDn hM hrow hcb HSNOC
    have hm256 := lt256 hn8 hcb.met
    have hmet := hcb.met
    have hlen := hcb.len
    simp only [List.length_map] at hlen
    have ha8 : a < 8 := by omega
    have hgi : GrowI W1 (D + 1) v S1.fst.length (S1.fst.map fun x : Nat => (x : Int)) := ⟨hrow, by simp⟩
    obtain ⟨FA, fc, rfl⟩ := hgi.form
    have HKW := Lib.hid hKW
    have HR := Lib.hid hr
    have HDn := Lib.hid hDn
    have HM := Lib.hid hM
    have HL := Lib.hid (show Has W1 (p + 1 + 1 + 1) 25 #[.slice FA S1.fst.length fc] from hL)
    have HGI := Lib.hid hgi
    have HG := Lib.hid hG
    have HS := Lib.hid hS
    have HN := Lib.hid hN
    have HX := Lib.hid (show Has W1 B1 2 #[.int .i64 (a : Int)] from bX)
    have cM := hM.cell 0
    have cX := HX.out.cell 0
    have hpW : p + 1 + 1 + 1 < W1.heap.size := HL.out.lt
    have HSO := Lib.hid (fun h => (cosStep_old h : cosStep t (elN s) S1 a = _))
    have HSW := Lib.hid (fun h => (cosStep_new h : cosStep t (elN s) S1 a = _))
    have HCRL := Lib.hid (fun l hl => HRL.out a ha S1 hmet l hl)
    clear hS1 hcb hmet hKW hr hDn hM hL hrow hgi hG hS hN bX
    cases hq : S1.met.testBit a with
    | true =>
      have HHA := Lib.hid (fun W => hq ▸ has_any S1.met a W hm256 ha8)
      have HST := Lib.hid (HSO.out hq)
      clear hq HSO HSW
      gi_wp2_with (refine ⟨trivial, ?_⟩; gi_at_call 170; refine (CallsIn.inRound l (callsIn_wide.2 (HHA.out _))).mono ?_; rintro e w' ⟨rfl, rfl⟩)
      exact ⟨Keeps.refl _ _, ⟨by rw [HSNOC.out, HST.out]; exact HDn.out, by rw [HSNOC.out, HST.out]; exact HM.out⟩, by rw [HSNOC.out, HST.out]; exact ⟨_, HL.out, HGI.out.1, trivial⟩, HG.out, HS.out, HN.out⟩
    | false =>
      have HHA := Lib.hid (fun W => hq ▸ has_any S1.met a W hm256 ha8)
      have HST := Lib.hid (HSW.out hq)
      have cS := HS.out.cell 0
      clear hq HSO HSW
      gi_wp2_with (first
        | (refine ⟨trivial, ?_⟩; gi_at_call 170; refine (CallsIn.inRound l (callsIn_wide.2 (HHA.out _))).mono ?_; rintro e w' ⟨rfl, rfl⟩)
        | (refine ⟨trivial, ?_⟩; gi_at_call 173; refine (CallsIn.inRound l (callsIn_wide.2 (setAll_any s _))).mono ?_; rintro e w' ⟨rfl, rfl⟩))
      clear cS cM cX
      obtain ⟨z1, hz1⟩ : ∃ z1, W1.heap.size = z1 := ⟨_, rfl⟩
      have eA := Ex.new W1 (.cells #[.int .u64 (s : Int)] 129)
      have bD := HDn.out.ex eA
      have bM := HM.out.ex eA
      have bL := HL.out.ex eA
      have gI := HGI.out.ex eA
      have bG := HG.out.ex eA
      have bS := HS.out.ex eA
      have bN := HN.out.ex eA
      have bX := HX.out.ex eA
      have bE : Has (W1.alloc (.cells #[.int .u64 (s : Int)] 129)) z1 129 #[.int .u64 (s : Int)] := Has.newAt hz1
      have hK1 : Keeps p W1 (W1.alloc (.cells #[.int .u64 (s : Int)] 129)) := (Keeps.refl _ _).alloc (by omega) _
      have hszA : (W1.alloc (.cells #[.int .u64 (s : Int)] 129)).heap.size = z1 + 1 := by simp [hz1]
      have hrA : ∃ r, (W1.alloc (.cells #[.int .u64 (s : Int)] 129)).heap[l]? = some (.loop r) := by
        obtain ⟨r, hr⟩ := HR.out
        exact ⟨r, (Below.heap_alloc W1 _ l (Array.getElem?_eq_some_iff.1 hr).1).trans hr⟩
      have hXD : B1 ≠ D := by omega
      have hXM : B1 ≠ D + 1 := by omega
      obtain ⟨W2, hW2⟩ : ∃ W2, W1.alloc (.cells #[.int .u64 (s : Int)] 129) = W2 := ⟨_, rfl⟩
      rw [hW2] at bD bM bL gI bG bS bN bX bE hK1 hszA hrA ⊢
      rw [hz1]
      have hpw : w.heap.size = p := HP.out
      have hE2 : Ex w W2 := HE4.out.trans' (HKW.out.1.trans hK1.1) (by omega)
      have hT2 := HTB.out.ex hE2
      have HK1 := Lib.hid hK1
      have HE2 := Lib.hid hE2
      have hpz : p < z1 := by omega
      have hTl2 : 1 < p := by omega
      clear HDn HM HL HGI HG HS HN HX HR eA hW2 hz1 hE2
      refine range_in (n := 20 - 1 - 1) (n₀ := p) (by omega) hrA (gf := 202) (lb := #[.pointer (some ⟨z1, 0, none⟩)]) rfl (enters_of Tryd.func202 (by kernel_rfl) rfl)
        (all_stops (20 - 1 - 1 - 1) (by omega) z1 p s W2 hs256 (by omega) (bE.cell 0) hT2 hTl2) (by omega) (fun _ => rfl)
        (fun pre2 W => (Has W D 2 (numT t.length (cosRow t a S1 (pre2.map fun x => x.1)).2) ∧ Has W (D + 1) 129 #[.int .u64 ((cosRow t a S1 (pre2.map fun x => x.1)).1 : Int)]) ∧ (∃ v, Boxed W (p + 1 + 1 + 1) 25 v ∧ W.ownsRow (D + 1) 2 1 v S1.fst.length (ltI S1.fst) ∧ v = .slice FA S1.fst.length fc) ∧ Has W p 27 #[.slice (some ⟨b, o, none⟩) t.length c] ∧ Has W (p + 1) 129 #[.int .u64 (s : Int)] ∧ Has W (p + 1 + 1) 25 #[.slice (some ⟨D, 0, none⟩) t.length t.length] ∧ Has W B1 2 #[.int .i64 (a : Int)])
        (fun c' _ W => False)
        (OwnFrom.and (OwnFrom.and (Own.from (has_own _ _ _) _) (Own.from (has_own _ _ _) _)) (OwnFrom.and (Own.from (holdsRow_own (D + 1) (p + 1 + 1 + 1) 25 2 1 (fun _ => S1.fst.length) (fun _ => ltI S1.fst) (fun _ v => v = .slice FA S1.fst.length fc)) _) (OwnFrom.and (Own.from (has_own _ _ _) _) (OwnFrom.and (Own.from (has_own _ _ _) _) (OwnFrom.and (Own.from (has_own _ _ _) _) (Own.from (has_own _ _ _) _))))))
        (fun _ => ownFrom_pure _ _)
        ⟨⟨bD, bM⟩, ⟨_, bL, gI.1, rfl⟩, bG, bS, bN, bX⟩ ?round2 ?done2 ?stop2
      case stop2 =>
        rintro c' pre' W hpre h
        exact h.elim
      case done2 =>
        rintro ys W hys ⟨⟨hD2, hM2⟩, ⟨v, hL2, hrow2, rfl⟩, hG2, hS2, hN2, hX2⟩ hKW2
        rw [hys] at hD2 hM2
        have hgi2 : GrowI W (D + 1) (.slice FA S1.fst.length fc) S1.fst.length (S1.fst.map fun x : Nat => (x : Int)) := ⟨hrow2, by simp⟩
        have HGI2 := Lib.hid hgi2
        have HL2 := Lib.hid (show Has W (p + 1 + 1 + 1) 25 #[.slice FA S1.fst.length fc] from hL2)
        have HD2 := Lib.hid hD2
        have HM2 := Lib.hid hM2
        have HG2 := Lib.hid hG2
        have HS2 := Lib.hid hS2
        have HN2 := Lib.hid hN2
        have HKW2 := Lib.hid hKW2
        have cL := HL2.out.cell 0
        have cX := hX2.cell 0
        have hDW := HD2.out.lt
        have hpW2 := HL2.out.lt
        clear hD2 hM2 hL2 hrow2 hgi2 hG2 hS2 hN2 hX2 hKW2 bD bM bL gI bG bS bN bX bE hK1 hszA hrA hT2
        gi_wp2_with (gi_at_builtin; refine wpListIn_append_own _ rfl _ _ 25 rfl (D + 1) 2 i0 (.int .i64 0) 1 8 Tryd.underlying25 hi hi0 hi1 hi2 rfl (by decide) _ _ _ rfl (HGI2.out.1.alloc _) ⟨W.heap.size, 0, none⟩ 1 1 [.int .i64 (a : Int)] rfl rfl (cell_one_new _ _ _) (by simp [Value.oneCell']) (by unfold maxLen; omega) (by omega) (by simp; omega) ?_; intro v' w3 hown3 hgrow3 _; have G3 := HGI2.out.ex (Ex.new W (.cells #[.int .i64 (a : Int)] 2)); have HKK := Lib.hid (Keeps.grew ((Keeps.refl p W).alloc (by omega) (.cells #[.int .i64 (a : Int)] 2)) G3 (by omega) (by simp; omega) hgrow3); have HL3 := Lib.hid (Has.grew (HL2.out.alloc (.cells #[.int .i64 (a : Int)] 2)) (by decide) G3 hgrow3); have HM3 := Lib.hid (Has.grew (HM2.out.alloc (.cells #[.int .i64 (a : Int)] 2)) (by decide) G3 hgrow3); have HG3 := Lib.hid (Has.grew (HG2.out.alloc (.cells #[.int .i64 (a : Int)] 2)) (by decide) G3 hgrow3); have HS3 := Lib.hid (Has.grew (HS2.out.alloc (.cells #[.int .i64 (a : Int)] 2)) (by decide) G3 hgrow3); have HN3 := Lib.hid (Has.grew (HN2.out.alloc (.cells #[.int .i64 (a : Int)] 2)) (by decide) G3 hgrow3); have HD3 := Lib.hid (Has.grewLow (HD2.out.alloc (.cells #[.int .i64 (a : Int)] 2)) (by omega) G3 hgrow3); have HG4 := Lib.hid (G3.snoc hown3); obtain ⟨g3, cap3, rfl⟩ := ownsRow_succ hown3; have cL3 := HL3.out.cell 0; have fL3 := HL3.out.free 0; clear hown3 hgrow3 G3)
        refine ⟨HK1.out.trans (HKW2.out.trans (HKK.out.setCell (p := ⟨p + 1 + 1 + 1, 0, none⟩) (by show p ≤ p + 1 + 1 + 1; omega) _)), ⟨?_, ?_⟩, ?_, HG3.out.far (p := ⟨p + 1 + 1 + 1, 0, none⟩) (by show p ≠ p + 1 + 1 + 1; omega) _, HS3.out.far (p := ⟨p + 1 + 1 + 1, 0, none⟩) (by show p + 1 ≠ p + 1 + 1 + 1; omega) _, HN3.out.far (p := ⟨p + 1 + 1 + 1, 0, none⟩) (by show p + 1 + 1 ≠ p + 1 + 1 + 1; omega) _⟩
        · rw [HSNOC.out, HST.out]
          exact HD3.out.far (p := ⟨p + 1 + 1 + 1, 0, none⟩) (by show D ≠ p + 1 + 1 + 1; omega) _
        · rw [HSNOC.out, HST.out]
          exact HM3.out.far (p := ⟨p + 1 + 1 + 1, 0, none⟩) (by show D + 1 ≠ p + 1 + 1 + 1; omega) _
        · rw [HSNOC.out, HST.out]
          refine ⟨_, HL3.out.put1, ?_, trivial⟩
          have h := (HG4.out.set HL3.out (by decide) 0 (.slice (some ⟨g3, 0, none⟩) (S1.fst.length + 1) cap3)).1
          simpa [ltI] using h
      case round2 =>
        clear bD bM bL gI bG bS bN bX bE hK1 hszA hrA hT2
        intro l2 y W K hK
        have HK := Lib.hid hK
        clear hK
        gi_wp2
        refine HK.out _ ?_
        clear HK
        rintro l2 pre2 W3 hr2 ⟨⟨hD2, hM2⟩, ⟨v, hL2, hrow2, rfl⟩, hG2, hS2, hN2, hX2⟩ hKW2 _
        obtain ⟨d, hd⟩ := y
        dsimp only
        have hdN := HEL.out d hd
        have hE3 : Ex w W3 := HE2.out.trans' hKW2.1 (by omega)
        obtain ⟨he1, he2, hzN⟩ := HEN.out a d ha hdN W3 hE3
        have hR256 := lt256 hn8 (HCRL.out (pre2.map fun x => x.1) (fun y hy => by obtain ⟨x, _, rfl⟩ := List.mem_map.1 hy; exact HEL.out _ x.2))
        have HSN2 := Lib.hid (by rw [List.map_append]; exact cosRow_snoc t a S1 (pre2.map fun x => x.1) d : cosRow t a S1 ((pre2 ++ [(⟨d, hd⟩ : {a : Nat // a ∈ elN s})]).map fun x => x.1) = cosIn t a S1.fst.length (cosRow t a S1 (pre2.map fun x => x.1)) d)
        obtain ⟨z, hz⟩ : ∃ z, mul t a d = z := ⟨_, rfl⟩
        obtain ⟨R, hR⟩ : ∃ R, cosRow t a S1 (pre2.map fun x => x.1) = R := ⟨_, rfl⟩
        rw [hR] at hR256 HSN2 hD2 hM2
        rw [hz] at he2 hzN
        obtain ⟨fl, hfl⟩ : ∃ fl, S1.fst.length = fl := ⟨_, rfl⟩
        have HFL := Lib.hid hfl
        have HCI : Hid (cosRow t a S1 ((pre2 ++ [(⟨d, hd⟩ : {a : Nat // a ∈ elN s})]).map fun x => x.1) = (R.1 ||| 2 ^ z, fun y => if y = z then fl else R.2 y)) := Lib.hid (by rw [HSN2.out, cosIn, hz, hfl])
        have hz8 : z < 8 := by omega
        have HD2 := Lib.hid hD2
        have HM2 := Lib.hid hM2
        have HRW := Lib.hid hrow2
        have HL2 := Lib.hid (show Has W3 (p + 1 + 1 + 1) 25 #[.slice FA S1.fst.length fc] from hL2)
        have HG2 := Lib.hid hG2
        have HS2 := Lib.hid hS2
        have HN2 := Lib.hid hN2
        have HX2 := Lib.hid hX2
        rw [hfl] at HL2
        have hM3 := HM2.out.put1 (v := .int .u64 ((R.1 ||| 2 ^ z : Nat) : Int))
        have hD3 := HD2.out.far (p := ⟨D + 1, 0, none⟩) (by show D ≠ D + 1; omega) (.int .u64 ((R.1 ||| 2 ^ z : Nat) : Int))
        have hL3 := HL2.out.far (p := ⟨D + 1, 0, none⟩) (by show p + 1 + 1 + 1 ≠ D + 1; omega) (.int .u64 ((R.1 ||| 2 ^ z : Nat) : Int))
        have hN3 := HN2.out.far (p := ⟨D + 1, 0, none⟩) (by show p + 1 + 1 ≠ D + 1; omega) (.int .u64 ((R.1 ||| 2 ^ z : Nat) : Int))
        have hG3 := HG2.out.far (p := ⟨D + 1, 0, none⟩) (by show p ≠ D + 1; omega) (.int .u64 ((R.1 ||| 2 ^ z : Nat) : Int))
        have hS3 := HS2.out.far (p := ⟨D + 1, 0, none⟩) (by show p + 1 ≠ D + 1; omega) (.int .u64 ((R.1 ||| 2 ^ z : Nat) : Int))
        have hX3 := HX2.out.far (p := ⟨D + 1, 0, none⟩) hXM (.int .u64 ((R.1 ||| 2 ^ z : Nat) : Int))
        have HM3 := Lib.hid hM3
        have HD3 := Lib.hid hD3
        have HL3 := Lib.hid hL3
        have HN3 := Lib.hid hN3
        have HG3 := Lib.hid hG3
        have HS3 := Lib.hid hS3
        have HX3 := Lib.hid hX3
        have cG := HG2.out.cell 0
        have cX := HX2.out.cell 0
        have cM := HM2.out.cell 0
        have fM := HM2.out.free 0
        have cL3 := HL3.out.cell 0
        have cN3 := HN3.out.cell 0
        have cz : (W3.setCell ⟨D + 1, 0, none⟩ (.int .u64 ((R.1 ||| 2 ^ z : Nat) : Int))).cell? ⟨D, z, none⟩ = some (.int .i64 (R.2 z : Int)) := by rw [HD3.out.cell, numT, tab_get hzN]
        have fz := HD3.out.free z
        have hd0 : (0 : Int) ≤ (d : Int) := by omega
        have hdn : (d : Int) < (t.length : Int) := by omega
        have hzn : (z : Int) < (t.length : Int) := by omega
        have ha0 : (0 : Int) ≤ (a : Int) := by omega
        have han : (a : Int) < (t.length : Int) := by omega
        have HHW := Lib.hid (fun W => with_any R.1 z W hR256 hz8)
        have hpW3 := HD2.out.lt
        obtain ⟨q, hq⟩ : ∃ q, R.1 ||| 2 ^ z = q := ⟨_, rfl⟩
        rw [hq] at cz fz cL3 cN3 HM3 HD3 HL3 HN3 HG3 HS3 HX3 HCI HHW
        clear hM3 hD3 hL3 hN3 hG3 hS3 hX3 hD2 hM2 hL2 hrow2 hG2 hS2 hN2 hX2 hKW2 hE3 hz hR hfl HSN2 hq hR256
        gi_wp2_with (refine ⟨trivial, ?_⟩; gi_at_call 156; refine (CallsIn.inRound l2 (callsIn_wide.2 (HHW.out _))).mono ?_; rintro e w' ⟨rfl, rfl⟩)
        refine ⟨((Keeps.refl p W3).setCell (p := ⟨D + 1, 0, none⟩) (by show p ≤ D + 1; omega) _).setCell (p := ⟨D, z, none⟩) (by show p ≤ D; omega) _, ⟨?_, ?_⟩, ?_, HG3.out.far (p := ⟨D, z, none⟩) (by show p ≠ D; omega) _, HS3.out.far (p := ⟨D, z, none⟩) (by show p + 1 ≠ D; omega) _, HN3.out.far (p := ⟨D, z, none⟩) (by show p + 1 + 1 ≠ D; omega) _, HX3.out.far (p := ⟨D, z, none⟩) hXD _⟩
        · have h := HD3.out.put z (.int .i64 (fl : Int))
          rw [numT, tab_set hzN] at h
          rw [HCI.out, numT]
          refine Eq.mp (congrArg (fun f => Has _ D 2 f) (tab_congr fun y hy => ?_)) h
          by_cases hyz : y = z
          · rw [if_pos hyz]
            dsimp only
            rw [if_pos hyz]
          · rw [if_neg hyz]
            dsimp only
            rw [if_neg hyz]
        · rw [HCI.out]
          exact HM3.out.far (p := ⟨D, z, none⟩) (by show D + 1 ≠ D; omega) _
        · rw [HFL.out]
          rw [HFL.out] at HRW
          have hgi3 : GrowI W3 (D + 1) (.slice FA fl fc) fl (S1.fst.map fun x : Nat => (x : Int)) := ⟨HRW.out, by simp [HFL.out]⟩
          exact ⟨_, HL3.out.far (p := ⟨D, z, none⟩) (by show p + 1 + 1 + 1 ≠ D; omega) _, ((hgi3.set HM2.out (by decide) 0 _).setLow (by omega) z _).1, rfl⟩

end Go.Proofs.YtalejhbdbclfaaaDoor
