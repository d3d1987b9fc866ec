/- elementOrders, and OrdersOf by the program. -/
import Derived.Test.YtenenlpfpkdplaaDoorGw
import Derived.Test.YtenenlpfpkdplaaDoorOb
import Derived.Test.YtenenlpfpkdplaaDoorOrs
namespace Go.Proofs.YtenenlpfpkdplaaDoor
open Go.RowKit Go.Shelf

attribute [local go_sem] Oper.semAt_some

/-- The places that were met. -/
def metS {N : Nat} (pre : List (Fin N)) (p : Nat) : Prop := ∃ x ∈ pre, x.val = p
theorem metS_nil {N : Nat} (p : Nat) : ¬ metS (N := N) [] p := by rintro ⟨x, hx, _⟩; cases hx
theorem metS_all {N p : Nat} (hp : p < N) : metS (List.finRange N) p := ⟨⟨p, hp⟩, List.mem_finRange _, rfl⟩
theorem metS_snoc {N k : Nat} (pre : List (Fin N)) (hk : k < N) (p : Nat) : (metS pre p ∨ p = k) ↔ metS (pre ++ [⟨k, hk⟩]) p := by
  constructor
  · rintro (⟨x, hx, e⟩ | rfl)
    · exact ⟨x, List.mem_append.2 (.inl hx), e⟩
    · exact ⟨⟨p, hk⟩, by simp, rfl⟩
  · rintro ⟨x, hx, e⟩
    rcases List.mem_append.1 hx with hx | hx
    · exact .inl ⟨x, hx, e⟩
    · simp at hx
      subst hx
      exact .inr e.symm

set_option maxRecDepth 100000 in
set_option maxHeartbeats 4000000 in
theorem elementOrders_has (t : List (List Int)) (c b o : Nat) (bb oo C : Nat → Nat) (w : World) (hQ : SqT w w.heap.size b o bb oo C t) (hg : IsOrb t) (hn : t.length ≤ 1000) :
    Calls Tryd.prog 66 #[.agg #[.slice (some ⟨b, o, none⟩) t.length c]] w fun e w' => ∃ g, e = .returned (.slice (some ⟨g, 0, none⟩) t.length t.length) ∧ Ex w w' ∧ w.heap.size ≤ g ∧ Has w' g 2 (tab t.length fun j => .int .i64 (ord t j : Int)) := by
  have e0 : Ex w (w.alloc (.cells #[.slice (some ⟨b, o, none⟩) t.length c] 35)) := (Ex.refl w).alloc _
  have b0 : Has (w.alloc (.cells #[.slice (some ⟨b, o, none⟩) t.length c] 35)) (w.heap.size) 35 #[.slice (some ⟨b, o, none⟩) t.length c] := (Has.newAt (w := w) (e := 35) (cs := #[.slice (some ⟨b, o, none⟩) t.length c]) (k := w.heap.size) (by simp))
  obtain ⟨W0, hW0⟩ : ∃ W0, (w.alloc (.cells #[.slice (some ⟨b, o, none⟩) t.length c] 35)) = W0 := ⟨_, rfl⟩
  have hsz : W0.heap.size = w.heap.size + 1 := by rw [← hW0]; simp
  rw [hW0] at e0 b0
  have HW0 := Lib.hid hW0
  have c0 := b0.cell 0
  have HEO := Lib.hid (fun k (hk : k < t.length) W (he : Ex w W) => elementOrder_orb t c b o k bb oo C W ((hQ.below he.below (Nat.le_refl _)).up he.size) hg (by omega) hk)
  have hmk := makeI t.length (by omega)
  clear hW0 hQ hg
  refine (callsIn_wide (n := 20)).1 ?_
  refine callsIn_of_wp_marks Tryd.func66 rfl trivial ?_ rfl
  simp only [Tryd.ntmps66, List.size_toArray, List.length_cons, List.length_nil, Nat.reduceAdd, Nat.reduceSub, Array.replicate_succ, Array.replicate_zero, List.push_toArray, List.append_toArray, List.nil_append, List.cons_append]
  refine wpIn_wide.2 ?_
  go_wp2_with fail
  rw [HW0.out]
  refine (groupOrder_ex (some ⟨b, o, none⟩) t.length c W0 (by omega)).mono ?_
  rintro e W1 ⟨rfl, he1⟩
  obtain ⟨D, hD⟩ : ∃ D, W1.heap.size = D := ⟨_, rfl⟩
  have ea := (Ex.new W1 (.cells (tab t.length fun _ => .int .i64 0) 2)).alloc (.cells #[.slice (some ⟨D, 0, none⟩) t.length t.length] 25)
  have bA := ((Has.newAt (w := W1) (e := 2) (cs := tab t.length fun _ => .int .i64 0) hD).alloc (.cells #[.slice (some ⟨D, 0, none⟩) t.length t.length] 25)).alloc (.cells #[.slice (some ⟨b, o, none⟩) t.length c] 35)
  have bO := (Has.newAt (w := W1.alloc (.cells (tab t.length fun _ => .int .i64 0) 2)) (e := 25) (cs := #[.slice (some ⟨D, 0, none⟩) t.length t.length]) (k := D + 1) (by simp [hD])).alloc (.cells #[.slice (some ⟨b, o, none⟩) t.length c] 35)
  have bE : Has (((W1.alloc (.cells (tab t.length fun _ => .int .i64 0) 2)).alloc (.cells #[.slice (some ⟨D, 0, none⟩) t.length t.length] 25)).alloc (.cells #[.slice (some ⟨b, o, none⟩) t.length c] 35)) (D + 1 + 1) 35 #[.slice (some ⟨b, o, none⟩) t.length c] := Has.newAt (by simp [hD])
  have bG := ((b0.ex he1).ex ea).alloc (.cells #[.slice (some ⟨b, o, none⟩) t.length c] 35)
  have eW := ((e0.trans he1).trans ea).alloc (.cells #[.slice (some ⟨b, o, none⟩) t.length c] 35)
  have cg := ((b0.ex he1).ex ea).cell 0
  have hlD : w.heap.size < D := by have := (b0.ex he1).lt; omega
  have hsz4 : (((W1.alloc (.cells (tab t.length fun _ => .int .i64 0) 2)).alloc (.cells #[.slice (some ⟨D, 0, none⟩) t.length t.length] 25)).alloc (.cells #[.slice (some ⟨b, o, none⟩) t.length c] 35)).heap.size = D + 1 + 1 + 1 := by simp [hD]
  have hsz5 : ((W1.alloc (.cells (tab t.length fun _ => .int .i64 0) 2)).alloc (.cells #[.slice (some ⟨D, 0, none⟩) t.length t.length] 25)).heap.size = D + 1 + 1 := by simp [hD]
  clear b0 e0 he1 ea c0
  go_wp2_with fail
  refine (elementsOf_any (some ⟨b, o, none⟩) t.length c _).mono ?_
  rintro e w' ⟨rfl, rfl⟩
  rw [hsz5]
  generalize (((W1.alloc (.cells (tab t.length fun _ => .int .i64 0) 2)).alloc (.cells #[.slice (some ⟨D, 0, none⟩) t.length t.length] 25)).alloc (.cells #[.slice (some ⟨b, o, none⟩) t.length c] 35)) = W4 at *
  go_wp2_with fail
  have HEW := Lib.hid eW
  have HBG := Lib.hid bG
  clear eW bG cg hmk hsz5
  refine (wpIn_wide (n := 20)).1 ?_
  refine range_top (n := 20) (n₀ := w.heap.size + 1) (by omega) (gf := 141) (lb := #[.pointer (some ⟨D + 1 + 1, 0, none⟩)]) rfl (enters_of Tryd.func141 (by kernel_rfl) rfl)
    (elements_stops 19 (by omega) (D + 1 + 1) (w.heap.size + 1) t.length c _ W4 (by omega) (bE.cell 0) (by omega)) (by omega) (fun _ => rfl)
    (fun pre W => Has W D 2 (tabP t.length (metS pre) fun j => (ord t j : Int)) ∧ Has W (D + 1) 25 #[.slice (some ⟨D, 0, none⟩) t.length t.length])
    (fun c' _ W => False)
    (OwnFrom.and (Own.from (has_own _ _ _) _) (Own.from (has_own _ _ _) _))
    (fun _ => ownFrom_pure _ _)
    ⟨by rw [tabP_none (fun p _ => metS_nil p)]; exact bA, bO⟩ ?round ?done ?stop
  case stop =>
    rintro D' c' pre W hD' hpre h
    exact h.elim
  case done =>
    rintro D' xs W hD' hxs ⟨bA1, bO1⟩ hKW hK
    rw [hxs, tabP_all (fun p hp => metS_all hp)] at bA1
    have hord := bO1.cell 0
    have HKW := Lib.hid hKW
    have HBA := Lib.hid bA1
    have HKD := Lib.hid hK
    clear hKW bA1 bO1 hK bA bO bE
    simp only [Exit.inBlock, Exit.then]
    go_wp2_with fail
    refine ⟨by simp, .inl ⟨_, _, rfl, run_takeDeferred HKD.out, ?_⟩⟩
    have hg8 := grownBy_putObj' W D' (.deferred none)
    have hr8 : ∀ r, some D' = some r → ∃ o : Obj, W.heap[r]? = some o ∧ o.isCells = false := fun r e => by cases e; exact ⟨_, HKD.out, rfl⟩
    have hE : Ex w W := HEW.out.trans' HKW.out.1 (by omega)
    exact ⟨_, results_tmp rfl _ _ _, D, rfl, Below.grown hE hg8 hE.size (fun k hk => by cases hk; omega), by omega, HBA.out.grownR hg8 hr8⟩
  case round =>
    clear bA bO bE
    intro l x W K hK
    have HK := Lib.hid hK
    clear hK
    gi_wp2
    refine HK.out _ ?_
    clear HK
    rintro l pre W hr ⟨bA1, bO1⟩ hKW _
    obtain ⟨k, hlt⟩ := x
    dsimp only
    have hEW : Ex w W := HEW.out.trans' hKW.1 (by omega)
    have HPT := Lib.hid (tabP_put (S := metS pre) (f := fun j => (ord t j : Int)) hlt)
    have HCG := Lib.hid (tabP_congr (n := t.length) (f := fun j => (ord t j : Int)) (fun p _ => metS_snoc pre hlt p))
    rw [HCG.out] at HPT
    obtain ⟨v0, hv0⟩ := tabP_get (S := metS pre) (f := fun j => (ord t j : Int)) hlt
    have HV0 := Lib.hid hv0
    have HC := Lib.hid (HEO.out k hlt W.drew hEW.drew)
    have m1 := HBG.out.below hKW.1 (by omega)
    have HM1 := Lib.hid m1
    have HBA := Lib.hid bA1
    have HBO := Lib.hid bO1
    have hC0 : (fun w' : World => w'.cell? ⟨D + 1, 0, none⟩ = some (.slice (some ⟨D, 0, none⟩) t.length t.length) ∧ w'.cell? ⟨w.heap.size, 0, none⟩ = some (.slice (some ⟨b, o, none⟩) t.length c)) W.drew := ⟨bO1.cell 0, m1.cell 0⟩
    have HZ := Lib.hid (show w.heap.size + 1 ≤ W.heap.size by have := m1.lt; omega)
    have hkz : (0 : Int) ≤ (k : Int) := by omega
    have hkn : (k : Int) < (t.length : Int) := by omega
    clear bA1 bO1 hKW hEW HCG hv0 m1
    gi_wp2_with fail
    refine Late.round (C := fun w' : World => w'.cell? ⟨D + 1, 0, none⟩ = some (.slice (some ⟨D, 0, none⟩) t.length t.length) ∧ w'.cell? ⟨w.heap.size, 0, none⟩ = some (.slice (some ⟨b, o, none⟩) t.length c))
      (fun j => j != 6) (by kernel_rfl) (by rfl) (by rintro ⟨_, _, h⟩; exact h) hC0 ?_
    intro hS
    refine Late.take (i := 0) (oi := _) (v := ?_) rfl (by kernel_rfl) (by kernel_rfl) (by kernel_rfl) (by kernel_rfl) (fun _ _ _ h => h) (Or.inl ⟨by rfl, ?_⟩) hS ?_
    rotate_left
    · (intro w hSw; (try dsimp only at hSw); go_simp; first | done | with_reducible rfl)
    simp only [Act.put]
    refine Late.take (i := 1) (oi := _) (v := ?_) rfl (by kernel_rfl) (by kernel_rfl) (by kernel_rfl) (by kernel_rfl) (fun _ _ _ h => h) (Or.inl ⟨by rfl, ?_⟩) hS ?_
    rotate_left
    · (intro w hSw; (try dsimp only at hSw); go_simp; first | done | with_reducible rfl)
    simp only [Act.put]
    refine Late.take (i := 2) (oi := _) (v := ?_) rfl (by kernel_rfl) (by kernel_rfl) (by kernel_rfl) (by kernel_rfl) (fun _ _ _ h => h) (Or.inl ⟨by rfl, ?_⟩) hS ?_
    rotate_left
    · (intro w hSw; (try dsimp only at hSw); go_simp; first | done | with_reducible rfl)
    simp only [Act.put]
    refine Late.take (i := 3) (oi := _) (v := ?_) rfl (by kernel_rfl) (by kernel_rfl) (by kernel_rfl) (by kernel_rfl) (fun _ _ _ h => h) (Or.inl ⟨by rfl, ?_⟩) hS ?_
    rotate_left
    · (intro w hSw; (try dsimp only at hSw); go_simp; first | done | with_reducible rfl)
    simp only [Act.put]
    refine Late.one (i := 4) (o := _) (by kernel_rfl) rfl (fun K' hK' => ?_)
    rw [if_pos (by rfl)]
    go_simp
    refine HC.out.mono ?_
    rintro e6 W6 ⟨rfl, he6⟩
    have hx6 : Ex W W6 := (Ex.refl W).drew.trans he6
    have hA6 := HBA.out.ex hx6
    have hO6 := HBO.out.ex hx6
    have hC6 := And.intro (hO6.cell 0) ((HM1.out.ex hx6).cell 0)
    have hcell := hA6.cell k
    rw [HV0.out] at hcell
    have hfree := hA6.free k
    refine hK'.out _ _ (fun _ => hC6) (fun _ => ?_)
    clear hK' K'
    try simp only [Act.put, List.setIfInBounds_toArray, List.set_cons_zero, List.set_cons_succ]
    refine Late.take (i := 5) (oi := _) (v := ?_) rfl (by kernel_rfl) (by kernel_rfl) (by kernel_rfl) (by kernel_rfl) (fun _ _ _ h => h) (Or.inl ⟨by rfl, ?_⟩) hC6 ?_
    rotate_left
    · (intro w hSw; (try dsimp only at hSw); go_simp; first | done | with_reducible rfl)
    simp only [Act.put]
    refine Late.one (i := 6) (o := _) (by kernel_rfl) rfl (fun K' hK' => ?_)
    go_simp
    refine hK'.out _ _ (fun h => by cases h) (fun _ => ?_)
    clear hK' K'
    refine Late.done (by kernel_rfl) ?_ _
    have hA7 := hA6.put k (.int .i64 (ord t k : Int))
    rw [HPT.out] at hA7
    exact ⟨(Keeps.of_below hx6 HZ.out).setCell (p := ⟨D, k, none⟩) (by show w.heap.size + 1 ≤ D; omega) _, hA7, hO6.far (p := ⟨D, k, none⟩) (by show D + 1 ≠ D; omega) _⟩

noncomputable def yOrdersOf0 (t : List (List Int)) : List Int := ordersR t
noncomputable def qOrdersOf1 (t : List (List Int)) : Int := codeR t
theorem ordersOf_small0 (t : List (List Int)) : (yOrdersOf0 t).length ≤ 1048576 := by
  unfold yOrdersOf0 ordersR
  split
  · rename_i h
    have := (grpB_iff.1 h).n8
    simp
    omega
  · simp



end Go.Proofs.YtenenlpfpkdplaaDoor
