/- slices.Collect over the elements of a group; what homomorphisms lead to. -/
import Derived.Test.YtdehalkebneaoaaDoorOwn
import Derived.Test.YtdehalkebneaoaaDoorIt
import Derived.OwnWalkIn
namespace Go.Proofs.YtdehalkebneaoaaDoor
open Go.RowKit Go.Shelf

attribute [local go_sem] Oper.semAt_some

/-- The elements. -/
def elems (N : Nat) : List Int := (List.range N).map fun k : Nat => (k : Int)
theorem elems_length (N : Nat) : (elems N).length = N := by simp [elems]
theorem finRange_elems (N : Nat) : (List.finRange N).map (fun x : Fin N => Value.int .i64 (x.val : Int)) = (elems N).map fun x => .int .i64 x := by
  apply List.ext_getElem
  · simp [elems]
  · intro i h1 h2
    simp [elems]

set_option maxRecDepth 100000 in
set_option maxHeartbeats 1000000 in
theorem appendSeq_any (Bg N c : Nat) (A : Option Addr) (w : World) (hBg : Bg < w.heap.size) (hc : w.cell? ⟨Bg, 0, none⟩ = some (.slice A N c)) (hN : N ≤ 1048576) :
    Calls Tryd.prog 170 #[.slice none 0 0, .func (.func 147) #[] #[.pointer (some ⟨Bg, 0, none⟩)]] w fun e w' => ∃ A' c', e = .returned (.slice A' N c') ∧ Below w.heap.size w w' ∧ OwnI w' w.heap.size A' (elems N) := by
  obtain ⟨i0, hi, hi0, hi1, hi2⟩ := info_parts infoI
  refine (callsIn_wide (n := 8)).1 ?_
  refine callsIn_of_wp_marks Tryd.func170 rfl trivial ?_ rfl
  simp only [Tryd.ntmps170, List.size_toArray, List.length_cons, List.length_nil, Nat.reduceAdd, Nat.reduceSub, Array.replicate_succ, Array.replicate_zero, List.push_toArray, List.append_toArray, List.nil_append, List.cons_append]
  have bS := Boxed.new w 26 (.slice none 0 0)
  have hB0 : Below w.heap.size w (w.alloc (.cells #[.slice none 0 0] 26)) := (Below.refl _ w).alloc (Nat.le_refl _) _
  have hz0 : (w.alloc (.cells #[.slice none 0 0] 26)).heap.size = w.heap.size + 1 := by simp
  have hcg : (w.alloc (.cells #[.slice none 0 0] 26)).cell? ⟨Bg, 0, none⟩ = some (.slice A N c) := (hB0.cell (p := ⟨Bg, 0, none⟩) hBg).trans hc
  clear hc
  gi_wp2_with fail
  obtain ⟨W0, hW0⟩ : ∃ W0, w.alloc (.cells #[.slice none 0 0] 26) = W0 := ⟨_, rfl⟩
  rw [hW0] at bS hB0 hz0 hcg ⊢
  clear hW0
  refine range_top (n := 8) (n₀ := w.heap.size) (by omega) (gf := 147) (lb := #[.pointer (some ⟨Bg, 0, none⟩)]) rfl (enters_of Tryd.func147 (by kernel_rfl) rfl)
    (elements_stops 7 (by omega) Bg w.heap.size N c A W0 (by omega) hcg hN) (by omega) (fun _ => rfl)
    (fun pre W => ∃ v, Boxed W w.heap.size 26 v ∧ W.ownsRow w.heap.size 2 1 v pre.length (pre.map fun x : Fin N => Value.int .i64 (x.val : Int)) ∧ True)
    (fun c' _ W => False)
    (Own.from (holdsRow_own w.heap.size w.heap.size 26 2 1 (fun pre : List (Fin N) => pre.length) (fun pre => pre.map fun x : Fin N => Value.int .i64 (x.val : Int)) (fun _ _ => True)) _)
    (fun _ => ownFrom_pure _ _)
    ⟨_, bS, ⟨rfl, .inl ⟨rfl, rfl⟩⟩, trivial⟩ ?round ?done ?stop
  case round =>
    intro l x W K hK
    have HK := Lib.hid hK
    clear hK
    gi_wp2
    refine HK.out _ ?_
    clear HK
    rintro l pre W hr ⟨v, bS1, hown, _⟩ hKW hlt
    obtain ⟨k, hk⟩ := x
    have hle := hKW.size
    have HOWN := Lib.hid hown
    have HBS := Lib.hid bS1
    have hbox := bS1.cell
    clear hown bS1 hKW
    have hkn : pre.length + 1 ≤ 1048576 := by omega
    gi_wp2_with (gi_at_builtin; refine wpListIn_append_own _ rfl _ _ 26 rfl w.heap.size 2 i0 (.int .i64 0) 1 8 Tryd.underlying26 hi hi0 hi1 hi2 rfl (by decide) _ _ _ rfl (HOWN.out.alloc _) ⟨W.heap.size, 0, none⟩ 1 1 [.int .i64 (k : Int)] rfl rfl (cell_one_new _ _ _) (by simp [Value.oneCell']) (by unfold maxLen; omega) (by omega) (by simp; omega) ?_; intro v' w3 hown3 hgrow3 _; obtain ⟨f1, f2, f3, f4, f5⟩ := HBS.out.appended (by decide) HOWN.out (by omega) (Nat.le_refl _) hown3 hgrow3; obtain ⟨g3, cap3, rfl⟩ := ownsRow_succ hown3; have hc3 := f1.cell; have hz3 := f1.frozen)
    exact ⟨⟨f5, f4.from 0⟩, _, f2, by rw [List.length_append, List.map_append]; exact f3⟩
  case done =>
    rintro D xs W hD rfl ⟨v, bS1, hown, _⟩ hKW hK
    have HKW := Lib.hid hKW
    have hle := hKW.size
    have hown8 := ownsRow_putObj hown (.deferred none) hK rfl
    rw [finRange_elems] at hown hown8
    simp only [List.length_finRange] at hown hown8
    obtain ⟨A', c', rfl, _⟩ := own_ints hown (elems_length N) (by omega) (by omega)
    have hszD : (W.putObj D (.deferred none)).heap.size = W.heap.size := by simp [World.putObj]
    obtain ⟨A8, c8, e8, hO8⟩ := own_ints hown8 (elems_length N) (by omega) (by omega)
    cases e8
    have hO := hO8 (.inl (by omega))
    have HO := Lib.hid hO
    have hbz := Lib.hid (belowK_b (w := w) (Nat.le_refl _) W D _ (.deferred none) (by omega) hK rfl rfl)
    rw [elems_length] at bS1
    have hbox := bS1.cell
    clear hKW hown hown8 hO hO8 hszD
    gi_wp2
    refine ⟨by simp, .inl ⟨_, _, rfl, run_takeDeferred hK, ?_⟩⟩
    refine ⟨.slice A' N c', ?_, A', c', rfl, (hB0.trans HKW.out.1).trans hbz.out, HO.out⟩
    simp [results, Tryd.f170, go_sem]
  case stop =>
    rintro D c' pre W hD hpre h
    exact h.elim

set_option maxHeartbeats 400000 in
theorem collect_any (Bg N c : Nat) (A : Option Addr) (w : World) (hBg : Bg < w.heap.size) (hc : w.cell? ⟨Bg, 0, none⟩ = some (.slice A N c)) (hN : N ≤ 1048576) :
    Calls Tryd.prog 148 #[.func (.func 147) #[] #[.pointer (some ⟨Bg, 0, none⟩)]] w fun e w' => ∃ A' c', e = .returned (.slice A' N c') ∧ Below w.heap.size w w' ∧ OwnI w' w.heap.size A' (elems N) := by
  have HC := Lib.hid (appendSeq_any Bg N c A w hBg hc hN)
  clear hc
  go_enter Tryd.func148, Tryd.ntmps148
  go_wp2_with fail
  refine HC.out.mono ?_
  rintro e W1 ⟨A', c', rfl, hb, hO⟩
  have HB := Lib.hid hb
  have HO := Lib.hid hO
  clear hb hO
  go_wp2
  go_ret
  exact ⟨A', c', rfl, HB.out, HO.out⟩

set_option maxHeartbeats 400000 in
theorem groupTarget_any (A : Option Addr) (N c : Nat) (w : World) (hN : N ≤ 1048576) :
    Calls Tryd.prog 138 #[.agg #[.slice A N c]] w fun e w' => ∃ A' c', e = .returned (.agg #[.slice A' N c', .func (.func 167) #[] #[.pointer (some ⟨w.heap.size, 0, none⟩)]]) ∧ Below w.heap.size w w' ∧ Has w' w.heap.size 29 #[.slice A N c] ∧ OwnI w' w.heap.size A' (elems N) := by
  have hmf : ∀ (fn : Fn) (first cap : Array Value) (w : World), (Instr.makeFunc fn first cap).run Tryd.prog w = .ok (.func fn first cap) w := fun _ _ _ _ => rfl
  have hsf := fun (a : Addr) (c : Array Value) (w : World) => run_store Tryd.prog w a (.func (.func 167) #[] c) .plain rfl
  have hb0 : Below w.heap.size w ((w.alloc (.cells #[.slice A N c] 29)).alloc (.cells #[.slice none 0 0, .nilFunc] 153)) := ((Below.refl _ _).alloc (Nat.le_refl _) _).alloc (by simp) _
  have h0 := (Has.new w 29 #[.slice A N c]).alloc (.cells #[.slice none 0 0, .nilFunc] 153)
  have h0' := Has.newAt (w := w.alloc (.cells #[.slice A N c] 29)) (e := 153) (cs := #[.slice none 0 0, .nilFunc]) (k := w.heap.size + 1) (by simp)
  have hz0 : (((w.alloc (.cells #[.slice A N c] 29)).alloc (.cells #[.slice none 0 0, .nilFunc] 153))).heap.size = w.heap.size + 1 + 1 := by simp
  have c0 : (((w.alloc (.cells #[.slice A N c] 29)).alloc (.cells #[.slice none 0 0, .nilFunc] 153))).cell? ⟨w.heap.size, 0, none⟩ = some (.slice A N c) := h0.cell 0
  go_enter Tryd.func138, Tryd.ntmps138
  go_wp2_with fail
  generalize ((w.alloc (.cells #[.slice A N c] 29)).alloc (.cells #[.slice none 0 0, .nilFunc] 153)) = W0 at *
  refine (elementsOf_any A N c W0).mono ?_
  rintro e W1 ⟨rfl, hW1⟩
  have hz1 : W1.heap.size = w.heap.size + 1 + 1 + 1 := by rw [hW1]; simp [hz0]
  have hb1 : Below w.heap.size w W1 := by rw [hW1]; exact hb0.alloc (by omega) _
  have hg1 : Has W1 w.heap.size 29 #[.slice A N c] := by rw [hW1]; exact h0.alloc _
  have hr1 : Has W1 (w.heap.size + 1) 153 #[.slice none 0 0, .nilFunc] := by rw [hW1]; exact h0'.alloc _
  have he1 : W1.cell? ⟨w.heap.size + 1 + 1, 0, none⟩ = some (.slice A N c) := by
    rw [hW1]
    exact (Has.newAt (w := W0) (e := 29) (cs := #[.slice A N c]) (k := w.heap.size + 1 + 1) hz0).cell 0
  have HE := Lib.hid he1
  clear hW1 c0 he1 hb0 h0 h0'
  rw [hz0]
  go_wp2_with fail
  refine (collect_any (w.heap.size + 1 + 1) N c A W1 (by omega) HE.out hN).mono ?_
  rintro e W2 ⟨A', c', rfl, hb2, hO2⟩
  have HO := Lib.hid hO2
  have HG := Lib.hid (hg1.below hb2 hg1.lt)
  have h2 := hr1.below hb2 hr1.lt
  have c2 := h2.cell 0
  have c2' := h2.cell 1
  have f2 := h2.free 0
  have f2' := h2.free 1
  have HB := Lib.hid (hb1.trans (hb2.mono (by omega)))
  clear hO2 hg1 hr1
  go_wp2_with fail
  have H4 := (h2.put 0 (.slice A' N c')).put 1 (.func (.func 167) #[] #[.pointer (some ⟨w.heap.size, 0, none⟩)])
  have c4 := H4.cell 0
  have c4' := H4.cell 1
  refine bodyPost_ret (v := .agg #[.slice A' N c', .func (.func 167) #[] #[.pointer (some ⟨w.heap.size, 0, none⟩)]]) (by simp [results, Tryd.results138, go_sem, c4, c4']) rfl ⟨A', c', rfl, ?_, ?_, ?_⟩
  · exact (HB.out.setCell (by show w.heap.size ≤ w.heap.size + 1; omega) _).setCell (by show w.heap.size ≤ w.heap.size + 1; omega) _
  · exact (HG.out.far (by show w.heap.size ≠ w.heap.size + 1; omega) _).far (by show w.heap.size ≠ w.heap.size + 1; omega) _
  · have hle := hb2.size
    refine (HO.out.same (by simp [World.setCell]) fun b hb hlt => ?_).mono (by omega)
    exact (Below.heap_setCell _ _ _ b (by show b ≠ w.heap.size + 1; omega)).trans (Below.heap_setCell _ _ _ b (by show b ≠ w.heap.size + 1; omega))

end Go.Proofs.YtdehalkebneaoaaDoor
