/- The list of a set. -/
import Derived.Test.YtcdijeeabgmgmaaGreatDoorBts
import Derived.Test.YtcdijeeabgmgmaaGreatDoorExv
namespace Go.Proofs.YtcdijeeabgmgmaaGreatDoor
open Go.RowKit Go.Shelf

attribute [local go_sem] Oper.semAt_some

/-- What a row of elements holds. -/
def rowA {s : Nat} (pre : List {a : Nat // a ∈ elN s}) : List Value := pre.map fun x => .int .i64 (x.1 : Int)
theorem rowA_snoc {s : Nat} (pre : List {a : Nat // a ∈ elN s}) (x : {a : Nat // a ∈ elN s}) : rowA (pre ++ [x]) = rowA pre ++ [.int .i64 (x.1 : Int)] := by
  unfold rowA
  rw [List.map_append]
  rfl
theorem elI_vals {s : Nat} {xs : List {a : Nat // a ∈ elN s}} (h : xs.map (fun x => x.1) = elN s) : rowA xs = (elI s).map fun x => .int .i64 x := by
  have h2 := congrArg (List.map fun a : Nat => Value.int .i64 (a : Int)) h
  rw [List.map_map] at h2
  rw [elI, List.map_map]
  exact h2
theorem elI_vlen {s : Nat} {xs : List {a : Nat // a ∈ elN s}} (h : xs.map (fun x => x.1) = elN s) : xs.length = (elI s).length := by
  have h2 := congrArg List.length h
  rw [List.length_map] at h2
  rw [elI_len]
  exact h2

set_option maxRecDepth 100000 in
set_option maxHeartbeats 1000000 in
theorem appendSet_any (Bs s : Nat) (w : World) (hs : s < 256) (hBs : Bs < w.heap.size) (hc : w.cell? ⟨Bs, 0, none⟩ = some (.int .u64 (s : Int))) (hT : TabL w) :
    Calls Tryz.prog 111 #[.slice none 0 0, .func (.func 112) #[] #[.pointer (some ⟨Bs, 0, none⟩)]] w fun e w' => ∃ A' c', e = .returned (.slice A' (elI s).length c') ∧ Ex w w' ∧ OwnL w' w.heap.size w'.heap.size A' (elI s) := by
  obtain ⟨i0, hi, hi0, hi1, hi2⟩ := info_parts infoI
  have hlen := elN_len s hs
  refine (callsIn_wide (n := 8)).1 ?_
  refine callsIn_of_wp_marks Tryz.func111 rfl trivial ?_ rfl
  simp only [Tryz.ntmps111, List.size_toArray, List.length_cons, List.length_nil, Nat.reduceAdd, Nat.reduceSub, Array.replicate_succ, Array.replicate_zero, List.push_toArray, List.append_toArray, List.nil_append, List.cons_append]
  have bS := Boxed.new w 25 (.slice none 0 0)
  have hB0 : Below w.heap.size w (w.alloc (.cells #[.slice none 0 0] 25)) := (Below.refl _ w).alloc (Nat.le_refl _) _
  have hz0 : (w.alloc (.cells #[.slice none 0 0] 25)).heap.size = w.heap.size + 1 := by simp
  have hcg : (w.alloc (.cells #[.slice none 0 0] 25)).cell? ⟨Bs, 0, none⟩ = some (.int .u64 (s : Int)) := (hB0.cell (p := ⟨Bs, 0, none⟩) hBs).trans hc
  have hT0 : TabL (w.alloc (.cells #[.slice none 0 0] 25)) := hT.below hB0 hT.lt
  have hTl := hT.lt
  clear hc hT
  gi_wp2_with fail
  obtain ⟨W0, hW0⟩ : ∃ W0, w.alloc (.cells #[.slice none 0 0] 25) = W0 := ⟨_, rfl⟩
  rw [hW0] at bS hB0 hz0 hcg hT0 ⊢
  clear hW0
  refine range_top (n := 8) (n₀ := w.heap.size) (by omega) (gf := 112) (lb := #[.pointer (some ⟨Bs, 0, none⟩)]) rfl (enters_of Tryz.func112 (by kernel_rfl) rfl)
    (all_stops 7 (by omega) Bs w.heap.size s W0 hs (by omega) hcg hT0 hTl) (by omega) (fun _ => rfl)
    (fun pre W => ∃ v, Boxed W w.heap.size 25 v ∧ W.ownsRow w.heap.size 2 1 v pre.length (rowA pre) ∧ True)
    (fun c' _ W => False)
    (Own.from (holdsRow_own w.heap.size w.heap.size 25 2 1 (fun pre : List {a : Nat // a ∈ elN s} => pre.length) (fun pre => rowA pre) (fun _ _ => True)) _)
    (fun _ => ownFrom_pure _ _)
    ⟨_, bS, ⟨rfl, .inl ⟨rfl, rfl⟩⟩, trivial⟩ ?round ?done ?stop
  case round =>
    intro l x W K hK
    have HK := Lib.hid hK
    clear hK
    gi_wp2
    refine HK.out _ ?_
    clear HK
    rintro l pre W hr ⟨v, bS1, hown, _⟩ hKW hlt
    obtain ⟨k, hk⟩ := x
    have hle := hKW.size
    have HOWN := Lib.hid hown
    have HBS := Lib.hid bS1
    have hbox := bS1.cell
    clear hown bS1 hKW
    have hkn : pre.length + 1 ≤ 1048576 := by omega
    gi_wp2_with (gi_at_builtin; refine wpListIn_append_own _ rfl _ _ 25 rfl w.heap.size 2 i0 (.int .i64 0) 1 8 Tryz.underlying25 hi hi0 hi1 hi2 rfl (by decide) _ _ _ rfl (HOWN.out.alloc _) ⟨W.heap.size, 0, none⟩ 1 1 [.int .i64 (k : Int)] rfl rfl (cell_one_new _ _ _) (by simp [Value.oneCell']) (by unfold maxLen; omega) (by omega) (by simp; omega) ?_; intro v' w3 hown3 hgrow3 _; obtain ⟨f1, f2, f3, f4, f5⟩ := HBS.out.appended (by decide) HOWN.out (by omega) (Nat.le_refl _) hown3 hgrow3; obtain ⟨g3, cap3, rfl⟩ := ownsRow_succ hown3; have hc3 := f1.cell; have hz3 := f1.frozen)
    exact ⟨⟨f5, f4.from 0⟩, _, f2, by rw [List.length_append, rowA_snoc]; exact f3⟩
  case done =>
    rintro D xs W hD hxs ⟨v, bS1, hown, _⟩ hKW hK
    have HKW := Lib.hid hKW
    have hle := hKW.size
    have hxl := elI_vlen hxs
    have hown8 := ownsRow_putObj hown (.deferred none) hK rfl
    rw [elI_vals hxs] at hown hown8
    obtain ⟨A', c', rfl, _⟩ := own_ints hown hxl.symm (by omega) (by omega)
    obtain ⟨A8, c8, e8, hO8⟩ := own_ints hown8 hxl.symm (by simp [World.putObj]; omega) (by simp [World.putObj]; omega)
    cases e8
    have hszD : (W.putObj D (.deferred none)).heap.size = W.heap.size := by simp [World.putObj]
    have HO := Lib.hid (hO8 (.inl (by omega)))
    have hbz := Lib.hid (belowK_b (w := w) (Nat.le_refl _) W D _ (.deferred none) (by omega) hK rfl rfl)
    have hbox := bS1.cell
    clear hKW hown hown8 hO8 hszD hxs hxl
    gi_wp2
    refine ⟨by simp, .inl ⟨_, _, rfl, run_takeDeferred hK, ?_⟩⟩
    refine ⟨.slice A' (elI s).length c', ?_, A', c', rfl, (hB0.trans HKW.out.1).trans hbz.out, OwnL.of_own HO.out⟩
    simp [results, Tryz.f111, go_sem]
  case stop =>
    rintro D c' pre W hD hpre h
    exact h.elim

set_option maxHeartbeats 400000 in
theorem collectSet_any (Bs s : Nat) (w : World) (hs : s < 256) (hBs : Bs < w.heap.size) (hc : w.cell? ⟨Bs, 0, none⟩ = some (.int .u64 (s : Int))) (hT : TabL w) :
    Calls Tryz.prog 76 #[.func (.func 112) #[] #[.pointer (some ⟨Bs, 0, none⟩)]] w fun e w' => ∃ A' c', e = .returned (.slice A' (elI s).length c') ∧ Ex w w' ∧ OwnL w' w.heap.size w'.heap.size A' (elI s) := by
  have HC := Lib.hid (appendSet_any Bs s w hs hBs hc hT)
  clear hc hT
  go_enter Tryz.func76, Tryz.ntmps76
  go_wp2_with fail
  refine HC.out.mono ?_
  rintro e W1 ⟨A', c', rfl, hb, hO⟩
  have HB := Lib.hid hb
  have HO := Lib.hid hO
  clear hb hO
  go_wp2
  go_ret
  exact ⟨A', c', rfl, HB.out, HO.out⟩

set_option maxHeartbeats 400000 in
theorem setAll_any (s : Nat) (w : World) :
    Calls Tryz.prog 77 #[.int .u64 (s : Int)] w fun e w' => e = .returned (.func (.func 112) #[] #[.pointer (some ⟨w.heap.size, 0, none⟩)]) ∧ w' = w.alloc (.cells #[.int .u64 (s : Int)] 66) := by
  go_enter Tryz.func77, Tryz.ntmps77
  go_wp2
  go_ret
  exact ⟨rfl, rfl⟩

set_option maxHeartbeats 400000 in
theorem setList_any (s : Nat) (w : World) (hs : s < 256) (hT : TabL w) :
    Calls Tryz.prog 39 #[.int .u64 (s : Int)] w fun e w' => ∃ A' c', e = .returned (.slice A' (elI s).length c') ∧ Ex w w' ∧ OwnL w' w.heap.size w'.heap.size A' (elI s) := by
  have e0 := Ex.new w (.cells #[.int .u64 (s : Int)] 66)
  have HC := Lib.hid (collectSet_any w.heap.size s (w.alloc (.cells #[.int .u64 (s : Int)] 66)) hs (by simp) ((Has.new w 66 #[.int .u64 (s : Int)]).cell 0) (hT.below e0.below hT.lt))
  have HE := Lib.hid e0
  clear hT e0
  go_enter Tryz.func39, Tryz.ntmps39
  go_wp2_with fail
  refine (setAll_any s w).mono ?_
  rintro e W1 ⟨rfl, rfl⟩
  go_wp2_with fail
  refine HC.out.mono ?_
  rintro e W1 ⟨A', c', rfl, hb, hO⟩
  have HB := Lib.hid hb
  have HO := Lib.hid hO
  clear hb hO
  go_wp2
  go_ret
  exact ⟨A', c', rfl, HE.out.trans HB.out, HO.out.mono HE.out.size (Nat.le_refl _) (Nat.le_refl _)⟩

/-- The table lasts while memory grows. -/
theorem TabL.ex {w w' : World} (h : TabL w) (k : Ex w w') : TabL w' := h.below k.below h.lt

end Go.Proofs.YtcdijeeabgmgmaaGreatDoor
