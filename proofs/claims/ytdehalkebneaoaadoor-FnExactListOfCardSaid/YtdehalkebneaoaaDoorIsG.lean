/- IsGroup, of the program and of the specification. -/
import Derived.Test.YtdehalkebneaoaaDoorSpA
import Derived.Test.YtdehalkebneaoaaDoorImA
import Derived.Test.YtdehalkebneaoaaDoorImB
import Derived.Test.YtdehalkebneaoaaDoorImC
namespace Go.Proofs.YtdehalkebneaoaaDoor
open Go.RowKit

set_option maxHeartbeats 1000000 in
theorem implIsGroup_any (A : Option Addr) (t : List (List Int)) (c B : Nat) (w : World) (hR : Rws w B A t) (hB : B ≤ w.heap.size) (hn : t.length ≤ 1048576) (hl : ∀ i, i < t.length → (row t i).length ≤ 1048576) :
    Calls Tryd.prog 63 #[.agg #[.slice A t.length c]] w fun e w' => e = .returned (.bool (grpB t)) ∧ Below w.heap.size w w' := by
  have hg := grpB_eq t
  have hb0 : Below w.heap.size w (w.alloc (.cells #[.slice A t.length c] 29)) := (Below.refl _ _).alloc (Nat.le_refl _) _
  have HG := Lib.hid hg
  clear hg
  cases hT : tabB t with
  | false =>
    have hcon := isTable_any A t c B (w.alloc (.cells #[.slice A t.length c] 29)) (hR.below hb0 hB) hn hl
    rw [hT] at hcon
    have HCON := Lib.hid hcon
    have HT := Lib.hid hT
    clear hT hcon hR hl
    go_enter Tryd.func63, Tryd.ntmps63
    go_wp2_with fail
    refine HCON.out.mono ?_
    rintro e w' ⟨rfl, rfl⟩
    go_wp2
    go_ret
    exact ⟨by rw [HG.out, HT.out]; rfl, hb0⟩
  | true =>
    have hcon := isTable_any A t c B (w.alloc (.cells #[.slice A t.length c] 29)) (hR.below hb0 hB) hn hl
    rw [hT] at hcon
    have HCON := Lib.hid hcon
    have hI : IsTab t := by simpa [tabB] using hT
    have HT := Lib.hid hT
    obtain ⟨b, o, bb, oo, C, rfl, hQ⟩ := hR.sq (by have := hI.n1; omega) hI.sq
    have HI := Lib.hid hI
    have hQ0 := hQ.below hb0 hB
    have HQ := Lib.hid hQ0
    have hz : (w.alloc (.cells #[.slice (some ⟨b, o, none⟩) t.length c] 29)).heap.size = w.heap.size + 1 := by simp
    have H1 := Has.new w 29 #[.slice (some ⟨b, o, none⟩) t.length c]
    clear hT hcon hR hl hI hQ hQ0
    go_enter Tryd.func63, Tryd.ntmps63
    go_wp2_with fail
    generalize (w.alloc (.cells #[.slice (some ⟨b, o, none⟩) t.length c] 29)) = W at *
    refine HCON.out.mono ?_
    rintro e w' ⟨rfl, rfl⟩
    clear HCON
    have hc1 := H1.cell 0
    have HZ := Lib.hid hz
    clear hz
    go_wp2_with fail
    refine (keepsElements_any t c B b o bb oo C _ HQ.out (by have := HZ.out; omega) HI.out).mono ?_
    rintro e W1 ⟨rfl, hb1⟩
    have hc2 := (H1.below hb1 H1.lt).cell 0
    have hz1 := hb1.size
    clear hc1
    cases hk : keepB t with
    | false =>
      have HK := Lib.hid hk
      clear hk
      go_wp2
      go_ret
      exact ⟨by rw [HG.out, HT.out, HK.out]; rfl, hb0.trans (hb1.mono (by have := HZ.out; omega))⟩
    | true =>
      have HK := Lib.hid hk
      clear hk
      go_wp2_with fail
      refine (ignoresBrackets_any t c B b o bb oo C _ (HQ.out.below hb1 (by have := HZ.out; omega)) (by have := HZ.out; omega) HI.out).mono ?_
      rintro e W2 ⟨rfl, hb2⟩
      have hb12 := hb1.trans (hb2.mono hz1)
      have hc3 := (H1.below hb12 H1.lt).cell 0
      have hz2 := hb12.size
      clear hc2
      cases ha : assocB t with
      | false =>
        have HA := Lib.hid ha
        clear ha
        go_wp2
        go_ret
        exact ⟨by rw [HG.out, HT.out, HK.out, HA.out]; rfl, hb0.trans (hb12.mono (by have := HZ.out; omega))⟩
      | true =>
        have HA := Lib.hid ha
        clear ha
        go_wp2_with fail
        refine (hasInverses_any t c B b o bb oo C _ (HQ.out.below hb12 (by have := HZ.out; omega)) (by have := HZ.out; omega) HI.out).mono ?_
        rintro e W3 ⟨rfl, hb3⟩
        go_wp2
        go_ret
        exact ⟨by rw [HG.out, HT.out, HK.out, HA.out]; rfl, hb0.trans ((hb12.trans (hb3.mono hz2)).mono (by have := HZ.out; omega))⟩


end Go.Proofs.YtdehalkebneaoaaDoor
