/- The law of IsGroup: the walk. -/
import Derived.Deep.RegionHeld3
import Derived.Test.YtnjcjdfleilgfaaSz
import Derived.Test.YtnjcjdfleilgfaaTo
import Derived.Test.YtnjcjdfleilgfaaEq
import Derived.Test.YtnjcjdfleilgfaaIsG
namespace Go.Proofs.Ytnjcjdfleilgfaa
open Go.RowKit

theorem small_of {t : List (List Int)} (h : Small t 1048576) : t.length ≤ 1048576 ∧ ∀ i, i < t.length → (row t i).length ≤ 1048576 :=
  ⟨by have := h.1; omega, fun i hi => by have := h.2 i hi; omega⟩

set_option maxHeartbeats 1000000 in
theorem lawIsGroup_any (A : Option Addr) (t : List (List Int)) (c : Nat) (w : World) (hR : Rws w w.heap.size A t) (hn : t.length ≤ maxLen) (hl : ∀ i, i < t.length → (row t i).length ≤ maxLen) :
    Calls Try.prog 3 #[.agg #[.slice A t.length c]] w fun e w' => e = .returned (.bool true) ∧ Below w.heap.size w w' := by
  have hb0 : Below w.heap.size w (w.alloc (.cells #[.slice A t.length c] 24)) := (Below.refl _ _).alloc (Nat.le_refl _) _
  have hR0 := hR.below hb0 (Nat.le_refl _)
  have h0 := Has.new w 24 #[.slice A t.length c]
  have hz0 : (w.alloc (.cells #[.slice A t.length c] 24)).heap.size = w.heap.size + 1 := by simp
  have HN := Lib.hid hn
  have HL := Lib.hid hl
  have HR := Lib.hid hR0
  clear hn hl hR hR0
  go_enter Try.func3, Try.ntmps3
  go_wp2_with fail
  generalize (w.alloc (.cells #[.slice A t.length c] 24)) = W0 at *
  refine (szGroup_any A t c 1048576 W0 (HR.out.more (by omega)) HN.out HL.out (by omega) (by omega)).mono ?_
  rintro e W1 ⟨⟨r, rfl, hr⟩, rfl⟩
  have hb1 : Below W0.heap.size W0 (W0.alloc (.cells #[.slice A t.length c] 24)) := (Below.refl _ _).alloc (Nat.le_refl _) _
  have h1 := h0.below hb1 h0.lt
  have c1 := h1.cell 0
  have hz1 := hb1.size
  have hz1' : (W0.alloc (.cells #[.slice A t.length c] 24)).heap.size = W0.heap.size + 1 := by simp
  generalize (W0.alloc (.cells #[.slice A t.length c] 24)) = W1 at *
  rcases hr with rfl | ⟨hr0, hr1, hs⟩
  · go_wp2
    go_ret
    exact ⟨rfl, hb0.trans (hb1.mono (by omega))⟩
  obtain ⟨hs1, hs2⟩ := small_of hs
  have hR1 := HR.out.below hb1 (by omega)
  have HS2 := Lib.hid hs2
  have HR1 := Lib.hid hR1
  clear HN HL HR hs hs2 hR1
  go_wp2_with fail
  -- w0 := spec.IsGroup(toGroup(aG))
  refine (toGroup_any A t c w.heap.size W1 HR1.out (by omega) hs1 HS2.out).mono ?_
  rintro e W2 ⟨G2, rfl, hG2, hb2, hz2, hf2⟩
  have HF2 := Lib.hid hf2
  clear hf2
  have c2 := (h1.below hb2 h1.lt).cell 0
  clear c1
  go_wp2_with fail
  refine (specIsGroup_any (some ⟨G2, 0, none⟩) t t.length (G2 + 1 + t.length) W2 HF2.out.rws hz2 hs1 HS2.out).mono ?_
  rintro e W3 ⟨rfl, hb3⟩
  have hb13 := hb2.trans (hb3.mono hb2.size)
  have c3 := (h1.below hb13 h1.lt).cell 0
  clear c2
  go_wp2_with fail
  -- x0 := toGroup(aG)
  refine (toGroup_any A t c w.heap.size W3 (HR1.out.below hb13 (by omega)) (by have := hb13.size; omega) hs1 HS2.out).mono ?_
  rintro e W4 ⟨G4, rfl, hG4, hb4, hz4, hf4⟩
  have hb14 := hb13.trans (hb4.mono hb13.size)
  have c4 := (h1.below hb14 h1.lt).cell 0
  clear c3
  have HF4 := Lib.hid hf4
  clear hf4
  go_wp2_with fail
  -- g0 := impl.IsGroup(x0)
  have hb5 : Below W4.heap.size W4 (W4.alloc (.cells #[.slice (some ⟨G4, 0, none⟩) t.length t.length] 27)) := (Below.refl _ _).alloc (Nat.le_refl _) _
  have x5 := Has.new W4 27 #[.slice (some ⟨G4, 0, none⟩) t.length t.length]
  have hz5 : (W4.alloc (.cells #[.slice (some ⟨G4, 0, none⟩) t.length t.length] 27)).heap.size = W4.heap.size + 1 := by simp
  generalize (W4.alloc (.cells #[.slice (some ⟨G4, 0, none⟩) t.length t.length] 27)) = W5 at *
  have hf5 := HF4.out.below hb5 hz4
  have HF5 := Lib.hid hf5
  have hb15 := hb14.trans (hb5.mono hb14.size)
  clear hf5
  refine (implIsGroup_any (some ⟨G4, 0, none⟩) t t.length (G4 + 1 + t.length) W5 HF5.out.rws (by omega) hs1 HS2.out).mono ?_
  rintro e W6 ⟨rfl, hb6⟩
  have hb16 := hb15.trans (hb6.mono hb15.size)
  have c6 := (h1.below hb16 h1.lt).cell 0
  have x6 := (x5.below hb6 x5.lt).cell 0
  have hf6 := HF5.out.below hb6 (by omega)
  have HF6 := Lib.hid hf6
  clear c4 hf6
  have hR6' := HR1.out.below hb16 (by omega)
  have hR6 : Rws W6.drew w.heap.size A t := hR6'
  have HR6 := Lib.hid hR6
  have h16 : Has W6.drew w.heap.size 24 #[.slice A t.length c] := h1.below hb16.drew h1.lt
  have x66 : Has W6.drew W4.heap.size 27 #[.slice (some ⟨G4, 0, none⟩) t.length t.length] := x5.below hb6.drew x5.lt
  have hz6 : G4 + 1 + t.length ≤ W6.heap.size := by have := hb6.size; omega
  have hle6 : w.heap.size ≤ W6.drew.heap.size := by show w.heap.size ≤ W6.heap.size; have := hb16.size; omega
  clear hR6 hR6'
  cases hgb : grpB t
  all_goals
    go_wp2_with fail
    go_region_held3 (fun w' => w'.cell? ⟨w.heap.size, 0, none⟩ = some (.slice A t.length c) ∧ w'.cell? ⟨W4.heap.size, 0, none⟩ = some (.slice (some ⟨G4, 0, none⟩) t.length t.length))
      (first | go_keep | exact ⟨(h16.below hb7 h16.lt).cell 0, (x66.below hb7 x66.lt).cell 0⟩ | exact ⟨(h16.below (hb7.trans (hb8.mono hb7.size)) h16.lt).cell 0, (x66.below (hb7.trans (hb8.mono hb7.size)) x66.lt).cell 0⟩)
      (first
        | (go_at_call 17; refine (toGroup_any A t c w.heap.size W6.drew HR6.out hle6 hs1 HS2.out).mono ?_; rintro e W7 ⟨G7, rfl, hG7, hb7, hz7, hf7⟩)
        | (go_at_call 19; refine (eqGroup_any (some ⟨G4, 0, none⟩) (some ⟨G7, 0, none⟩) t t t.length t.length (G4 + 1 + t.length) (G7 + 1 + t.length) _ (HF6.out.drew.below hb7 hz6).rws hf7.rws (Nat.le_trans hz6 hb7.size) hz7 hs1 hs1 HS2.out HS2.out).mono ?_; rintro e W8 ⟨rfl, hb8⟩))
    go_wp2
    go_ret
    exact ⟨rfl, (hb0.trans (hb1.mono (by omega))).trans (((hb16.drew).trans ((hb7.trans (hb8.mono hb7.size)).mono hb16.size)).mono (by omega))⟩

end Go.Proofs.Ytnjcjdfleilgfaa
