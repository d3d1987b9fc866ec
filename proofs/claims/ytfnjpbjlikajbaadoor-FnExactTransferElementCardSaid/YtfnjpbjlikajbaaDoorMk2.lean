/- Is it a module? The program. -/
import Derived.Deep.RegionHeld3
import Derived.Test.YtfnjpbjlikajbaaDoorMdl
namespace Go.Proofs.YtfnjpbjlikajbaaDoor
open Go.RowKit

theorem gm_group {t : List (List Int)} {m : Int} {us : List Int} (h : grpB t = false) : gmB t m us = false := by rw [gmB, h, Bool.false_and]
theorem gm_mod {t : List (List Int)} {m : Int} {us : List Int} (h : grpB t = true) : gmB t m us = modB t m us := by rw [gmB, h, Bool.true_and]

theorem groupOrder_b (A : Option Addr) (n c : Nat) (w : World) (hn : n ≤ 1048576) :
    Calls Tryd.prog 70 #[.agg #[.slice A n c]] w fun e w' => e = .returned (.int .i64 n) ∧ Below w.heap.size w w' :=
  (groupOrder_any A n c w hn).mono fun _ _ ⟨h1, h2⟩ => ⟨h1, by rw [h2]; exact (Below.refl _ _).alloc (Nat.le_refl _) _⟩

theorem isModulus_b {m : Int} {b : Bool} (hb : (decide (2 ≤ m) && decide (m ≤ 12)) = b) (w : World) :
    Calls Tryd.prog 49 #[.int .i64 m] w fun e w' => e = .returned (.bool b) ∧ Below w.heap.size w w' :=
  (isModulus_any m w).mono fun _ _ ⟨h1, h2⟩ => ⟨by rw [h1, hb], by rw [h2]; exact Below.refl _ _⟩

theorem isGroup_b {t : List (List Int)} {b : Bool} (hb : grpB t = b) (A : Option Addr) (c B : Nat) (w : World) (hR : Rws w B A t) (hB : B ≤ w.heap.size) (hn : t.length ≤ 1048576) (hl : ∀ i, i < t.length → (row t i).length ≤ 1048576) :
    Calls Tryd.prog 60 #[.agg #[.slice A t.length c]] w fun e w' => e = .returned (.bool b) ∧ Below w.heap.size w w' :=
  (implIsGroup_any A t c B w hR hB hn hl).mono fun _ _ ⟨h1, h2⟩ => ⟨by rw [h1, hb], h2⟩

theorem keeps_b {b b' : Bool} {f : Nat} {args : Array Value} {w : World} (hb : b = b') (h : Calls Tryd.prog f args w fun e w' => e = .returned (.bool b) ∧ Below w.heap.size w w') : Calls Tryd.prog f args w fun e w' => e = .returned (.bool b') ∧ Below w.heap.size w w' := hb ▸ h

end Go.Proofs.YtfnjpbjlikajbaaDoor
