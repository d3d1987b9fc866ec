/- Is it a module? The program. -/
import Derived.Deep.RegionHeld3
import Derived.Test.YtmmgmbgnlcfabaaMc
import Derived.Test.YtmmgmbgnlcfabaaUt
namespace Go.Proofs.Ytmmgmbgnlcfabaa
open Go.RowKit

theorem gm_group {t : List (List Int)} {m : Int} {us : List Int} (h : grpB t = false) : gmB t m us = false := by rw [gmB, h, Bool.false_and]
theorem gm_mod {t : List (List Int)} {m : Int} {us : List Int} (h : grpB t = true) : gmB t m us = modB t m us := by rw [gmB, h, Bool.true_and]

theorem groupOrder_b (A : Option Addr) (n c : Nat) (w : World) (hn : n ≤ 1048576) :
    Calls Try.prog 31 #[.agg #[.slice A n c]] w fun e w' => e = .returned (.int .i64 n) ∧ Below w.heap.size w w' :=
  (groupOrder_any A n c w hn).mono fun _ _ ⟨h1, h2⟩ => ⟨h1, by rw [h2]; exact (Below.refl _ _).alloc (Nat.le_refl _) _⟩

theorem isGroup_b {t : List (List Int)} {b : Bool} (hb : grpB t = b) (A : Option Addr) (c B : Nat) (w : World) (hR : Rws w B A t) (hB : B ≤ w.heap.size) (hn : t.length ≤ 1048576) (hl : ∀ i, i < t.length → (row t i).length ≤ 1048576) :
    Calls Try.prog 28 #[.agg #[.slice A t.length c]] w fun e w' => e = .returned (.bool b) ∧ Below w.heap.size w w' :=
  (implIsGroup_any A t c B w hR hB hn hl).mono fun _ _ ⟨h1, h2⟩ => ⟨by rw [h1, hb], h2⟩

theorem keeps_b {b b' : Bool} {f : Nat} {args : Array Value} {w : World} (hb : b = b') (h : Calls Try.prog f args w fun e w' => e = .returned (.bool b) ∧ Below w.heap.size w w') : Calls Try.prog f args w fun e w' => e = .returned (.bool b') ∧ Below w.heap.size w w' := hb ▸ h

end Go.Proofs.Ytmmgmbgnlcfabaa
