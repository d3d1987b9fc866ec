/- Fi Fc Fdc in one text. -/
import Derived.Test.YtfnjpbjlikajbaaDoorMnm
import Derived.Test.YtfnjpbjlikajbaaDoorCel
import Derived.Test.YtfnjpbjlikajbaaDoorMdl
/- Is it a cochain of a group and a module? Both sides' tests. -/
namespace Go.Proofs.YtfnjpbjlikajbaaDoor
open Go.RowKit

/-- Has a cochain of a group of order N and a module with M a Degree n and the Values fs? -/
def cocB (N : Nat) (M : Int) (n : Int) (fs : List Int) : Bool := inB n 0 3 && (decide (fs.length = cellsN N n.toNat) && belowB M fs)

end Go.Proofs.YtfnjpbjlikajbaaDoor

/- The model's tests of cochains. -/
namespace Go.Proofs.YtfnjpbjlikajbaaDoor
open Go.RowKit

end Go.Proofs.YtfnjpbjlikajbaaDoor

/- Fd Co in one text. -/
/- The model's code of a group, a module and cochains. -/
namespace Go.Proofs.YtfnjpbjlikajbaaDoor
open Go.RowKit

/-- A list of L cochains in memory: the degrees, the values. -/
structure CoL (w : World) (kb L : Nat) (ns : Nat → Int) (fss : Nat → List Int) (Bs : Nat → Option Addr) (ds : Nat → Nat) : Prop where
  lt : kb < w.heap.size
  deg : ∀ i, i < L → w.cell? ⟨kb, i * 2, none⟩ = some (.int .i64 (ns i))
  val : ∀ i, i < L → w.cell? ⟨kb, i * 2 + 1, none⟩ = some (.slice (Bs i) (fss i).length (ds i))
  rd : ∀ i, i < L → IntsW w (Bs i) (fss i)
  small : ∀ i, i < L → (fss i).length ≤ 1048576
theorem CoL.ex {w w' : World} {kb L : Nat} {ns : Nat → Int} {fss : Nat → List Int} {Bs : Nat → Option Addr} {ds : Nat → Nat} (h : CoL w kb L ns fss Bs ds) (k : Ex w w') : CoL w' kb L ns fss Bs ds :=
  ⟨Nat.lt_of_lt_of_le h.lt k.size, fun i hi => (k.below.cell (p := ⟨kb, i * 2, none⟩) h.lt).trans (h.deg i hi), fun i hi => (k.below.cell (p := ⟨kb, i * 2 + 1, none⟩) h.lt).trans (h.val i hi), fun i hi => (h.rd i hi).ex k, h.small⟩

/-- Are the first L all cochains? -/
def cocsB (N : Nat) (M : Int) (L : Nat) (ns : Nat → Int) (fss : Nat → List Int) : Bool := (List.range L).all fun i => cocB N M (ns i) (fss i)
theorem cocsB_at {N L i : Nat} {M : Int} {ns : Nat → Int} {fss : Nat → List Int} (hi : i < L) (h : cocB N M (ns i) (fss i) = false) : cocsB N M L ns fss = false := by
  cases hb : cocsB N M L ns fss
  · rfl
  · simp only [cocsB, List.all_eq_true, List.mem_range] at hb
    rw [hb i hi] at h
    cases h
theorem cocsB_all {N L : Nat} {M : Int} {ns : Nat → Int} {fss : Nat → List Int} (h : ∀ i, i < L → cocB N M (ns i) (fss i) = true) : cocsB N M L ns fss = true := by
  simp only [cocsB, List.all_eq_true, List.mem_range]
  exact h

/-- The code of a group, a module and cochains. -/
noncomputable def coC (t : List (List Int)) (m : Int) (us : List Int) (L : Nat) (ns : Nat → Int) (fss : Nat → List Int) : Int := if gmB t m us = true ∧ cocsB t.length m L ns fss = true then 0 else 1
section
variable {t : List (List Int)} {m : Int} {us : List Int} {L : Nat} {ns : Nat → Int} {fss : Nat → List Int}
theorem coC_mod (h : gmB t m us = false) : coC t m us L ns fss = 1 := by simp [coC, h]
theorem coC_no (h : cocsB t.length m L ns fss = false) : coC t m us L ns fss = 1 := by simp [coC, h]
theorem coC_yes (h : gmB t m us = true) (h2 : cocsB t.length m L ns fss = true) : coC t m us L ns fss = 0 := by simp [coC, h, h2]
end

end Go.Proofs.YtfnjpbjlikajbaaDoor

/- The model's code of a group, a module and one cochain. -/
namespace Go.Proofs.YtfnjpbjlikajbaaDoor
open Go.RowKit

theorem cocB_yes {N : Nat} {m n : Int} {fs : List Int} (h : cocB N m n fs = true) : 0 ≤ n ∧ n ≤ 3 ∧ fs.length = cellsN N n.toNat ∧ belowB m fs = true := by
  simp only [cocB, Bool.and_eq_true, decide_eq_true_eq] at h
  exact ⟨(inB_true h.1).1, (inB_true h.1).2, h.2.1, h.2.2⟩

/-- Is all that is given of the right kind? -/
noncomputable def gmcB (t : List (List Int)) (m : Int) (us : List Int) (n : Int) (fs : List Int) : Bool := gmB t m us && cocB t.length m n fs

/-- What a cochain gives. -/
theorem gmc_facts {t : List (List Int)} {m n : Int} {us fs : List Int} (h : gmcB t m us n fs = true) :
    ∃ (M k : Nat), m = (M : Int) ∧ n = (k : Int) ∧ ModF t M us ∧ k ≤ 3 ∧ fs.length = cellsN t.length k ∧ fs.length ≤ 343 ∧ InR M fs := by
  simp only [gmcB, Bool.and_eq_true] at h
  obtain ⟨M, rfl, hF⟩ := gmB_f h.1
  obtain ⟨h0, h1, h2, h3⟩ := cocB_yes h.2
  have hle : cellsN t.length n.toNat ≤ 343 := by
    have hn : n.toNat ≤ 3 := by omega
    exact Nat.le_trans (Nat.pow_le_pow_left (show t.length - 1 ≤ 7 by have := hF.g.n8; omega) _) (Nat.le_trans (Nat.pow_le_pow_right (show 0 < 7 by omega) hn) (by decide))
  exact ⟨M, n.toNat, rfl, by omega, hF, by omega, h2, by rw [h2]; exact hle, belowB_inR h3⟩

end Go.Proofs.YtfnjpbjlikajbaaDoor
