/- NormOf. -/
import Derived.Test.YtdehalkebneaoaaDoorMc
import Derived.Test.YtdehalkebneaoaaDoorMn
namespace Go.Proofs.YtdehalkebneaoaaDoor
open Go.RowKit

/-- The sum of the first k units. -/
def usum (us : List Int) : Nat → Nat
  | 0 => 0
  | k + 1 => usum us k + im us k
theorem usum_le {us : List Int} {n : Nat} (h : InR n us) : ∀ k, k ≤ us.length → usum us k ≤ n * k
  | 0, _ => Nat.zero_le _
  | k + 1, hk => by
    have h1 := usum_le h k (by omega)
    have h2 := (im_eq h (show k < us.length by omega)).2
    rw [Nat.mul_succ]
    show usum us k + im us k ≤ _
    omega

/-- The norm, and the code. -/
noncomputable def normR (t : List (List Int)) (m : Int) (us : List Int) : Int × Int := if gmB t m us = true then (((usum us us.length % m.toNat : Nat) : Int), 0) else (0, 1)

theorem gmB_true {t : List (List Int)} {m : Int} {us : List Int} (h : gmB t m us = true) : IsGrp t ∧ 2 ≤ m ∧ m ≤ 12 ∧ us.length = t.length ∧ unitsB m us = true ∧ keepPB t (umul m.toNat) us = true := by
  simp only [gmB, Bool.and_eq_true] at h
  exact ⟨grpB_iff.1 h.1, modB_true h.2⟩

theorem usum_step (us : List Int) (k M : Nat) : (usum us k % M + im us k) % M = usum us (k + 1) % M := by
  show _ = (usum us k + im us k) % M
  rw [Nat.mod_add_mod]

/-- A group, a module and a list of it have been laid. -/
structure Laid3 (w W : World) (A L : Option Addr) (n c l c' : Nat) (m : Int) : Prop where
  below : Below w.heap.size w W
  g : Has W w.heap.size 29 #[.slice A n c]
  a : Has W (w.heap.size + 1) 44 #[.int .i64 m, .slice L l c']
  k : Has W (w.heap.size + 1 + 1) 44 #[.int .i64 m, .slice L l c']
theorem Laid3.mk_ (w : World) (A L : Option Addr) (n c l c' : Nat) (m : Int) :
    Laid3 w (((w.alloc (.cells #[.slice A n c] 29)).alloc (.cells #[.int .i64 m, .slice L l c'] 44)).alloc (.cells #[.int .i64 m, .slice L l c'] 44)) A L n c l c' m :=
  ⟨(((Below.refl _ _).alloc (Nat.le_refl _) _).alloc (by simp) _).alloc (by simp; omega) _,
    ((Has.new w 29 #[.slice A n c]).alloc _).alloc _,
    (Has.newAt (w := w.alloc (.cells #[.slice A n c] 29)) (e := 44) (cs := #[.int .i64 m, .slice L l c']) (k := w.heap.size + 1) (by simp)).alloc _,
    Has.newAt (w := (w.alloc (.cells #[.slice A n c] 29)).alloc (.cells #[.int .i64 m, .slice L l c'] 44)) (e := 44) (cs := #[.int .i64 m, .slice L l c']) (k := w.heap.size + 1 + 1) (by simp)⟩

/-- A group and a module have been laid. -/
structure Laid2 (w W : World) (A L : Option Addr) (n c l c' : Nat) (m : Int) : Prop where
  below : Below w.heap.size w W
  g : Has W w.heap.size 29 #[.slice A n c]
  a : Has W (w.heap.size + 1) 44 #[.int .i64 m, .slice L l c']
theorem Laid2.mk_ (w : World) (A L : Option Addr) (n c l c' : Nat) (m : Int) :
    Laid2 w ((w.alloc (.cells #[.slice A n c] 29)).alloc (.cells #[.int .i64 m, .slice L l c'] 44)) A L n c l c' m :=
  ⟨((Below.refl _ _).alloc (Nat.le_refl _) _).alloc (by simp) _, (Has.new w 29 #[.slice A n c]).alloc _,
    Has.newAt (w := w.alloc (.cells #[.slice A n c] 29)) (e := 44) (cs := #[.int .i64 m, .slice L l c']) (k := w.heap.size + 1) (by simp)⟩

end Go.Proofs.YtdehalkebneaoaaDoor
