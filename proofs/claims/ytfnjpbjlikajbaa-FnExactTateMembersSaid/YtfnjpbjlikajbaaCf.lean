/- Sets of what a function of two elements gives. No program here. -/
import Derived.Test.YtfnjpbjlikajbaaCl
import Derived.Test.YtfnjpbjlikajbaaCel
namespace Go.Proofs.Ytfnjpbjlikajbaa

def rowF (f : Nat → Nat → Nat) (a m : Nat) (bs : List Nat) : Nat := bs.foldl (fun m b => m ||| 2 ^ f a b) m
def tabF (f : Nat → Nat → Nat) (l : List Nat) (m : Nat) (ys : List Nat) : Nat := ys.foldl (fun m a => rowF f a m l) m
section
variable {f : Nat → Nat → Nat}
theorem rowF_snoc (a m : Nat) (bs : List Nat) (b : Nat) : rowF f a m (bs ++ [b]) = rowF f a m bs ||| 2 ^ f a b := by simp [rowF, List.foldl_append]
theorem tabF_snoc (l : List Nat) (m : Nat) (ys : List Nat) (a : Nat) : tabF f l m (ys ++ [a]) = rowF f a (tabF f l m ys) l := by simp [tabF, List.foldl_append]
theorem rowF_lt {N a : Nat} {bs : List Nat} (h : ∀ b ∈ bs, f a b < N) : ∀ {m : Nat}, m < 2 ^ N → rowF f a m bs < 2 ^ N := by
  induction bs with
  | nil => exact fun hm => hm
  | cons b bs ih => exact fun hm => ih (fun x hx => h x (List.mem_cons_of_mem _ hx)) (or_lt hm (h b (List.mem_cons_self ..)))
theorem tabF_lt {N : Nat} {l ys : List Nat} (h : ∀ a ∈ ys, ∀ b ∈ l, f a b < N) : ∀ {m : Nat}, m < 2 ^ N → tabF f l m ys < 2 ^ N := by
  induction ys with
  | nil => exact fun hm => hm
  | cons a ys ih => exact fun hm => ih (fun x hx => h x (List.mem_cons_of_mem _ hx)) (rowF_lt (h a (List.mem_cons_self ..)) hm)
theorem rowF_or (a k : Nat) (bs : List Nat) : ∀ m : Nat, rowF f a (m ||| k) bs = rowF f a m bs ||| k := by
  induction bs with
  | nil => exact fun m => rfl
  | cons b bs ih =>
    intro m
    show rowF f a (m ||| k ||| 2 ^ f a b) bs = rowF f a (m ||| 2 ^ f a b) bs ||| k
    rw [Nat.or_assoc, Nat.or_comm k, ← Nat.or_assoc, ih]
theorem tabF_or (l : List Nat) (k : Nat) (ys : List Nat) : ∀ m : Nat, tabF f l (m ||| k) ys = tabF f l m ys ||| k := by
  induction ys with
  | nil => exact fun m => rfl
  | cons a ys ih =>
    intro m
    show tabF f l (rowF f a (m ||| k) l) ys = tabF f l (rowF f a m l) ys ||| k
    rw [rowF_or, ih]
end

/-- (a b a') b' -/
noncomputable def com (t : List (List Int)) (a b : Nat) : Nat := mul t (con t b a) (iv t b)
theorem com_lt {t : List (List Int)} (h : IsGrp t) {a b : Nat} (ha : a < t.length) (hb : b < t.length) : com t a b < t.length := h.mul_lt (con_lt h hb ha) (iv_spec h hb).1
/-- The set of all of them. -/
noncomputable def derS (t : List (List Int)) : Nat := tabF (com t) (List.range t.length) 0 (List.range t.length)
theorem derS_lt {t : List (List Int)} (h : IsGrp t) : derS t < 2 ^ t.length := tabF_lt (fun _ ha _ hb => com_lt h (List.mem_range.1 ha) (List.mem_range.1 hb)) (Nat.two_pow_pos _)
theorem derS_one (t : List (List Int)) : tabF (com t) (List.range t.length) 1 (List.range t.length) = derS t ||| 1 := tabF_or (List.range t.length) 1 (List.range t.length) 0
theorem or_one_one (s : Nat) : s ||| 1 ||| 1 = s ||| 1 := by rw [Nat.or_assoc, Nat.or_self]

end Go.Proofs.Ytfnjpbjlikajbaa
