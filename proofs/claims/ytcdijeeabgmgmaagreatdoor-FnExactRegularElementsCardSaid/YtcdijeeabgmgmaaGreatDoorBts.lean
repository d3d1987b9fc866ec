/- St Sl Se Cl in one text. -/
import Derived.OwnWalkIn
import Derived.Test.YtcdijeeabgmgmaaGreatDoorBa
/- Sets of elements as digits in base 2. -/
namespace Go.Proofs.YtcdijeeabgmgmaaGreatDoor
open Go.RowKit

/-- The least element of a set, the set without it, all elements. -/
def tzN (s : Nat) : Nat := ((List.range 8).find? fun a => s.testBit a).getD 0
def dropN (s : Nat) : Nat := s &&& (s - 1)
def elN (s : Nat) : List Nat := (List.range 8).filter fun a => s.testBit a
/-- The place of a power of two in the library's table. -/
def placeN (k : Nat) : Nat := [0, 1, 3, 7, 15, 31, 63, 62].getD k 0

theorem elN_zero : elN 0 = [] := by decide +kernel
theorem elN_step : ∀ s : Nat, s < 256 → 0 < s → elN s = tzN s :: elN (dropN s) ∧ dropN s < s ∧ tzN s < 8 := by decide +kernel
theorem elN_len : ∀ s : Nat, s < 256 → (elN s).length ≤ 8 := by decide +kernel
theorem bits_with : ∀ s : Nat, s < 256 → ∀ a : Nat, a < 8 → bits BinOp.or IntKind.u64 (s : Int) (IntKind.u64.wrap (2 ^ a)) = ((s ||| 2 ^ a : Nat) : Int) := by decide +kernel
theorem with_lt : ∀ s : Nat, s < 256 → ∀ a : Nat, a < 8 → s ||| 2 ^ a < 256 := by decide +kernel
theorem bits_drop : ∀ s : Nat, s < 256 → 0 < s → bits BinOp.and IntKind.u64 (s : Int) ((s : Int) - 1) = (dropN s : Int) := by decide +kernel
theorem bits_low : ∀ s : Nat, s < 256 → 0 < s → bits BinOp.and IntKind.u64 (s : Int) (IntKind.u64.wrap (-(s : Int))) = ((2 ^ tzN s : Nat) : Int) := by decide +kernel
theorem place_low : ∀ k : Nat, k < 8 → IntKind.u64.wrap (((2 ^ k : Nat) : Int) * 285870213051353865) / 288230376151711744 = (placeN k : Int) := by decide +kernel
theorem place_lt : ∀ k : Nat, k < 8 → placeN k < 64 := by decide +kernel
theorem with_bit (s a j : Nat) : (s ||| 2 ^ a).testBit j = (s.testBit j || decide (a = j)) := by simp [Nat.testBit_two_pow]

set_option maxHeartbeats 400000 in
theorem with_any (s a : Nat) (w : World) (hs : s < 256) (ha : a < 8) :
    Calls Tryz.prog 75 #[.int .u64 (s : Int), .int .i64 (a : Int)] w fun e w' => e = .returned (.int .u64 ((s ||| 2 ^ a : Nat) : Int)) ∧ w = w' := by
  have HB := Lib.hid (bits_with s hs a ha)
  go_enter Tryz.func75, Tryz.ntmps75
  go_wp2
  go_ret
  refine ⟨?_, rfl⟩
  rw [← HB.out]
  rfl

/-- The library's table lies as its text lays it, as far as it is read. -/
def TabL (w : World) : Prop := ∀ k : Nat, k < 8 → w.cell? ⟨1, placeN k, none⟩ = some (.int .u8 (k : Int))
theorem TabL.below {w w' : World} {B : Nat} (h : TabL w) (hb : Below B w w') (hB : 1 < B) : TabL w' := fun k hk => (hb.cell (p := ⟨1, placeN k, none⟩) hB).trans (h k hk)
theorem TabL.lt {w : World} (h : TabL w) : 1 < w.heap.size := World.block_lt_of_cell? _ _ (h 0 (by decide))

set_option maxRecDepth 100000 in
set_option maxHeartbeats 400000 in
theorem tz_any (s : Nat) (w : World) (hs : s < 256) (hp : 0 < s) (hT : TabL w) :
    Calls Tryz.prog 113 #[.int .u64 (s : Int)] w fun e w' => e = .returned (.int .i64 (tzN s : Int)) ∧ w = w' := by
  have h0 : ((s : Int) == 0) = false := by simp; omega
  obtain ⟨-, -, hk⟩ := elN_step s hs hp
  have hb := bits_low s hs hp
  have hpl := place_low _ hk
  have hlt := place_lt _ hk
  have hc := hT _ hk
  obtain ⟨k, hkk⟩ : ∃ k, tzN s = k := ⟨_, rfl⟩
  rw [hkk] at hk hb hpl hlt hc ⊢
  obtain ⟨z, hz⟩ : ∃ z : Int, ((2 ^ k : Nat) : Int) = z := ⟨_, rfl⟩
  rw [hz] at hb hpl
  obtain ⟨i, hi⟩ : ∃ i, placeN k = i := ⟨_, rfl⟩
  rw [hi] at hpl hlt hc
  clear hkk hz hi hT
  go_enter Tryz.func113, Tryz.ntmps113
  go_wp2
  go_ret
  exact ⟨rfl, rfl⟩

end Go.Proofs.YtcdijeeabgmgmaaGreatDoor

/- Ranges over sets; their lists. -/
namespace Go.Proofs.YtcdijeeabgmgmaaGreatDoor
open Go.RowKit Go.Shelf

attribute [local go_sem] Oper.semAt_some

/-- The elements of a set, as numbers. -/
def elI (s : Nat) : List Int := (elN s).map fun a : Nat => (a : Int)
theorem elI_len (s : Nat) : (elI s).length = (elN s).length := by simp [elI]

set_option maxRecDepth 100000 in
set_option maxHeartbeats 1000000 in
theorem all1_in (n : Nat) (hn : 1 ≤ n) (l Bs n₀ s : Nat) (J Jx : List {a : Nat // a ∈ elN s} → World → Prop) (W : World) (hs : s < 256)
    (hY : ∀ pre x W, J pre W → pre.length < 8 → YieldAt Fence.wide (n - 1) Tryz.prog l #[.int .i64 (x.1 : Int)] W fun e W' =>
      (e = .returned (.bool true) ∧ J (pre ++ [x]) W' ∧ Below n₀ W W') ∨ (e = .returned (.bool false) ∧ Jx (pre ++ [x]) W'))
    (hBs : W.cell? ⟨Bs, 0, none⟩ = some (.int .u64 (s : Int))) (hT : TabL W) (hg : 1 < n₀) (h0 : J [] W) :
    CallsIn Fence.wide n Tryz.prog 112 #[.func (.yield l) #[] #[], .pointer (some ⟨Bs, 0, none⟩)] W fun e W' => (∃ v, e = .returned v) ∧
      ((∃ ys, ys.map (fun x => x.1) = elN s ∧ J ys W') ∨ (∃ pre, pre.map (fun x => x.1) <+: elN s ∧ Jx pre W')) := by
  have hlen := elN_len s hs
  refine callsIn_of_wp Tryz.func112 rfl trivial ?_ rfl
  simp only [Tryz.ntmps112, List.size_toArray, List.length_cons, List.length_nil, Nat.reduceAdd, Nat.reduceSub, Array.replicate_succ, Array.replicate_zero, List.push_toArray, List.append_toArray, List.nil_append, List.cons_append]
  gi_wp2_with fail
  gi_loopw [3] (fun i wr => ∃ (t : Nat) (pre : List {a : Nat // a ∈ elN s}), t < 256 ∧ i = .int .u64 (t : Int) ∧ Hid (elN s = pre.map (fun x => x.1) ++ elN t) ∧ J pre wr ∧ Hid (TabL wr)) (fun i _ => (intOf i).toNat)
  case atStart => exact ⟨s, [], hs, rfl, Lib.hid (by simp), h0, Lib.hid hT⟩
  case round =>
    obtain ⟨t, pre, ht, rfl, HEQ, hJs, HT⟩ := hrel
    by_cases hp : 0 < t
    · obtain ⟨h1, h2, h3⟩ := elN_step t ht hp
      have hmem : tzN t ∈ elN s := by rw [HEQ.out, h1]; simp
      have hpl : pre.length < 8 := by
        have h5 := congrArg List.length HEQ.out
        rw [h1] at h5
        simp at h5
        omega
      have hbd := bits_drop t ht hp
      have HEQ2 : Hid (elN s = (pre ++ [(⟨tzN t, hmem⟩ : {a : Nat // a ∈ elN s})]).map (fun x => x.1) ++ elN (dropN t)) := Lib.hid (HEQ.out.trans (by rw [h1]; simp))
      obtain ⟨fn, tmps, assign, body, hy, hR⟩ := hY pre ⟨tzN t, hmem⟩ wr hJs hpl
      have HTZ := Lib.hid (tz_any t wr ht hp HT.out)
      have hd256 : dropN t < 256 := by omega
      have hne : ((t : Int) != 0) = true := by simp; omega
      have HD2 := Lib.hid h2
      clear h1
      generalize dropN t = d at *
      dsimp only at hy
      gi_wp2_with (refine ⟨trivial, ?_⟩; gi_at_call 113; refine (callsIn_wide.2 HTZ.out).mono ?_; rintro e w' ⟨rfl, rfl⟩)
      refine hR.mono ?_
      rintro e W3 (⟨rfl, hJ3, hk3⟩ | ⟨rfl, hJx3⟩)
      · gi_wp2
        go_roundw
        case rel => exact ⟨d, _, hd256, rfl, HEQ2, hJ3, Lib.hid (HT.out.below hk3 hg)⟩
        case measure => simp [intOf]; have := HD2.out; omega
      · gi_wp2
        refine bodyPost_ret (results_none rfl _ _ _) rfl ?_
        exact ⟨⟨_, rfl⟩, .inr ⟨_, ⟨_, HEQ2.out.symm⟩, hJx3⟩⟩
    · obtain rfl : t = 0 := by omega
      gi_wp2
      go_end0
      refine ⟨⟨_, rfl⟩, .inl ⟨pre, ?_, hJs⟩⟩
      exact (HEQ.out.trans (by rw [elN_zero, List.append_nil])).symm

/-- 'for a := range s.all()': all elements in order, or a part of them. -/
theorem all_stops (n : Nat) (hn : 1 ≤ n) (Bs n₀ s : Nat) (w : World) (hs : s < 256) (hBs : Bs < w.heap.size) (hc : w.cell? ⟨Bs, 0, none⟩ = some (.int .u64 (s : Int))) (hT : TabL w) (hg : 1 < n₀) :
    SeqStopsK Fence.wide n Tryz.prog 112 #[.pointer (some ⟨Bs, 0, none⟩)] (fun x : {a : Nat // a ∈ elN s} => #[.int .i64 (x.1 : Int)]) (Below n₀) (fun ys => ys.map (fun x => x.1) = elN s) (fun pre => pre.map (fun x => x.1) <+: elN s) 8 w :=
  fun l J Jx W hW _ _ hY h0 => all1_in n hn l Bs n₀ s J Jx W hs hY ((hW.cell (p := ⟨Bs, 0, none⟩) hBs).trans hc) (hT.below hW hT.lt) hg h0

end Go.Proofs.YtcdijeeabgmgmaaGreatDoor

/- Elements with a property, as lists and as sets. -/
namespace Go.Proofs.YtcdijeeabgmgmaaGreatDoor
open Go.RowKit

/-- The numbers below k with a property. -/
def selN (p : Nat → Bool) (k : Nat) : List Nat := (List.range k).filter p
def selI (p : Nat → Bool) (k : Nat) : List Int := (selN p k).map fun a : Nat => (a : Int)
section
variable {p : Nat → Bool} {k : Nat}
theorem selI_zero : selI p 0 = [] := rfl
theorem selI_yes (h : p k = true) : selI p (k + 1) = selI p k ++ [(k : Int)] := by simp [selI, selN, List.range_succ, h]
theorem selI_no (h : p k = false) : selI p (k + 1) = selI p k := by simp [selI, selN, List.range_succ, h]
theorem selI_len : (selI p k).length ≤ k := by
  simp only [selI, selN, List.length_map]
  exact Nat.le_trans (List.length_filter_le _ _) (by simp)
end
/-- A set with just these elements has this list. -/
theorem elN_sel {s n : Nat} {p : Nat → Bool} (hn : n ≤ 8) (h : ∀ a, a < 8 → s.testBit a = (decide (a < n) && p a)) : elN s = selN p n := by
  unfold elN selN
  have h8 : List.range 8 = List.range n ++ (List.range (8 - n)).map (n + ·) := by rw [← List.range_add]; congr 1; omega
  have h1 : (List.range n).filter (fun a => s.testBit a) = (List.range n).filter p := List.filter_congr fun a ha => by
    have := List.mem_range.1 ha
    rw [h a (by omega)]
    simp [this]
  have h2 : ((List.range (8 - n)).map (n + ·)).filter (fun a => s.testBit a) = [] := List.filter_eq_nil_iff.2 fun a ha => by
    obtain ⟨b, hb, rfl⟩ := List.mem_map.1 ha
    have := List.mem_range.1 hb
    rw [h _ (by omega), decide_eq_false (by omega)]
    simp
  rw [h8, List.filter_append, h1, h2, List.append_nil]
theorem elI_sel {s n : Nat} {p : Nat → Bool} (hn : n ≤ 8) (h : ∀ a, a < 8 → s.testBit a = (decide (a < n) && p a)) : elI s = selI p n := by
  unfold elI selI
  rw [elN_sel hn h]

/-- The set, as far as it has come. -/
def pset (p : Nat → Bool) {n : Nat} (pre : List (Fin n)) : Nat := pre.foldl (fun s x => if p x.val then s ||| 2 ^ x.val else s) 0
theorem pset_snoc (p : Nat → Bool) {n : Nat} (pre : List (Fin n)) (x : Fin n) : pset p (pre ++ [x]) = if p x.val then pset p pre ||| 2 ^ x.val else pset p pre := by simp [pset, List.foldl_append]
theorem pset_fold (p : Nat → Bool) {n : Nat} (hn : n ≤ 8) (pre : List (Fin n)) : ∀ s, s < 256 → pre.foldl (fun s x => if p x.val then s ||| 2 ^ x.val else s) s < 256 ∧
    ∀ a, (pre.foldl (fun s x => if p x.val then s ||| 2 ^ x.val else s) s).testBit a = (s.testBit a || pre.any fun x => decide (x.val = a) && p a) := by
  induction pre with
  | nil => exact fun s hs => ⟨hs, fun a => by simp⟩
  | cons x pre ih =>
    intro s hs
    have hx : x.val < 8 := by omega
    by_cases hq : p x.val = true
    · obtain ⟨h1, h2⟩ := ih (s ||| 2 ^ x.val) (with_lt s hs x.val hx)
      simp only [List.foldl_cons, hq, if_true]
      refine ⟨h1, fun a => ?_⟩
      rw [h2 a, with_bit]
      by_cases he : x.val = a
      · subst he
        simp [hq]
      · simp [he]
    · obtain ⟨h1, h2⟩ := ih s hs
      simp only [List.foldl_cons, hq]
      refine ⟨h1, fun a => ?_⟩
      rw [if_neg (by simp), h2 a]
      by_cases he : x.val = a
      · subst he
        simp [hq]
      · simp [he]
theorem pset_lt (p : Nat → Bool) {n : Nat} (hn : n ≤ 8) (pre : List (Fin n)) : pset p pre < 256 := (pset_fold p hn pre 0 (by omega)).1
theorem pset_bits (p : Nat → Bool) {n : Nat} (hn : n ≤ 8) (a : Nat) : (pset p (List.finRange n)).testBit a = (decide (a < n) && p a) := by
  rw [pset, (pset_fold p hn (List.finRange n) 0 (by omega)).2 a]
  by_cases hq : p a = true
  · by_cases hl : a < n
    · have : ((List.finRange n).any fun x => decide (x.val = a) && p a) = true := List.any_eq_true.2 ⟨⟨a, hl⟩, List.mem_finRange _, by simp [hq]⟩
      rw [this]
      simp [hl, hq]
    · have : ((List.finRange n).any fun x => decide (x.val = a) && p a) = false := by
        rw [Bool.eq_false_iff]
        intro h
        obtain ⟨x, _, hx⟩ := List.any_eq_true.1 h
        simp at hx
        have := x.isLt
        omega
      rw [this]
      simp [hl]
  · simp [hq]
theorem pset_all (p : Nat → Bool) {n : Nat} (hn : n ≤ 8) : elI (pset p (List.finRange n)) = selI p n := elI_sel hn fun a _ => pset_bits p hn a

end Go.Proofs.YtcdijeeabgmgmaaGreatDoor

/- Sets that are closed under products. No program here. -/
namespace Go.Proofs.YtcdijeeabgmgmaaGreatDoor
open Go.RowKit

theorem el_lt {s N a : Nat} (hs : s < 2 ^ N) (ha : a ∈ elN s) : a < N := by
  have h1 := (List.mem_filter.1 ha).2
  have h2 : 2 ^ a ≤ s := Nat.ge_two_pow_of_testBit h1
  rcases Nat.lt_or_ge a N with h | h
  · exact h
  · have := Nat.pow_le_pow_right (show 0 < 2 by omega) h
    omega
theorem or_lt {s N x : Nat} (hs : s < 2 ^ N) (hx : x < N) : s ||| 2 ^ x < 2 ^ N := Nat.or_lt_two_pow hs (Nat.pow_lt_pow_right (by omega) hx)
theorem or_ge (s x : Nat) : s ≤ s ||| x := Nat.left_le_or
theorem lt256 {s N : Nat} (hN : N ≤ 8) (hs : s < 2 ^ N) : s < 256 := by
  have := Nat.pow_le_pow_right (show 0 < 2 by omega) hN
  omega

/-- The products of a with some elements, and of some elements with some, put to a set. -/
def rowS (t : List (List Int)) (a m : Nat) (bs : List Nat) : Nat := bs.foldl (fun m b => m ||| 2 ^ mul t a b) m
def tabS (t : List (List Int)) (l : List Nat) (m : Nat) (ys : List Nat) : Nat := ys.foldl (fun m a => rowS t a m l) m
/-- A set with all products of its elements added. -/
def stp (t : List (List Int)) (s : Nat) : Nat := tabS t (elN s) s (elN s)
section
variable {t : List (List Int)}
theorem rowS_nil (a m : Nat) : rowS t a m [] = m := rfl
theorem rowS_snoc (a m : Nat) (bs : List Nat) (b : Nat) : rowS t a m (bs ++ [b]) = rowS t a m bs ||| 2 ^ mul t a b := by simp [rowS, List.foldl_append]
theorem tabS_nil (l : List Nat) (m : Nat) : tabS t l m [] = m := rfl
theorem tabS_snoc (l : List Nat) (m : Nat) (ys : List Nat) (a : Nat) : tabS t l m (ys ++ [a]) = rowS t a (tabS t l m ys) l := by simp [tabS, List.foldl_append]
theorem rowS_lt (h : IsGrp t) {a : Nat} (ha : a < t.length) {bs : List Nat} (hb : ∀ b ∈ bs, b < t.length) : ∀ {m : Nat}, m < 2 ^ t.length → rowS t a m bs < 2 ^ t.length := by
  induction bs with
  | nil => exact fun hm => hm
  | cons b bs ih => exact fun hm => ih (fun x hx => hb x (List.mem_cons_of_mem _ hx)) (or_lt hm (h.mul_lt ha (hb b (List.mem_cons_self ..))))
theorem rowS_ge (a : Nat) (bs : List Nat) : ∀ m : Nat, m ≤ rowS t a m bs := by
  induction bs with
  | nil => exact fun m => Nat.le_refl _
  | cons b bs ih => exact fun m => Nat.le_trans (or_ge m (2 ^ mul t a b)) (ih _)
theorem tabS_lt (h : IsGrp t) {l : List Nat} (hl : ∀ b ∈ l, b < t.length) {ys : List Nat} (ha : ∀ b ∈ ys, b < t.length) : ∀ {m : Nat}, m < 2 ^ t.length → tabS t l m ys < 2 ^ t.length := by
  induction ys with
  | nil => exact fun hm => hm
  | cons a ys ih => exact fun hm => ih (fun x hx => ha x (List.mem_cons_of_mem _ hx)) (rowS_lt h (ha a (List.mem_cons_self ..)) hl hm)
theorem tabS_ge (l : List Nat) (ys : List Nat) : ∀ m : Nat, m ≤ tabS t l m ys := by
  induction ys with
  | nil => exact fun m => Nat.le_refl _
  | cons a ys ih => exact fun m => Nat.le_trans (rowS_ge a l m) (ih _)
theorem stp_lt (h : IsGrp t) {s : Nat} (hs : s < 2 ^ t.length) : stp t s < 2 ^ t.length := tabS_lt h (fun _ hb => el_lt hs hb) (fun _ hb => el_lt hs hb) hs
theorem stp_ge (s : Nat) : s ≤ stp t s := tabS_ge _ _ _
end

/-- The set after k steps. -/
def itS (t : List (List Int)) (s : Nat) : Nat → Nat
  | 0 => s
  | k + 1 => stp t (itS t s k)
/-- R is what the steps from s end at. -/
def IsClo (t : List (List Int)) (s R : Nat) : Prop := ∃ k, itS t s k = R ∧ stp t R = R
section
variable {t : List (List Int)} {s R R' : Nat}
theorem itS_lt (h : IsGrp t) (hs : s < 2 ^ t.length) : ∀ k, itS t s k < 2 ^ t.length
  | 0 => hs
  | k + 1 => stp_lt h (itS_lt h hs k)
theorem itS_stay {k : Nat} (h : stp t (itS t s k) = itS t s k) : ∀ j, itS t s (k + j) = itS t s k
  | 0 => rfl
  | j + 1 => by
    show stp t (itS t s (k + j)) = _
    rw [itS_stay h j, h]
theorem IsClo.only (h : IsClo t s R) (h' : IsClo t s R') : R = R' := by
  obtain ⟨k, rfl, h1⟩ := h
  obtain ⟨k', rfl, h2⟩ := h'
  rcases Nat.le_total k k' with h | h
  · obtain ⟨j, rfl⟩ : ∃ j, k' = k + j := ⟨k' - k, by omega⟩
    exact (itS_stay h1 j).symm
  · obtain ⟨j, rfl⟩ : ∃ j, k = k' + j := ⟨k - k', by omega⟩
    exact itS_stay h2 j
end
open Classical in
/-- What the steps from s end at. -/
noncomputable def clo (t : List (List Int)) (s : Nat) : Nat := if h : ∃ R, IsClo t s R then Classical.choose h else 0
theorem clo_eq {t : List (List Int)} {s R : Nat} (h : IsClo t s R) : clo t s = R := by
  have hex : ∃ R, IsClo t s R := ⟨R, h⟩
  unfold clo
  rw [dif_pos hex]
  exact (Classical.choose_spec hex).only h
theorem clo_at {t : List (List Int)} {s k : Nat} (h : stp t (itS t s k) = itS t s k) : clo t s = itS t s k := clo_eq ⟨k, rfl, h⟩
theorem clo_ex {t : List (List Int)} (h : IsGrp t) {s : Nat} (hs : s < 2 ^ t.length) : ∃ k, stp t (itS t s k) = itS t s k := by
  have key : ∀ n k, 2 ^ t.length - itS t s k ≤ n → ∃ k, stp t (itS t s k) = itS t s k := by
    intro n
    induction n with
    | zero => exact fun k hk => by have := itS_lt h hs k; omega
    | succ n ih =>
      intro k hk
      by_cases he : stp t (itS t s k) = itS t s k
      · exact ⟨k, he⟩
      · have h1 := stp_ge (t := t) (itS t s k)
        exact ih (k + 1) (by show 2 ^ t.length - stp t (itS t s k) ≤ n; omega)
  exact key _ 0 (Nat.le_refl _)
theorem clo_lt {t : List (List Int)} (h : IsGrp t) {s : Nat} (hs : s < 2 ^ t.length) : clo t s < 2 ^ t.length := by
  obtain ⟨k, hk⟩ := clo_ex h hs
  rw [clo_at hk]
  exact itS_lt h hs k

/-- The set of the first k numbers of a list. -/
def bitsK (xs : List Int) : Nat → Nat
  | 0 => 0
  | k + 1 => bitsK xs k ||| 2 ^ (nth xs k).toNat
theorem bitsK_lt {xs : List Int} {N : Nat} (h : ∀ i, i < xs.length → 0 ≤ nth xs i ∧ nth xs i < N) : ∀ k, k ≤ xs.length → bitsK xs k < 2 ^ N
  | 0, _ => Nat.two_pow_pos N
  | k + 1, hk => or_lt (bitsK_lt h k (by omega)) (by have := h k (by omega); omega)

/-- Is a list one of elements, ascending? -/
def ascP (xs : List Int) (k : Nat) : Prop := ∀ i, 0 < i → i < k → nth xs (i - 1) < nth xs i
open Classical in
noncomputable def setB (N : Nat) (xs : List Int) : Bool := decide ((∀ i, i < xs.length → 0 ≤ nth xs i ∧ nth xs i < N) ∧ ascP xs xs.length)
theorem setB_true {N : Nat} {xs : List Int} : setB N xs = true ↔ (∀ i, i < xs.length → 0 ≤ nth xs i ∧ nth xs i < N) ∧ ascP xs xs.length := by simp [setB]
theorem setB_rng {N i : Nat} {xs : List Int} (hi : i < xs.length) (h : ¬ (0 ≤ nth xs i ∧ nth xs i < N)) : setB N xs = false := by
  rw [Bool.eq_false_iff]
  exact fun e => h ((setB_true.1 e).1 i hi)
theorem setB_asc {N i : Nat} {xs : List Int} (h0 : 0 < i) (hi : i < xs.length) (h : ¬ nth xs (i - 1) < nth xs i) : setB N xs = false := by
  rw [Bool.eq_false_iff]
  exact fun e => h ((setB_true.1 e).2 i h0 hi)

end Go.Proofs.YtcdijeeabgmgmaaGreatDoor
