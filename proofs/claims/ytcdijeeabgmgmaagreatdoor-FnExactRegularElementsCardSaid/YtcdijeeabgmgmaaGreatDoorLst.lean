/- La Bk Lj Lf Cw in one text. -/
import Derived.IntWalk
import Derived.Deep.RegionHeld3
import Derived.Deep.DeepCutAuto
import Derived.Deep.DeepAppendRoom
import Derived.Test.YtcdijeeabgmgmaaGreatDoorCel
import Derived.Test.YtcdijeeabgmgmaaGreatDoorBa
/- Lists of numbers of values: the specification's side. -/
namespace Go.Proofs.YtcdijeeabgmgmaaGreatDoor
open Go.RowKit

/-- The element at the place p of the list of n elements with the number i. -/
def dN (N n i p : Nat) : Nat := i / (N - 1) ^ (n - 1 - p) % (N - 1) + 1
def lsL (N n i : Nat) : List Int := (List.range n).map fun p => (dN N n i p : Int)
theorem lsL_len (N n i : Nat) : (lsL N n i).length = n := by simp [lsL]
theorem nth_lsL {N n i p : Nat} (h : p < n) : nth (lsL N n i) p = (dN N n i p : Int) := by simp [nth, lsL, h]
/-- The list, the last j places being laid. -/
def stF (N n i j p : Nat) : Int := if n - j ≤ p then (dN N n i p : Int) else 0
theorem stF_zero {N n i p : Nat} (h : p < n) : stF N n i 0 p = 0 := by
  unfold stF
  rw [if_neg (by omega)]
theorem stF_all {N n i p : Nat} : stF N n i n p = (dN N n i p : Int) := by
  unfold stF
  rw [if_pos (by omega)]
theorem stF_step {N n i j p : Nat} (hj : j < n) : (if p = n - 1 - j then (dN N n i (n - 1 - j) : Int) else stF N n i j p) = stF N n i (j + 1) p := by
  unfold stF
  by_cases h : p = n - 1 - j
  · subst h
    rw [if_pos rfl, if_pos (by omega)]
  · rw [if_neg h]
    by_cases h2 : n - j ≤ p
    · rw [if_pos h2, if_pos (by omega)]
    · rw [if_neg h2, if_neg (by omega)]

set_option maxRecDepth 100000 in
set_option maxHeartbeats 4000000 in
theorem l03List_c (A : Option Addr) (N c n i : Nat) (w : World) (hN : N ≤ 8) (hN2 : n = 0 ∨ 2 ≤ N) (hN1 : 1 ≤ N) (hn : n ≤ 4) (hi : i ≤ 2401) :
    Calls Tryz.prog 100 #[.agg #[.slice A N c], .int .i64 (n : Int), .int .i64 (i : Int)] w fun e w' => ∃ (C0 : Option Addr) (e0 : Nat), e = .returned (.slice C0 (lsL N n i).length e0) ∧ Ex w w' ∧ OwnL w' w.heap.size w'.heap.size C0 (lsL N n i) ∧ n ≤ e0 ∧ ∃ g, C0 = some ⟨g, 0, none⟩ := by
  have e0 : Ex w (w.alloc (.cells #[.slice A N c] 32)) := (Ex.refl w).alloc _
  have b0 : Has (w.alloc (.cells #[.slice A N c] 32)) (w.heap.size) 32 #[.slice A N c] := (Has.newAt (w := w) (e := 32) (cs := #[.slice A N c]) (k := w.heap.size) (by simp))
  have HE0 := Lib.hid e0
  have HB0 := Lib.hid b0
  have hmk := makeI n (by omega)
  have hN6 : N ≤ 1048576 := by omega
  obtain ⟨B, hB⟩ : ∃ B, N - 1 = B := ⟨_, rfl⟩
  have hB' : (N : Int) - 1 = (B : Int) := by omega
  have HBN := Lib.hid hB
  have hBp : n = 0 ∨ 0 < B := by omega
  have HBP := Lib.hid hBp
  have hwB : IntKind.i64.wrap (B : Int) = (B : Int) := IntWalk.i64_in _ (by omega)
  clear hB hBp hN2 e0 b0
  go_enter Tryz.func100, Tryz.ntmps100
  go_upto_region 1 with (fail)
  generalize (w.alloc (.cells #[.slice A N c] 32)) = W0 at *
  have HK := Lib.hid (fun (W' : World) (hb : Ex W0.drew W') => (Has.ex (w := W0.drew) HB0.out hb).cell 0)
  go_cut [7, 8] (fun s7 s8 wx => ∃ g : Nat, s7 = .slice (some ⟨g, 0, none⟩) n n ∧ s8 = .int .i64 (B : Int) ∧ Ex W0 wx ∧ W0.heap.size ≤ g ∧ Has wx g 2 (tab n fun _ => .int .i64 0))
  case first =>
    go_region_held3 (fun w' : World => w'.cell? ⟨w.heap.size, 0, none⟩ = some (.slice A N c))
      (first
        | exact HK.out _ (Ex.refl _)
        | exact HK.out _ (by assumption)
        | exact HK.out _ (Ex.alloc (Ex.refl _) _)
        | exact HK.out _ (Ex.alloc (by assumption) _)
        | exact HK.out _ (Ex.trans (Ex.alloc (Ex.refl _) _) (by assumption)))
      ((go_at_call 40; refine (l01N_ex A N c _ hN6).mono ?_; rintro e w6 ⟨rfl, he6⟩))
    · go_wp2_with fail
      go_meet
      exact ⟨W0.heap.size, rfl, rfl, ((Ex.new W0 _).drew).trans he6, Nat.le_refl _, (Has.new W0 _ _).ex ((Ex.refl _).drew.trans he6)⟩
    · go_wp2_with fail
      go_meet
      exact ⟨w6.heap.size, rfl, rfl, ((Ex.refl W0).drew.trans he6).alloc _, ((Ex.refl W0).drew.trans he6).size, Has.new w6 _ _⟩
  case rest =>
    obtain ⟨g, rfl, rfl, hx0, hxg, hxh⟩ := hcut
    have HX0 := Lib.hid (HE0.out.trans hx0)
    have HXH := Lib.hid hxh
    have hg0 : w.heap.size ≤ g := Nat.le_trans HE0.out.size hxg
    clear hx0 hxh hxg HK HB0 HE0
    go_wp2_with fail
    go_loopw [2, 9] (fun s2 s9 wr => ∃ j : Nat, j ≤ n ∧ s2 = .int .i64 ((i / B ^ j : Nat) : Int) ∧ s9 = .int .i64 ((n : Int) - 1 - (j : Int)) ∧ Hid (Ex w wr) ∧ Hid (Has wr g 2 (tab n fun p => .int .i64 (stF N n i j p)))) (fun _ s9 _ => (intOf s9 + 1).toNat)
    case atStart => exact ⟨0, Nat.zero_le _, by simp, by go_num, HX0, Lib.hid (by rw [tab_congr (fun p hp => by rw [stF_zero hp])]; exact HXH.out)⟩
    case round =>
      obtain ⟨j, hj, rfl, rfl, HE, HH⟩ := hrel
      by_cases hlt : j < n
      · obtain ⟨p, hp⟩ : ∃ p, n - 1 - j = p := ⟨_, rfl⟩
        have hpi : (n : Int) - 1 - (j : Int) = (p : Int) := by omega
        have hpn : p < n := by omega
        have HP := Lib.hid hp
        have hB0 : ¬ B = 0 := by have := HBP.out; omega
        have hq24 : i / B ^ j ≤ 2401 := Nat.le_trans (Nat.div_le_self _ _) hi
        have HQ1 : Hid (i / B ^ (j + 1) = i / B ^ j / B) := Lib.hid (by rw [Nat.pow_succ, Nat.div_div_eq_div_mul])
        have HD : Hid ((dN N n i p : Int) = ((i / B ^ j % B + 1 : Nat) : Int)) := Lib.hid (by
          rw [dN, HBN.out, show n - 1 - p = j by omega])
        have c1 : wr.cell? ⟨g, p, none⟩ = some (.int .i64 (stF N n i j p)) := by rw [HH.out.cell, tab_get hpn]
        have f1 := HH.out.free p
        obtain ⟨q, hq⟩ : ∃ q, i / B ^ j = q := ⟨_, rfl⟩
        rw [hq] at HQ1 HD hq24 ⊢
        obtain ⟨r, hr⟩ : ∃ r, q % B = r := ⟨_, rfl⟩
        obtain ⟨d, hd⟩ : ∃ d, q / B = d := ⟨_, rfl⟩
        have hrB : r < B := by rw [← hr]; exact Nat.mod_lt _ (by omega)
        have hdq : d ≤ q := by rw [← hd]; exact Nat.div_le_self _ _
        have hwr : IntKind.i64.wrap ((q : Int) % (B : Int)) = (r : Int) := by rw [← hr, ← Int.natCast_emod, IntWalk.i64_in _ (by rw [hr]; omega)]
        have hwd : IntKind.i64.wrap ((q : Int) / (B : Int)) = (d : Int) := by rw [← hd, ← Int.natCast_ediv, IntWalk.i64_in _ (by rw [hd]; omega)]
        have hwr1 : IntKind.i64.wrap ((r : Int) + 1) = ((r + 1 : Nat) : Int) := by rw [IntWalk.i64_in _ (by omega)]; rfl
        rw [hr] at HD
        rw [hd] at HQ1
        rw [hpi]
        have hl2 : j < n := hlt
        have hww : wrap64 ((q : Int) % (B : Int) + 1) = ((r + 1 : Nat) : Int) := by
          rw [show (q : Int) % (B : Int) = (r : Int) by rw [← hr]; exact (Int.natCast_emod q B).symm]
          show wrap64 ((r + 1 : Nat) : Int) = _
          unfold wrap64
          omega
        clear hq hr hd hp hpi
        go_wp2_with fail
        rw [show (r : Int) + 1 = ((r + 1 : Nat) : Int) from rfl]
        go_roundw
        case rel =>
          refine ⟨j + 1, by omega, by rw [HQ1.out], ?_, Lib.hid (HE.out.setCell (p := ⟨g, p, none⟩) hg0 _), Lib.hid ?_⟩
          · have := HP.out
            congr 1
            omega
          · have h1 := HH.out.put p (.int .i64 ((r + 1 : Nat) : Int))
            rw [tab_set hpn] at h1
            rw [tab_congr (fun p' hp' => by rw [← stF_step hl2, HP.out])]
            refine Eq.mp (congrArg (fun f => Has _ g 2 (tab n f)) (funext fun p' => ?_)) h1
            by_cases h : p' = p
            · rw [if_pos h, if_pos h, HD.out]
            · rw [if_neg h, if_neg h]
        case measure => simp [intOf]
      · obtain rfl : j = n := by omega
        go_wp2_with fail
        go_ret
        refine ⟨some ⟨g, 0, none⟩, j, by rw [lsL_len]; rfl, HE.out, OwnL.of_has (n := j) (e := 2) ?_ (by rw [lsL_len]) hg0, Nat.le_refl _, ⟨g, rfl⟩⟩
        rw [tab_congr (fun p hp => by rw [nth_lsL hp, ← stF_all])]
        exact HH.out

theorem l03List_any (A : Option Addr) (N c n i : Nat) (w : World) (hN : N ≤ 8) (hN2 : n = 0 ∨ 2 ≤ N) (hN1 : 1 ≤ N) (hn : n ≤ 4) (hi : i ≤ 2401) :
    Calls Tryz.prog 100 #[.agg #[.slice A N c], .int .i64 (n : Int), .int .i64 (i : Int)] w fun e w' => ∃ (C0 : Option Addr) (e0 : Nat), e = .returned (.slice C0 (lsL N n i).length e0) ∧ Ex w w' ∧ OwnL w' w.heap.size w'.heap.size C0 (lsL N n i) :=
  (l03List_c A N c n i w hN hN2 hN1 hn hi).mono fun _ _ ⟨C0, e0, h1, h2, h3, _⟩ => ⟨C0, e0, h1, h2, h3⟩

end Go.Proofs.YtcdijeeabgmgmaaGreatDoor

/- Ranges over a list backwards: the iterator's contract. -/
namespace Go.Proofs.YtcdijeeabgmgmaaGreatDoor
open Go.RowKit Go.Shelf

/-- How a round may be left. -/
def RPostR {α : Type} (R : World → World → Prop) (n₀ : Nat) (I : List α → World → Prop) (xs : List α) (W : World) : Exit → Act → World → Prop
  | .normal, _, W' => Keeps n₀ W W' ∧ R W W' ∧ I xs W'
  | .ret, _, _ => False
  | .exit _, _, _ => False
  | .goto _, _, _ => False
  | .panic _, _, _ => False
  | .outgrown, _, _ => False

theorem ownPostG_of_RPostR {α : Type} {R : World → World → Prop} {n₀ : Nat} {I : List α → World → Prop} {xs : List α} {w W : World} (hw : Keeps n₀ w W) :
    ∀ (e : Exit) (a : Act) (W' : World), RPostR R n₀ I xs W e a W' → ownPostG w.heap.size (fun A B => Below n₀ A B ∧ R A B) (fun pre W => I pre W ∧ Keeps n₀ w W) (fun _ _ _ => False) xs W e a W'
  | .normal, _, _, h => ⟨KeepsFrom.mono h.1.2 (Nat.zero_le _), ⟨h.1.1, h.2.1⟩, h.2.2, hw.trans h.1⟩
  | .ret, _, _, h => h.elim
  | .exit _, _, _, h => h.elim
  | .goto _, _, _, h => h.elim
  | .panic _, _, _, h => h
  | .outgrown, _, _, h => h

section
variable {P : Program} {α : Type} {g : Operand} {ps : Array Tmp} {assign body : Code} {Q : Exit → Act → World → Prop} {a : Act} {w : World} {n n₀ gf N : Nat} {lb : Array Value} {encs : α → Array Value} {S Sp : List α → Prop} {R : World → World → Prop}

/-- A loop of the function's own that runs to its end; the loop's variable lies in a temporary. -/
theorem range_topR (hRt : ∀ {A B C : World}, R A B → R B C → R A C) (hRr : ∀ W : World, R W W) (hRb : ∀ (W : World) (l : Nat) (o o' : Obj), W.heap[l]? = some o → o.isCells = false → R W (W.putObj l o'))
    (h1 : 1 ≤ n) (hg : a.eval g = .func (.func gf) #[] lb) (eg : ∀ args w, (callFunc gf args).run P w = .ok (.enter gf args) w)
    (hseq : SeqStopsK Fence.wide (n - 1) P gf lb encs (fun A B => Below n₀ A B ∧ R A B) S Sp N w) (hn : n₀ ≤ w.heap.size) (hps : ∀ x, (encs x).size = ps.size)
    (I : List α → World → Prop) (hI : OwnFrom w.heap.size I) (h0 : I [] w)
    (hround : ∀ (l : Nat) (x : α) (W : World) (K : Act → World → Prop), (∀ a', (∀ (l : Nat) (pre : List α) (W : World), (∃ r, W.heap[l]? = some (.loop r)) → I pre W → Keeps n₀ w W → pre.length < N → body.wpIn (Fence.wide.inRound l) (n - 1 - 1) P (RPostR R n₀ I (pre ++ [x]) W) a' W) → K a' W) →
      assign.wpIn (Fence.wide.inRound l) (n - 1 - 1) P (Exit.then K (fun _ _ _ => False)) { tmps := (ps.zip (encs x)).foldl (fun t (p, v) => t.setIfInBounds p v) a.tmps, defers := [] } W)
    (hdone : ∀ (D : Nat) (xs : List α) (W : World), w.heap.size ≤ D → S xs → I xs W → Keeps n₀ w W → W.heap[D]? = some (.deferred (some [])) → Q .normal { a with defers := { target := .collected D, args := #[] } :: a.defers } W) :
    (Code.rangeFunc g ps assign body).wpIn Fence.wide n P Q a w :=
  wpIn_rangeFunc_ownH rfl h1 hg trivial eg hseq (fun h k => ⟨belowK_t h.1 k.1, hRt h.2 k.2⟩) (fun W l o o' hl h1 h2 h3 => ⟨belowK_b hn W l o o' hl h1 h2 h3, hRb W l o o' h1 h2⟩) (Below.refl _ _) hps (fun pre W => I pre W ∧ Keeps n₀ w W) (fun _ _ _ => False)
    (OwnFrom.and hI (ownFrom_keeps hn (Nat.le_refl _))) (fun _ => ownFrom_pure _ _) ⟨h0, Keeps.refl _ _⟩
    (fun x a' _ => ∀ (l : Nat) (pre : List α) (W : World), (∃ r, W.heap[l]? = some (.loop r)) → I pre W → Keeps n₀ w W → pre.length < N → body.wpIn (Fence.wide.inRound l) (n - 1 - 1) P (RPostR R n₀ I (pre ++ [x]) W) a' W)
    (fun _ _ _ _ _ _ hs _ _ => hs)
    (fun l _ x W K hi hK => hround l x W K fun a' ha => hK a' W (KeepsFrom.refl _ _) ⟨Below.refl _ _, hRr W⟩ hi ha)
    (fun l pre _ _ W _ hr hi hax hlt => wpIn_mono (hax l pre W hr hi.1 hi.2 hlt) (ownPostG_of_RPostR hi.2))
    (fun D xs W hD hS hi hK => hdone D xs W hD hS hi.1 hi.2 hK)
    (fun _ _ _ _ _ _ hi _ => hi.elim)
end

/-- The box stays, and the cells of the list stay cells. -/
def BackR (Bg g : Nat) (W W' : World) : Prop := (∀ v, W.cell? ⟨Bg, 0, none⟩ = some v → W'.cell? ⟨Bg, 0, none⟩ = some v) ∧ ∀ p v, W.cell? ⟨g, p, none⟩ = some v → ∃ v', W'.cell? ⟨g, p, none⟩ = some v'
theorem BackR.refl (Bg g : Nat) (W : World) : BackR Bg g W W := ⟨fun _ h => h, fun _ v h => ⟨v, h⟩⟩
theorem BackR.trans {Bg g : Nat} {A B C : World} (h : BackR Bg g A B) (k : BackR Bg g B C) : BackR Bg g A C :=
  ⟨fun v hv => k.1 v (h.1 v hv), fun p v hv => let ⟨v', h'⟩ := h.2 p v hv; k.2 p v' h'⟩
theorem BackR.put {Bg g : Nat} (W : World) (l : Nat) (o o' : Obj) (h : W.heap[l]? = some o) (ho : o.isCells = false) : BackR Bg g W (W.putObj l o') := by
  have hk : ∀ {b p : Nat} {v : Value}, W.cell? ⟨b, p, none⟩ = some v → (W.putObj l o').cell? ⟨b, p, none⟩ = some v := fun hv => cell_kept hv (grownBy_putObj' W l o') (fun r e => by cases e; exact ⟨o, h, ho⟩)
  exact ⟨fun v hv => hk hv, fun p v hv => ⟨v, hk hv⟩⟩
theorem BackR.of {Bg g n : Nat} {e e' t t' : TypeId} {v : Value} {f f' : Nat → Value} {W W' : World} (h1 : Has W Bg e #[v]) (h2 : Has W' Bg e' #[v]) (h3 : Has W g t (tab n f)) (h4 : Has W' g t' (tab n f')) : BackR Bg g W W' :=
  ⟨fun u hu => by rw [h2.cell 0, ← hu, h1.cell 0], fun p u hu => by
    rw [h3.cell] at hu
    rcases Nat.lt_or_ge p n with hp | hp
    · exact ⟨_, by rw [h4.cell, tab_get hp]⟩
    · rw [tab_get_out hp] at hu
      cases hu⟩

attribute [local go_sem] Oper.semAt_some

/-- The places of a list of N elements, from the last on. -/
def bkL (N k : Nat) : List Nat := (List.range k).map fun j => N - 1 - j
theorem bkL_succ (N k : Nat) : bkL N (k + 1) = bkL N k ++ [N - 1 - k] := by simp [bkL, List.range_succ]
abbrev BkE (N : Nat) := Fin N × Value
def bkP {N : Nat} (pre : List (BkE N)) : List Nat := pre.map fun x => x.1.val
theorem bkP_snoc {N : Nat} (pre : List (BkE N)) (x : BkE N) : bkP (pre ++ [x]) = bkP pre ++ [x.1.val] := by simp [bkP]
theorem bkP_len {N k : Nat} {pre : List (BkE N)} (h : bkP pre = bkL N k) : pre.length = k := by
  have := congrArg List.length h
  simpa [bkP, bkL] using this

set_option maxHeartbeats 400000 in
theorem backward_any (A : Option Addr) (n c : Nat) (w : World) :
    Calls Tryz.prog 149 #[.slice A n c] w fun e w' => e = .returned (.func (.func 156) #[] #[.pointer (some ⟨w.heap.size, 0, none⟩)]) ∧ w' = w.alloc (.cells #[.slice A n c] 25) := by
  have hmf : ∀ (fn : Fn) (first cap : Array Value) (w : World), (Instr.makeFunc fn first cap).run Tryz.prog w = .ok (.func fn first cap) w := fun _ _ _ _ => rfl
  go_enter Tryz.func149, Tryz.ntmps149
  go_wp2
  go_ret
  exact ⟨rfl, rfl⟩

set_option maxRecDepth 100000 in
set_option maxHeartbeats 1000000 in
theorem back1_in (n : Nat) (hn : 1 ≤ n) (l Bg n₀ N g c : Nat) (J Jx : List (BkE N) → World → Prop) (W : World)
    (hY : ∀ pre x W, J pre W → pre.length < N → YieldAt Fence.wide (n - 1) Tryz.prog l #[.int .i64 (x.1.val : Int), x.2] W fun e W' =>
      (e = .returned (.bool true) ∧ J (pre ++ [x]) W' ∧ (Below n₀ W W' ∧ BackR Bg g W W')) ∨ (e = .returned (.bool false) ∧ Jx (pre ++ [x]) W'))
    (hBg : W.cell? ⟨Bg, 0, none⟩ = some (.slice (some ⟨g, 0, none⟩) N c)) (hg : ∀ p, p < N → ∃ v, W.cell? ⟨g, p, none⟩ = some v) (hN : N ≤ 1048576) (h0 : J [] W) :
    CallsIn Fence.wide n Tryz.prog 156 #[.func (.yield l) #[] #[], .pointer (some ⟨Bg, 0, none⟩)] W fun e W' => (∃ v, e = .returned v) ∧
      ((∃ ys, bkP ys = bkL N N ∧ J ys W') ∨ (∃ pre, (∃ k, bkP pre = bkL N k) ∧ Jx pre W')) := by
  have HY := Lib.hid hY
  have HG := Lib.hid hg
  clear hY hg
  refine callsIn_of_wp Tryz.func156 rfl trivial ?_ rfl
  simp only [Tryz.ntmps156, List.size_toArray, List.length_cons, List.length_nil, Nat.reduceAdd, Nat.reduceSub, Array.replicate_succ, Array.replicate_zero, List.push_toArray, List.append_toArray, List.nil_append, List.cons_append]
  gi_wp2_with fail
  gi_loopw [3] (fun i wr => ∃ (k : Nat) (pre : List (BkE N)), k ≤ N ∧ i = .int .i64 ((N : Int) - 1 - (k : Int)) ∧ Hid (bkP pre = bkL N k) ∧ J pre wr ∧ Hid (BackR Bg g W wr)) (fun i _ => (intOf i + 1).toNat)
  case atStart => exact ⟨0, [], Nat.zero_le _, by go_num, Lib.hid rfl, h0, Lib.hid (BackR.refl _ _ _)⟩
  case round =>
    obtain ⟨k, pre, hk, rfl, HP, hJ, HR⟩ := hrel
    by_cases hlt : k < N
    · obtain ⟨p, hp⟩ : ∃ p, N - 1 - k = p := ⟨_, rfl⟩
      have hpi : (N : Int) - 1 - (k : Int) = (p : Int) := by omega
      have hpN : p < N := by omega
      have hcb := HR.out.1 _ hBg
      obtain ⟨v0, hv0⟩ := HG.out p hpN
      obtain ⟨v, hv⟩ := HR.out.2 p v0 hv0
      obtain ⟨fn, tmps, assign, body, hy, hR⟩ := HY.out pre ⟨⟨p, hpN⟩, v⟩ wr hJ (by rw [bkP_len HP.out]; exact hlt)
      have HP2 : Hid (bkP (pre ++ [((⟨p, hpN⟩, v) : BkE N)]) = bkL N (k + 1)) := Lib.hid (by rw [bkP_snoc, bkL_succ, HP.out, hp])
      dsimp only at hy
      have HRR := Lib.hid hR
      rw [hpi]
      clear hv0 hR
      have hp2 : (N : Int) - 1 - ((k + 1 : Nat) : Int) = (p : Int) - 1 := by omega
      have HPP := Lib.hid hp2
      clear hp hpi hp2
      gi_wp2
      refine HRR.out.mono ?_
      rintro e W3 (⟨rfl, hJ3, hk3⟩ | ⟨rfl, hJx3⟩)
      · gi_wp2
        go_roundw
        case rel => exact ⟨k + 1, pre ++ [(⟨p, hpN⟩, v)], by omega, by rw [HPP.out], HP2, hJ3, Lib.hid (HR.out.trans hk3.2)⟩
        case measure => simp [intOf]
      · gi_wp2
        refine bodyPost_ret (results_none rfl _ _ _) rfl ?_
        exact ⟨⟨_, rfl⟩, .inr ⟨_, ⟨_, HP2.out⟩, hJx3⟩⟩
    · obtain rfl : k = N := by omega
      gi_wp2
      go_end0
      exact ⟨⟨_, rfl⟩, .inl ⟨_, HP.out, hJ⟩⟩

/-- 'for place := range slices.Backward(list)'. -/
theorem back_stops (n : Nat) (hn : 1 ≤ n) (Bg n₀ N g c : Nat) (w : World) (hB : Bg < w.heap.size) (hl : g < w.heap.size) (hc : w.cell? ⟨Bg, 0, none⟩ = some (.slice (some ⟨g, 0, none⟩) N c)) (hg : ∀ p, p < N → ∃ v, w.cell? ⟨g, p, none⟩ = some v) (hN : N ≤ 1048576) :
    SeqStopsK Fence.wide n Tryz.prog 156 #[.pointer (some ⟨Bg, 0, none⟩)] (fun x : BkE N => #[.int .i64 (x.1.val : Int), x.2]) (fun A B => Below n₀ A B ∧ BackR Bg g A B) (fun ys => bkP ys = bkL N N) (fun pre => ∃ k, bkP pre = bkL N k) N w :=
  fun l J Jx W hW _ _ hY h0 => back1_in n hn l Bg n₀ N g c J Jx W hY ((hW.cell (p := ⟨Bg, 0, none⟩) hB).trans hc) (fun p hp => let ⟨v, hv⟩ := hg p hp; ⟨v, (hW.cell (p := ⟨g, p, none⟩) hl).trans hv⟩) hN h0

end Go.Proofs.YtcdijeeabgmgmaaGreatDoor

/- Lists of numbers of values: the program's side. -/
namespace Go.Proofs.YtcdijeeabgmgmaaGreatDoor
open Go.RowKit Go.Shelf

attribute [local go_sem] Oper.semAt_some

/-- What one round does to the list and to the number. -/
def stepB (B : Nat) (s : (Nat → Int) × Nat) (p : Nat) : (Nat → Int) × Nat := (fun p' => if p' = p then ((s.2 % B + 1 : Nat) : Int) else s.1 p', s.2 / B)
def runB (B i : Nat) (ps : List Nat) : (Nat → Int) × Nat := ps.foldl (stepB B) (fun _ => 0, i)
theorem runB_snoc (B i : Nat) (ps : List Nat) (p : Nat) : runB B i (ps ++ [p]) = stepB B (runB B i ps) p := by simp [runB, List.foldl_append]
theorem foldB_le (B : Nat) : ∀ (ps : List Nat) (s : (Nat → Int) × Nat), (ps.foldl (stepB B) s).2 ≤ s.2
  | [], _ => Nat.le_refl _
  | p :: ps, s => Nat.le_trans (foldB_le B ps (stepB B s p)) (Nat.div_le_self _ _)
theorem runB_le (B i : Nat) (ps : List Nat) : (runB B i ps).2 ≤ i := foldB_le B ps _
theorem runB_at (N n i : Nat) : ∀ j, j ≤ n → (∀ p, p < n → (runB (N - 1) i (bkL n j)).1 p = stF N n i j p) ∧ (runB (N - 1) i (bkL n j)).2 = i / (N - 1) ^ j
  | 0, _ => ⟨fun p hp => by rw [stF_zero hp]; rfl, by simp [bkL, runB]⟩
  | j + 1, hj => by
    obtain ⟨h1, h2⟩ := runB_at N n i j (by omega)
    rw [bkL_succ, runB_snoc]
    refine ⟨fun p hp => ?_, ?_⟩
    · rw [← stF_step (by omega)]
      show (if p = n - 1 - j then _ else _) = _
      by_cases h : p = n - 1 - j
      · rw [if_pos h, if_pos h, h2, dN, show n - 1 - (n - 1 - j) = j by omega]
      · rw [if_neg h, if_neg h, h1 p hp]
    · show (runB (N - 1) i (bkL n j)).2 / (N - 1) = _
      rw [h2, Nat.pow_succ, Nat.div_div_eq_div_mul]

set_option maxRecDepth 100000 in
set_option maxHeartbeats 4000000 in
theorem listAt_c (A : Option Addr) (N c n i : Nat) (w : World) (hN : N ≤ 8) (hN1 : 1 ≤ N) (hN2 : n = 0 ∨ 2 ≤ N) (hn : n ≤ 4) (hi : i < cellsN N n) :
    Calls Tryz.prog 131 #[.agg #[.slice A N c], .int .i64 (n : Int), .int .i64 (i : Int)] w fun e w' => ∃ (C0 : Option Addr) (e0 : Nat), e = .returned (.slice C0 (lsL N n i).length e0) ∧ Ex w w' ∧ OwnL w' w.heap.size w'.heap.size C0 (lsL N n i) ∧ n ≤ e0 := by
  have e0 : Ex w ((w.alloc (.cells #[.slice A N c] 32)).alloc (.cells #[.int .i64 (i : Int)] 2)) := ((Ex.refl w).alloc _).alloc _
  have b0 : Has ((w.alloc (.cells #[.slice A N c] 32)).alloc (.cells #[.int .i64 (i : Int)] 2)) (w.heap.size) 32 #[.slice A N c] := ((Has.newAt (w := w) (e := 32) (cs := #[.slice A N c]) (k := w.heap.size) (by simp)).alloc _)
  have b1 : Has ((w.alloc (.cells #[.slice A N c] 32)).alloc (.cells #[.int .i64 (i : Int)] 2)) (w.heap.size + 1) 2 #[.int .i64 (i : Int)] := (Has.newAt (w := (w.alloc (.cells #[.slice A N c] 32))) (e := 2) (cs := #[.int .i64 (i : Int)]) (k := w.heap.size + 1) (by simp))
  have HE0 := Lib.hid e0
  have HB0 := Lib.hid b0
  have HB1 := Lib.hid b1
  have hmk := makeI n (by omega)
  have hN6 : N ≤ 1048576 := by omega
  have hc24 := cellsN_le hN hn
  have HCC := Lib.hid (fun W => cellCount_any A N c n W hN hN1 hn)
  have hlt0 : decide ((i : Int) < 0) = false := decide_eq_false (by omega)
  obtain ⟨cn, hcn⟩ : ∃ cn, cellsN N n = cn := ⟨_, rfl⟩
  rw [hcn] at hi hc24 HCC
  have hge : decide ((cn : Int) ≤ (i : Int)) = false := decide_eq_false (by omega)
  clear hcn e0 b0 b1
  refine (callsIn_wide (n := 20)).1 ?_
  refine callsIn_of_wp_marks Tryz.func131 rfl trivial ?_ rfl
  simp only [Tryz.ntmps131, List.size_toArray, List.length_cons, List.length_nil, Nat.reduceAdd, Nat.reduceSub, Array.replicate_succ, Array.replicate_zero, List.push_toArray, List.append_toArray, List.nil_append, List.cons_append]
  refine wpIn_wide.2 ?_
  go_wp2_with fail
  generalize ((w.alloc (.cells #[.slice A N c] 32)).alloc (.cells #[.int .i64 (i : Int)] 2)) = W0 at *
  have HSK := Lib.hid (fun W' (he : Ex W0.drew W') => And.intro ((Has.ex (w := W0.drew) HB0.out he).cell 0) ((Has.ex (w := W0.drew) HB1.out he).cell 0))
  refine wp_region_quiet (C := fun w' => Ex W0.drew w') (by kernel_rfl) (by kernel_rfl) (Ex.refl _) ?_
  refine BigFrame.wpQuiet_want (by rfl) fun K hK => ⟨?_, fun w' hC => ?_, hK _ ?_⟩
  rotate_left
  · (obtain ⟨q0, q1⟩ := HSK.out _ hC; go_simp; first | done | with_reducible rfl | exact ⟨rfl, hC⟩)
  clear hK K
  simp only [Act.put, List.setIfInBounds_toArray, List.set_cons_zero, List.set_cons_succ]
  refine BigFrame.wpQuiet_want (by rfl) fun K hK => ⟨?_, fun w' hC => ?_, hK _ ?_⟩
  rotate_left
  · (obtain ⟨q0, q1⟩ := HSK.out _ hC; go_simp; first | done | with_reducible rfl | exact ⟨rfl, hC⟩)
  clear hK K
  simp only [Act.put, List.setIfInBounds_toArray, List.set_cons_zero, List.set_cons_succ]
  refine BigFrame.wpQuiet_want (by rfl) fun K hK => ⟨?_, fun w' hC => ?_, hK _ ?_⟩
  rotate_left
  · (obtain ⟨q0, q1⟩ := HSK.out _ hC; go_simp; first | done | with_reducible rfl | exact ⟨rfl, hC⟩)
  clear hK K
  simp only [Act.put, List.setIfInBounds_toArray, List.set_cons_zero, List.set_cons_succ]
  refine BigFrame.wpQuiet_want (by rfl) fun K hK => ⟨?_, fun w' hC => ?_, hK _ ?_⟩
  rotate_left
  · (obtain ⟨q0, q1⟩ := HSK.out _ hC; go_simp; first | done | with_reducible rfl | exact ⟨rfl, hC⟩)
  clear hK K
  simp only [Act.put, List.setIfInBounds_toArray, List.set_cons_zero, List.set_cons_succ]
  refine BigFrame.wpQuiet_want (by rfl) fun K hK => ⟨?_, fun w' hC => ?_, hK _ ?_⟩
  rotate_left
  · (obtain ⟨q0, q1⟩ := HSK.out _ hC; go_simp; first | done | with_reducible rfl | exact ⟨rfl, hC⟩)
  clear hK K
  simp only [Act.put, List.setIfInBounds_toArray, List.set_cons_zero, List.set_cons_succ]
  refine BigFrame.wpQuiet_want (by rfl) fun K hK => ⟨?_, fun w' hC => ?_, hK _ ?_⟩
  rotate_left
  · (obtain ⟨q0, q1⟩ := HSK.out _ hC; go_simp; first | done | with_reducible rfl | exact ⟨rfl, hC⟩)
  clear hK K
  simp only [Act.put, List.setIfInBounds_toArray, List.set_cons_zero, List.set_cons_succ]
  refine BigFrame.wpQuiet_want (by rfl) fun K hK => ⟨.int .i64 (cn : Int), fun w' hC => (by go_simp; refine ((HCC.out w')).mono ?_; rintro e w2 ⟨rfl, hb⟩; exact ⟨rfl, hC.trans hb⟩), hK _ ?_⟩
  clear hK K
  simp only [Act.put, List.setIfInBounds_toArray, List.set_cons_zero, List.set_cons_succ]
  refine BigFrame.wpQuiet_want (by rfl) fun K hK => ⟨?_, fun w' hC => ?_, hK _ ?_⟩
  rotate_left
  · (obtain ⟨q0, q1⟩ := HSK.out _ hC; go_simp; first | done | with_reducible rfl | exact ⟨rfl, hC⟩)
  clear hK K
  simp only [Act.put, List.setIfInBounds_toArray, List.set_cons_zero, List.set_cons_succ]
  refine BigFrame.wpQuiet_want (by rfl) fun K hK => ⟨?_, fun w' hC => ?_, hK _ ?_⟩
  rotate_left
  · (obtain ⟨q0, q1⟩ := HSK.out _ hC; go_simp; first | done | with_reducible rfl | exact ⟨rfl, hC⟩)
  clear hK K
  simp only [Act.put, List.setIfInBounds_toArray, List.set_cons_zero, List.set_cons_succ]
  refine wpQuiet_nil ?_
  intro w2 hC2
  have HC2 := Lib.hid hC2
  clear hC2
  go_wp2_with fail
  refine (backward_any _ _ _ _).mono ?_
  rintro e w' ⟨rfl, rfl⟩
  obtain ⟨g, hg⟩ : ∃ g, w2.heap.size = g := ⟨_, rfl⟩
  obtain ⟨W3, hW3⟩ : ∃ W3, ((w2.alloc (.cells (tab n fun _ => .int .i64 0) 2)).alloc (.cells #[.slice (some ⟨g, 0, none⟩) n n] 25)).alloc (.cells #[.slice (some ⟨g, 0, none⟩) n n] 25) = W3 := ⟨_, rfl⟩
  have hE3 : Ex w2 W3 := by rw [← hW3]; exact ((Ex.new _ _).alloc _).alloc _
  have bL : Has W3 g 2 (tab n fun _ => .int .i64 0) := by rw [← hW3, ← hg]; exact ((Has.new _ _ _).alloc _).alloc _
  have bD : Has W3 (g + 1) 25 #[.slice (some ⟨g, 0, none⟩) n n] := by rw [← hW3]; exact (Has.newAt (by simp [hg])).alloc _
  have bB : Has W3 (g + 1 + 1) 25 #[.slice (some ⟨g, 0, none⟩) n n] := by rw [← hW3]; exact Has.newAt (by simp [hg])
  have hE2 := (Ex.refl W0).drew.trans HC2.out
  have bI := HB1.out.ex (hE2.trans hE3)
  have bG := HB0.out.ex (hE2.trans hE3)
  have HE3 := Lib.hid (HE0.out.trans (hE2.trans hE3))
  have hgw : w.heap.size + 1 < g := by
    have := (HB1.out.ex hE2).lt
    omega
  have hzg : g + 1 + 1 < W3.heap.size := bB.lt
  rw [hg, hW3]
  have HGG := Lib.hid hg
  clear hW3 hg hE3 hE2 HB0 HB1 HSK HC2 HCC hmk hge hlt0
  have hil : i ≤ 2401 := by omega
  obtain ⟨B, hB⟩ : ∃ B, N - 1 = B := ⟨_, rfl⟩
  have hB' : (N : Int) - 1 = (B : Int) := by omega
  have HBN := Lib.hid hB
  have HBP := Lib.hid (show n = 0 ∨ 0 < B by omega)
  clear hB hN2 hi hc24
  go_wp2_with fail
  rw [HGG.out]
  refine (wpIn_wide (n := 20)).1 ?_
  refine range_topR (n := 20) (n₀ := w.heap.size) (R := BackR (g + 1 + 1) g) BackR.trans (BackR.refl _ _) BackR.put (by omega) (gf := 156) (lb := #[.pointer (some ⟨g + 1 + 1, 0, none⟩)]) rfl (enters_of Tryz.func156 (by kernel_rfl) rfl)
    (back_stops 19 (by omega) (g + 1 + 1) w.heap.size n g n W3 bB.lt bL.lt (bB.cell 0) (fun p hp => ⟨_, by rw [bL.cell, tab_get hp]⟩) (by omega)) (by omega) (fun _ => rfl)
    (fun pre W => Has W g 2 (tab n fun p => .int .i64 ((runB B i (bkP pre)).1 p)) ∧ Has W (w.heap.size + 1) 2 #[.int .i64 ((runB B i (bkP pre)).2 : Int)] ∧ Has W w.heap.size 32 #[.slice A N c] ∧ Has W (g + 1) 25 #[.slice (some ⟨g, 0, none⟩) n n] ∧ Has W (g + 1 + 1) 25 #[.slice (some ⟨g, 0, none⟩) n n])
    (OwnFrom.and (Own.from (has_own _ _ _) _) (OwnFrom.and (Own.from (has_own _ _ _) _) (OwnFrom.and (Own.from (has_own _ _ _) _) (OwnFrom.and (Own.from (has_own _ _ _) _) (Own.from (has_own _ _ _) _)))))
    ⟨bL, bI, bG, bD, bB⟩ ?round ?done
  case done =>
    rintro D xs W hD hxs ⟨cL, -, -, cD, -⟩ hKW hK
    have HL := Lib.hid cL
    have HKW := Lib.hid hKW
    have HKD := Lib.hid hK
    have cs := cD.cell 0
    have hzD := (Array.getElem?_eq_some_iff.1 hK).1
    clear bL bD bB bI bG cL cD hKW hK
    simp only [Exit.inBlock, Exit.then]
    go_wp2_with fail
    refine ⟨by simp, .inl ⟨_, _, rfl, run_takeDeferred HKD.out, ?_⟩⟩
    have hEW : Ex w W := HE3.out.trans' HKW.out.1 (Nat.le_refl _)
    have hg8 := grownBy_putObj' W D (.deferred none)
    have hLL := (has_own g 2 (fun _ : Unit => tab n fun p => .int .i64 ((runB B i (bkP xs)).1 p))) () W _ (some D) HL.out hg8 (fun r e => by cases e; exact ⟨_, HKD.out, rfl⟩)
    refine ⟨_, results_tmp rfl _ _ _, some ⟨g, 0, none⟩, n, by rw [lsL_len]; rfl, Below.grown hEW hg8 hEW.size (fun k hk => by cases hk; have := HE3.out.size; omega), OwnL.of_has (n := n) (e := 2) ?_ (by rw [lsL_len]) (by omega), Nat.le_refl _⟩
    rw [hxs, ← HBN.out] at hLL
    rw [tab_congr (fun p hp => by rw [nth_lsL hp, ← stF_all, ← (runB_at N n i n (Nat.le_refl _)).1 p hp])]
    exact hLL
  case round =>
    clear bL bD bB bI bG
    intro l x W K hK
    have HK := Lib.hid hK
    clear hK
    gi_wp2
    refine HK.out _ ?_
    clear HK
    rintro l pre W1 hr ⟨bL, bI, bG, bD, bB⟩ hKW hlt
    obtain ⟨⟨p, hp⟩, v⟩ := x
    clear hr
    dsimp only
    have hB0 : ¬ B = 0 := by have := HBP.out; omega
    have hzw : w.heap.size ≤ W1.heap.size := by have := bG.lt; omega
    obtain ⟨q, hq⟩ : ∃ q, (runB B i (bkP pre)).2 = q := ⟨_, rfl⟩
    have hq24 : q ≤ 2401 := by rw [← hq]; exact Nat.le_trans (runB_le B i _) hil
    rw [hq] at bI
    obtain ⟨r, hr⟩ : ∃ r, q % B = r := ⟨_, rfl⟩
    obtain ⟨d, hd⟩ : ∃ d, q / B = d := ⟨_, rfl⟩
    have hrB : r < B := by rw [← hr]; exact Nat.mod_lt _ (by omega)
    have hdq : d ≤ q := by rw [← hd]; exact Nat.div_le_self _ _
    have hwr : IntKind.i64.wrap ((q : Int) % (B : Int)) = (r : Int) := by rw [← hr, ← Int.natCast_emod, IntWalk.i64_in _ (by rw [hr]; omega)]
    have hwd : IntKind.i64.wrap ((q : Int) / (B : Int)) = (d : Int) := by rw [← hd, ← Int.natCast_ediv, IntWalk.i64_in _ (by rw [hd]; omega)]
    have hwB : IntKind.i64.wrap (B : Int) = (B : Int) := IntWalk.i64_in _ (by omega)
    have hwr1 : IntKind.i64.wrap (1 + (r : Int)) = ((r + 1 : Nat) : Int) := by rw [IntWalk.i64_in _ (by omega)]; omega
    have hwm : IntKind.i64.wrap (1 + Int.tmod (q : Int) (B : Int)) = ((r + 1 : Nat) : Int) := by rw [Int.tmod_eq_emod_of_nonneg (by omega), show (q : Int) % (B : Int) = (r : Int) by rw [← hr]; rfl]; exact hwr1
    have HWM := Lib.hid hwm
    have hwv : IntKind.i64.wrap (Int.tdiv (q : Int) (B : Int)) = (d : Int) := by rw [Int.tdiv_eq_ediv_of_nonneg (by omega)]; exact hwd
    have HWV := Lib.hid hwv
    clear hwm hwv
    have hp0 : (0 : Int) ≤ (p : Int) := by omega
    have hpn : (p : Int) < (n : Int) := by omega
    have HST : Hid (runB B i (bkP (pre ++ [((⟨p, hp⟩, v) : BkE n)])) = (fun p' => if p' = p then ((r + 1 : Nat) : Int) else (runB B i (bkP pre)).1 p', d)) := Lib.hid (by
      rw [bkP_snoc, runB_snoc, stepB, hq, hr, hd])
    have HKW := Lib.hid hKW
    have HF := Lib.hid (fun W' (he : Ex W1 W') => (⟨(Has.ex bD he).cell 0, (Has.ex bI he).cell 0, (Has.ex bG he).cell 0⟩ :
        W'.cell? ⟨g + 1, 0, none⟩ = some (.slice (some ⟨g, 0, none⟩) n n) ∧ W'.cell? ⟨w.heap.size + 1, 0, none⟩ = some (.int .i64 (q : Int)) ∧ W'.cell? ⟨w.heap.size, 0, none⟩ = some (.slice A N c)))
    have HL := Lib.hid bL
    have HI := Lib.hid bI
    have HG := Lib.hid bG
    have HD := Lib.hid bD
    have HB := Lib.hid bB
    have HGR := Lib.hid (fun W => groupOrder_ex A N c W hN6)
    clear bL bI bG bD bB hKW hq hr hd
    gi_wp2_with fail
    refine Late.round (C := fun w' : World => Ex W1 w' ∧ (w'.cell? ⟨g + 1, 0, none⟩ = some (.slice (some ⟨g, 0, none⟩) n n) ∧ w'.cell? ⟨w.heap.size + 1, 0, none⟩ = some (.int .i64 (q : Int)) ∧ w'.cell? ⟨w.heap.size, 0, none⟩ = some (.slice A N c)))
      (fun j => j != 9) (by kernel_rfl) (by rfl) (by rintro ⟨_, _, h⟩; exact h) ⟨(Ex.refl W1).drew, HF.out _ (Ex.refl W1).drew⟩ ?_
    intro hS
    refine Late.take (i := 0) (oi := _) (v := ?_) rfl (by kernel_rfl) (by kernel_rfl) (by kernel_rfl) (by kernel_rfl) (fun _ _ _ h => h) (Or.inl ⟨by rfl, ?_⟩) hS ?_
    rotate_left
    · (intro w hSw; (try dsimp only at hSw); go_simp; first | done | with_reducible rfl)
    simp only [Act.put]
    refine Late.take (i := 1) (oi := _) (v := ?_) rfl (by kernel_rfl) (by kernel_rfl) (by kernel_rfl) (by kernel_rfl) (fun _ _ _ h => h) (Or.inl ⟨by rfl, ?_⟩) hS ?_
    rotate_left
    · (intro w hSw; (try dsimp only at hSw); go_simp; first | done | with_reducible rfl)
    simp only [Act.put]
    refine Late.take (i := 2) (oi := _) (v := ?_) rfl (by kernel_rfl) (by kernel_rfl) (by kernel_rfl) (by kernel_rfl) (fun _ _ _ h => h) (Or.inl ⟨by rfl, ?_⟩) hS ?_
    rotate_left
    · (intro w hSw; (try dsimp only at hSw); go_simp; first | done | with_reducible rfl)
    simp only [Act.put]
    refine Late.take (i := 3) (oi := _) (v := ?_) rfl (by kernel_rfl) (by kernel_rfl) (by kernel_rfl) (by kernel_rfl) (fun _ _ _ h => h) (Or.inl ⟨by rfl, ?_⟩) hS ?_
    rotate_left
    · (intro w hSw; (try dsimp only at hSw); go_simp; first | done | with_reducible rfl)
    simp only [Act.put]
    refine Late.one (i := 4) (o := _) (by kernel_rfl) rfl (fun K' hK' => ?_)
    rw [if_pos (by rfl)]
    go_simp
    refine (HGR.out _).mono ?_
    rintro e w1 ⟨rfl, he1⟩
    have hS1 := And.intro (hS.1.trans he1) (HF.out _ (hS.1.trans he1))
    refine hK'.out _ _ (fun _ => hS1) (fun _ => ?_)
    clear hK' K'
    refine Late.take (i := 5) (oi := _) (v := ?_) rfl (by kernel_rfl) (by kernel_rfl) (by kernel_rfl) (by kernel_rfl) (fun _ _ _ h => h) (Or.inl ⟨by rfl, ?_⟩) hS1 ?_
    rotate_left
    · (intro w hSw; (try dsimp only at hSw); go_simp; first | done | with_reducible rfl)
    simp only [Act.put]
    refine Late.take (i := 6) (oi := _) (v := ?_) rfl (by kernel_rfl) (by kernel_rfl) (by kernel_rfl) (by kernel_rfl) (fun _ _ _ h => h) (Or.inl ⟨by rfl, ?_⟩) hS1 ?_
    rotate_left
    · (intro w hSw; (try dsimp only at hSw); go_simp; first | done | with_reducible rfl)
    simp only [Act.put]
    refine Late.take (i := 7) (oi := _) (v := ?_) rfl (by kernel_rfl) (by kernel_rfl) (by kernel_rfl) (by kernel_rfl) (fun _ _ _ h => h) (Or.inl ⟨by rfl, ?_⟩) hS1 ?_
    rotate_left
    · (intro w hSw; (try dsimp only at hSw); go_simp; first | done | with_reducible rfl)
    simp only [Act.put]
    refine Late.take (i := 8) (oi := _) (v := ?_) rfl (by kernel_rfl) (by kernel_rfl) (by kernel_rfl) (by kernel_rfl) (fun _ _ _ h => h) (Or.inl ⟨by rfl, ?_⟩) hS1 ?_
    rotate_left
    · (intro w hSw; (try dsimp only at hSw); go_simp; first | done | with_reducible rfl)
    simp only [Act.put]
    have cst : w1.cell? ⟨g, p, none⟩ = some (.int .i64 ((runB B i (bkP pre)).1 p)) := by rw [(HL.out.ex hS1.1).cell, tab_get hp]
    have fst := (HL.out.ex hS1.1).free p
    refine Late.one (i := 9) (o := _) (by kernel_rfl) rfl (fun K' hK' => ?_)
    go_simp
    refine hK'.out _ _ (fun h => by cases h) (fun _ => ?_)
    clear hK' K'
    refine Late.done (by kernel_rfl) ?_ _
    have bL := (HL.out.ex hS1.1).put p (.int .i64 ((r + 1 : Nat) : Int))
    rw [tab_set hp] at bL
    have hK2 : Keeps w.heap.size W1 (w1.setCell ⟨g, p, none⟩ (.int .i64 ((r + 1 : Nat) : Int))) := (Keeps.of_below hS1.1 hzw).setCell (p := ⟨g, p, none⟩) (by show w.heap.size ≤ g; omega) _
    have bI := (HI.out.ex hS1.1).far (p := ⟨g, p, none⟩) (by show w.heap.size + 1 ≠ g; omega) (.int .i64 ((r + 1 : Nat) : Int))
    have bG := (HG.out.ex hS1.1).far (p := ⟨g, p, none⟩) (by show w.heap.size ≠ g; omega) (.int .i64 ((r + 1 : Nat) : Int))
    have bD := (HD.out.ex hS1.1).far (p := ⟨g, p, none⟩) (by show g + 1 ≠ g; omega) (.int .i64 ((r + 1 : Nat) : Int))
    have bB := (HB.out.ex hS1.1).far (p := ⟨g, p, none⟩) (by show g + 1 + 1 ≠ g; omega) (.int .i64 ((r + 1 : Nat) : Int))
    have hzw2 := hK2.1.size
    rw [HWM.out]
    obtain ⟨W2, hW2⟩ : ∃ W2, w1.setCell ⟨g, p, none⟩ (.int .i64 ((r + 1 : Nat) : Int)) = W2 := ⟨_, rfl⟩
    rw [hW2] at bL bI bG bD bB hK2 hzw2 ⊢
    have HF2 := Lib.hid (fun W' (he : Ex W2 W') => (⟨(Has.ex bI he).cell 0, (Has.ex bG he).cell 0⟩ :
        W'.cell? ⟨w.heap.size + 1, 0, none⟩ = some (.int .i64 (q : Int)) ∧ W'.cell? ⟨w.heap.size, 0, none⟩ = some (.slice A N c)))
    have HL2 := Lib.hid bL
    have HI2 := Lib.hid bI
    have HG2 := Lib.hid bG
    have HD2 := Lib.hid bD
    have HB2 := Lib.hid bB
    have HK2 := Lib.hid hK2
    have hzw3 : w.heap.size ≤ W2.heap.size := by omega
    clear bL bI bG bD bB hK2 hW2 cst fst hS hS1 he1 HF HD HI
    gi_wp2_with fail
    refine Late.round (C := fun w' : World => Ex W2 w' ∧ (w'.cell? ⟨w.heap.size + 1, 0, none⟩ = some (.int .i64 (q : Int)) ∧ w'.cell? ⟨w.heap.size, 0, none⟩ = some (.slice A N c)))
      (fun j => j != 5) (by kernel_rfl) (by rfl) (by rintro ⟨_, _, h⟩; exact h) ⟨(Ex.refl W2).drew, HF2.out _ (Ex.refl W2).drew⟩ ?_
    intro hS
    refine Late.take (i := 0) (oi := _) (v := ?_) rfl (by kernel_rfl) (by kernel_rfl) (by kernel_rfl) (by kernel_rfl) (fun _ _ _ h => h) (Or.inl ⟨by rfl, ?_⟩) hS ?_
    rotate_left
    · (intro w hSw; (try dsimp only at hSw); go_simp; first | done | with_reducible rfl)
    simp only [Act.put]
    refine Late.take (i := 1) (oi := _) (v := ?_) rfl (by kernel_rfl) (by kernel_rfl) (by kernel_rfl) (by kernel_rfl) (fun _ _ _ h => h) (Or.inl ⟨by rfl, ?_⟩) hS ?_
    rotate_left
    · (intro w hSw; (try dsimp only at hSw); go_simp; first | done | with_reducible rfl)
    simp only [Act.put]
    refine Late.one (i := 2) (o := _) (by kernel_rfl) rfl (fun K' hK' => ?_)
    rw [if_pos (by rfl)]
    go_simp
    refine (HGR.out _).mono ?_
    rintro e w3 ⟨rfl, he1⟩
    have hS1 := And.intro (hS.1.trans he1) (HF2.out _ (hS.1.trans he1))
    refine hK'.out _ _ (fun _ => hS1) (fun _ => ?_)
    clear hK' K'
    refine Late.take (i := 3) (oi := _) (v := ?_) rfl (by kernel_rfl) (by kernel_rfl) (by kernel_rfl) (by kernel_rfl) (fun _ _ _ h => h) (Or.inl ⟨by rfl, ?_⟩) hS1 ?_
    rotate_left
    · (intro w hSw; (try dsimp only at hSw); go_simp; first | done | with_reducible rfl)
    simp only [Act.put]
    refine Late.take (i := 4) (oi := _) (v := ?_) rfl (by kernel_rfl) (by kernel_rfl) (by kernel_rfl) (by kernel_rfl) (fun _ _ _ h => h) (Or.inl ⟨by rfl, ?_⟩) hS1 ?_
    rotate_left
    · (intro w hSw; (try dsimp only at hSw); go_simp; first | done | with_reducible rfl)
    simp only [Act.put]
    have ci := (HI2.out.ex hS1.1).cell 0
    have fi := (HI2.out.ex hS1.1).free 0
    refine Late.one (i := 5) (o := _) (by kernel_rfl) rfl (fun K' hK' => ?_)
    go_simp
    refine hK'.out _ _ (fun h => by cases h) (fun _ => ?_)
    clear hK' K'
    refine Late.done (by kernel_rfl) ?_ _
    have bL := (HL2.out.ex hS1.1).far (p := ⟨w.heap.size + 1, 0, none⟩) (by show g ≠ w.heap.size + 1; omega) (.int .i64 (d : Int))
    have bI : Has _ _ _ _ := (HI2.out.ex hS1.1).put1 (v := .int .i64 (d : Int))
    have bG := (HG2.out.ex hS1.1).far (p := ⟨w.heap.size + 1, 0, none⟩) (by show w.heap.size ≠ w.heap.size + 1; omega) (.int .i64 (d : Int))
    have bD := (HD2.out.ex hS1.1).far (p := ⟨w.heap.size + 1, 0, none⟩) (by show g + 1 ≠ w.heap.size + 1; omega) (.int .i64 (d : Int))
    have bB := (HB2.out.ex hS1.1).far (p := ⟨w.heap.size + 1, 0, none⟩) (by show g + 1 + 1 ≠ w.heap.size + 1; omega) (.int .i64 (d : Int))
    show _ ∧ _ ∧ _ ∧ _ ∧ _ ∧ _ ∧ _
    rw [HST.out]
    refine ⟨HK2.out.trans ((Keeps.of_below hS1.1 hzw3).setCell (p := ⟨w.heap.size + 1, 0, none⟩) (by show w.heap.size ≤ w.heap.size + 1; omega) _), BackR.of HB.out bB HL.out bL, ?_, bI, bG, bD, bB⟩
    refine Eq.mp (congrArg (fun f => Has _ g 2 (tab n f)) (funext fun p' => ?_)) bL
    show _ = Value.int .i64 (if p' = p then _ else _)
    by_cases h : p' = p
    · rw [if_pos h, if_pos h]
    · rw [if_neg h, if_neg h]

theorem listAt_yes (A : Option Addr) (N c n i : Nat) (w : World) (hN : N ≤ 8) (hN1 : 1 ≤ N) (hN2 : n = 0 ∨ 2 ≤ N) (hn : n ≤ 4) (hi : i < cellsN N n) :
    Calls Tryz.prog 131 #[.agg #[.slice A N c], .int .i64 (n : Int), .int .i64 (i : Int)] w fun e w' => ∃ (C0 : Option Addr) (e0 : Nat), e = .returned (.slice C0 (lsL N n i).length e0) ∧ Ex w w' ∧ OwnL w' w.heap.size w'.heap.size C0 (lsL N n i) :=
  (listAt_c A N c n i w hN hN1 hN2 hn hi).mono fun _ _ ⟨C0, e0, h1, h2, h3, _⟩ => ⟨C0, e0, h1, h2, h3⟩

end Go.Proofs.YtcdijeeabgmgmaaGreatDoor

/- Ranges over all lists of elements: the iterator's contract. -/
namespace Go.Proofs.YtcdijeeabgmgmaaGreatDoor
open Go.RowKit Go.Shelf

attribute [local go_sem] Oper.semAt_some

theorem grown_of_ex {W W' : World} (h : Ex W W') : W.grownBy W' none := ⟨h.below.os, h.below.tape, h.below.output, h.below.size, fun i hi _ => h.below.block i hi⟩

/-- A list as it is handed over: its number, its address, its capacity. -/
abbrev LsE (cn : Nat) := Fin cn × Option Addr × Nat
def LsP (N d cn : Nat) (x : LsE cn) (W : World) : Prop := IntsW W x.2.1 (lsL N d x.1.val) ∧ d ≤ x.2.2
def lsP {cn : Nat} (pre : List (LsE cn)) : List Nat := pre.map fun x => x.1.val
theorem lsP_snoc {cn : Nat} (pre : List (LsE cn)) (x : LsE cn) : lsP (pre ++ [x]) = lsP pre ++ [x.1.val] := by simp [lsP]
theorem lsP_len {cn k : Nat} {pre : List (LsE cn)} (h : lsP pre = List.range k) : pre.length = k := by
  have := congrArg List.length h
  simpa [lsP] using this
theorem intsW_grown {A : Option Addr} {xs : List Int} {W W' : World} {row : Option Nat} (h : IntsW W A xs) (hg : W.grownBy W' row) (hr : ∀ r, row = some r → ∃ o : Obj, W.heap[r]? = some o ∧ o.isCells = false) : IntsW W' A xs := by
  rcases h with rfl | ⟨b, o, rfl, hb, hc⟩
  · exact .inl rfl
  · exact .inr ⟨b, o, rfl, Nat.lt_of_lt_of_le hb hg.size, fun j hj => cell_kept (hc j hj) hg hr⟩
theorem lsP_own (N d cn B : Nat) : OwnFrom B (LsP N d cn) := fun _ _ _ _ hs hg hr => ⟨intsW_grown hs.1 hg fun r e => (hr r e).2, hs.2⟩

/-- The two boxes stay. -/
def BoxR (Bg Bd : Nat) (W W' : World) : Prop := (∀ v, W.cell? ⟨Bg, 0, none⟩ = some v → W'.cell? ⟨Bg, 0, none⟩ = some v) ∧ ∀ v, W.cell? ⟨Bd, 0, none⟩ = some v → W'.cell? ⟨Bd, 0, none⟩ = some v
theorem BoxR.refl (Bg Bd : Nat) (W : World) : BoxR Bg Bd W W := ⟨fun _ h => h, fun _ h => h⟩
theorem BoxR.trans {Bg Bd : Nat} {A B C : World} (h : BoxR Bg Bd A B) (k : BoxR Bg Bd B C) : BoxR Bg Bd A C := ⟨fun v hv => k.1 v (h.1 v hv), fun v hv => k.2 v (h.2 v hv)⟩
theorem BoxR.put {Bg Bd : Nat} (W : World) (l : Nat) (o o' : Obj) (h : W.heap[l]? = some o) (ho : o.isCells = false) : BoxR Bg Bd W (W.putObj l o') :=
  ⟨fun _ hv => cell_kept hv (grownBy_putObj' W l o') (fun r e => by cases e; exact ⟨o, h, ho⟩), fun _ hv => cell_kept hv (grownBy_putObj' W l o') (fun r e => by cases e; exact ⟨o, h, ho⟩)⟩
theorem BoxR.ex {Bg Bd : Nat} {W W' : World} (k : Ex W W') (hg : Bg < W.heap.size) (hd : Bd < W.heap.size) : BoxR Bg Bd W W' :=
  ⟨fun _ hv => (k.below.cell (p := ⟨Bg, 0, none⟩) hg).trans hv, fun _ hv => (k.below.cell (p := ⟨Bd, 0, none⟩) hd).trans hv⟩
theorem BoxR.of {Bg Bd : Nat} {e e' t t' : TypeId} {u v : Value} {W W' : World} (h1 : Has W Bg e #[u]) (h2 : Has W' Bg e' #[u]) (h3 : Has W Bd t #[v]) (h4 : Has W' Bd t' #[v]) : BoxR Bg Bd W W' :=
  ⟨fun x hx => by rw [h2.cell 0, ← hx, h1.cell 0], fun x hx => by rw [h4.cell 0, ← hx, h3.cell 0]⟩

set_option maxHeartbeats 400000 in
theorem listsOf_any (A : Option Addr) (N c d : Nat) (w : World) :
    Calls Tryz.prog 96 #[.agg #[.slice A N c], .int .i64 (d : Int)] w fun e w' => e = .returned (.func (.func 130) #[] #[.pointer (some ⟨w.heap.size, 0, none⟩), .pointer (some ⟨w.heap.size + 1, 0, none⟩)]) ∧ w' = (w.alloc (.cells #[.slice A N c] 32)).alloc (.cells #[.int .i64 (d : Int)] 2) := by
  have hmf : ∀ (fn : Fn) (first cap : Array Value) (w : World), (Instr.makeFunc fn first cap).run Tryz.prog w = .ok (.func fn first cap) w := fun _ _ _ _ => rfl
  go_enter Tryz.func96, Tryz.ntmps96
  go_wp2
  go_ret
  exact ⟨rfl, rfl⟩

set_option maxRecDepth 100000 in
set_option maxHeartbeats 2000000 in
theorem lists1_in (n : Nat) (hn : 1 ≤ n) (l Bg Bd n₀ N c d cn : Nat) (A : Option Addr) (J Jx : List (LsE cn) → World → Prop) (W : World) (hJ : AbidesFrom W.heap.size J)
    (hY : ∀ pre x W, J pre W → LsP N d cn x W → pre.length < cn → YieldAt Fence.wide (n - 1) Tryz.prog l #[.slice x.2.1 (lsL N d x.1.val).length x.2.2] W fun e W' =>
      (e = .returned (.bool true) ∧ J (pre ++ [x]) W' ∧ (Below n₀ W W' ∧ BoxR Bg Bd W W')) ∨ (e = .returned (.bool false) ∧ Jx (pre ++ [x]) W'))
    (hBg : W.cell? ⟨Bg, 0, none⟩ = some (.slice A N c)) (hBd : W.cell? ⟨Bd, 0, none⟩ = some (.int .i64 (d : Int))) (hN : N ≤ 8) (hN1 : 1 ≤ N) (hd : d ≤ 4) (hcn : cellsN N d = cn) (h0 : J [] W) :
    CallsIn Fence.wide n Tryz.prog 130 #[.func (.yield l) #[] #[], .pointer (some ⟨Bg, 0, none⟩), .pointer (some ⟨Bd, 0, none⟩)] W fun e W' => (∃ v, e = .returned v) ∧
      ((∃ ys, lsP ys = List.range cn ∧ J ys W') ∨ (∃ pre, (∃ k, k ≤ cn ∧ lsP pre = List.range k) ∧ Jx pre W')) := by
  have HY := Lib.hid hY
  have HJ := Lib.hid hJ
  have HCC := Lib.hid (fun W => hcn ▸ cellCount_any A N c d W hN hN1 hd)
  have hc24 : cn ≤ 2401 := hcn ▸ cellsN_le hN hd
  have HN2 : Hid (0 < cn → d = 0 ∨ 2 ≤ N) := Lib.hid (fun h => by
    rcases Nat.eq_zero_or_pos d with h0 | h0
    · exact .inl h0
    · right
      rcases Nat.lt_or_ge N 2 with hN | hN
      · rw [cellsN, show N - 1 = 0 by omega, Nat.zero_pow h0] at hcn
        omega
      · exact hN)
  have HLA := Lib.hid (fun (k : Nat) (hk : k < cn) W => listAt_c A N c d k W hN hN1 (HN2.out (by omega)) hd (by rw [hcn]; exact hk))
  clear hY hJ hcn
  refine callsIn_of_wp Tryz.func130 rfl trivial ?_ rfl
  simp only [Tryz.ntmps130, List.size_toArray, List.length_cons, List.length_nil, Nat.reduceAdd, Nat.reduceSub, Array.replicate_succ, Array.replicate_zero, List.push_toArray, List.append_toArray, List.nil_append, List.cons_append]
  gi_wp2_with fail
  refine ⟨trivial, (callsIn_wide.2 (HCC.out W)).mono ?_⟩
  rintro e W1 ⟨rfl, he1⟩
  have hlg := World.block_lt_of_cell? _ _ hBg
  have hld := World.block_lt_of_cell? _ _ hBd
  have hJ1 : J [] W1 := HJ.out [] W W1 none h0 (grown_of_ex he1) (by simp)
  have HZ1 := Lib.hid he1.size
  have hb1 : BoxR Bg Bd W W1 := BoxR.ex he1 hlg hld
  clear he1 h0
  gi_wp2_with fail
  gi_loopw [8] (fun i wr => ∃ (k : Nat) (pre : List (LsE cn)), k ≤ cn ∧ i = .int .i64 (k : Int) ∧ Hid (lsP pre = List.range k) ∧ J pre wr ∧ Hid (BoxR Bg Bd W wr) ∧ Hid (W.heap.size ≤ wr.heap.size)) (fun i _ => cn - (intOf i).toNat)
  case atStart => exact ⟨0, [], Nat.zero_le _, rfl, Lib.hid rfl, hJ1, Lib.hid hb1, HZ1⟩
  case round =>
    obtain ⟨k, pre, hk, rfl, HP, hJ, HR, HZ⟩ := hrel
    by_cases hlt : k < cn
    · have hcg := HR.out.1 _ hBg
      have hcd := HR.out.2 _ hBd
      have hlg2 := World.block_lt_of_cell? _ _ hcg
      have hld2 := World.block_lt_of_cell? _ _ hcd
      gi_wp2_with fail
      refine ⟨trivial, (callsIn_wide.2 (HLA.out k hlt wr)).mono ?_⟩
      rintro e W2 ⟨C0, e0, rfl, he2, ho2, hce⟩
      have hJ2 : J pre W2 := HJ.out pre wr W2 none hJ (grown_of_ex he2) (by simp)
      obtain ⟨fn, tmps, assign, body, hy, hR⟩ := HY.out pre (⟨k, hlt⟩, C0, e0) W2 hJ2 ⟨ho2.ints, hce⟩ (by rw [lsP_len HP.out]; exact hlt)
      have HP2 : Hid (lsP (pre ++ [((⟨k, hlt⟩, C0, e0) : LsE cn)]) = List.range (k + 1)) := Lib.hid (by rw [lsP_snoc, List.range_succ, HP.out])
      have hb2 : BoxR Bg Bd wr W2 := BoxR.ex he2 hlg2 hld2
      have hz2 := he2.size
      dsimp only at hy
      have HRR := Lib.hid hR
      clear hR ho2 he2 hJ
      clear hcg hcd
      gi_wp2
      refine HRR.out.mono ?_
      rintro e W3 (⟨rfl, hJ3, hk3⟩ | ⟨rfl, hJx3⟩)
      · gi_wp2
        go_roundw
        case rel => exact ⟨k + 1, pre ++ [(⟨k, hlt⟩, C0, e0)], by omega, by go_num, HP2, hJ3, Lib.hid ((HR.out.trans hb2).trans hk3.2), Lib.hid (Nat.le_trans HZ.out (Nat.le_trans hz2 hk3.1.size))⟩
        case measure => simp [intOf]; omega
      · gi_wp2
        refine bodyPost_ret (results_none rfl _ _ _) rfl ?_
        exact ⟨⟨_, rfl⟩, .inr ⟨_, ⟨k + 1, by omega, HP2.out⟩, hJx3⟩⟩
    · obtain rfl : k = cn := by omega
      gi_wp2
      go_end0
      exact ⟨⟨_, rfl⟩, .inl ⟨_, HP.out, hJ⟩⟩

/-- 'for list := range listsOf(g, n)'. -/
theorem lists_stops (n : Nat) (hn : 1 ≤ n) (Bg Bd n₀ N c d cn : Nat) (A : Option Addr) (w : World) (hg : Bg < w.heap.size) (hl : Bd < w.heap.size) (hBg : w.cell? ⟨Bg, 0, none⟩ = some (.slice A N c)) (hBd : w.cell? ⟨Bd, 0, none⟩ = some (.int .i64 (d : Int))) (hN : N ≤ 8) (hN1 : 1 ≤ N) (hd : d ≤ 4) (hcn : cellsN N d = cn) :
    SeqP n Tryz.prog 130 #[.pointer (some ⟨Bg, 0, none⟩), .pointer (some ⟨Bd, 0, none⟩)] (fun x : LsE cn => #[.slice x.2.1 (lsL N d x.1.val).length x.2.2]) (LsP N d cn) (fun A B => Below n₀ A B ∧ BoxR Bg Bd A B) (fun ys => lsP ys = List.range cn) (fun pre => ∃ k, k ≤ cn ∧ lsP pre = List.range k) cn w :=
  fun l J Jx W hW hJ _ hY h0 => lists1_in n hn l Bg Bd n₀ N c d cn A J Jx W hJ hY ((hW.cell (p := ⟨Bg, 0, none⟩) hg).trans hBg) ((hW.cell (p := ⟨Bd, 0, none⟩) hl).trans hBd) hN hN1 hd hcn h0

end Go.Proofs.YtcdijeeabgmgmaaGreatDoor

/- cochainWith: a cochain whose values a closure tells, whatever closure. -/
namespace Go.Proofs.YtcdijeeabgmgmaaGreatDoor
open Go.RowKit Go.Shelf

attribute [local go_sem] Oper.semAt_some

theorem Has.grownR {b : Nat} {e : TypeId} {cs : Array Value} {w w' : World} {row : Option Nat} (h : Has w b e cs) (hg : w.grownBy w' row) (hr : ∀ r, row = some r → ∃ o : Obj, w.heap[r]? = some o ∧ o.isCells = false) : Has w' b e cs :=
  has_own (β := Unit) b e (fun _ => cs) () w w' row h hg hr
theorem GrowI.grown {lo n : Nat} {v : Value} {xs : List Int} {w w' : World} {row : Option Nat} (h : GrowI w lo v n xs) (hg : w.grownBy w' row) (hr : ∀ r, row = some r → ∃ o : Obj, w.heap[r]? = some o ∧ o.isCells = false) : GrowI w' lo v n xs := by
  obtain ⟨⟨h1, h2⟩, h3⟩ := h
  refine ⟨⟨h1, ?_⟩, h3⟩
  rcases h2 with h2 | ⟨g, cap, cur, hv, hl, hc, hrest⟩
  · exact .inl h2
  · refine .inr ⟨g, cap, cur, hv, hl, (hg.block g (Array.getElem?_eq_some_iff.1 hc).1 (fun e => ?_)).trans hc, hrest⟩
    obtain ⟨o, ho, hoc⟩ := hr g e.symm
    rw [hc] at ho
    cases ho
    cases hoc
theorem GrowI.made (n : Nat) (hn : n ≤ 1048576) {lo : Nat} (w : World) (h : lo ≤ w.heap.size) : GrowI (w.alloc (.cells (tab n fun _ => .int .i64 0) 2)) lo (.slice (some ⟨w.heap.size, 0, none⟩) 0 n) 0 [] :=
  ⟨⟨rfl, .inr ⟨_, n, _, rfl, h, Has.new w 2 (tab n fun _ => .int .i64 0), Nat.zero_le _, by unfold maxLen; omega, by simp [tab_size], by simp⟩⟩, rfl⟩
theorem GrowI.block {lo n : Nat} {v : Value} {xs : List Int} {w : World} {k : Nat} (h : GrowI w lo v n xs) (hk : v.ownBlock = some k) : lo ≤ k ∧ ∃ cs, w.heap[k]? = some (.cells cs 2 (0, 0)) := by
  rcases h.1.2 with ⟨rfl, _⟩ | ⟨g, cap, cur, rfl, hl, hc, _⟩
  · cases hk
  · cases hk
    exact ⟨hl, cur, hc⟩
theorem Keeps.grew {n₀ lo n : Nat} {v : Value} {xs : List Int} {W w1 w3 : World} (h : Keeps n₀ W w1) (g : GrowI w1 lo v n xs) (hl : n₀ ≤ lo) (hs : n₀ ≤ w1.heap.size) (hg : w1.grownBy w3 v.ownBlock) : Keeps n₀ W w3 :=
  ⟨h.1.grown hg hs (fun k e => Nat.le_trans hl (g.block e).1), h.2.trans ⟨hg.size, fun k o _ hk ho => (hg.block k (Array.getElem?_eq_some_iff.1 hk).1 (fun e => by
    obtain ⟨_, cs, hc⟩ := g.block e.symm
    rw [hk] at hc
    cases hc
    cases ho)).trans hk⟩⟩
theorem makeCap (n : Nat) (hn : n ≤ 1048576) (w : World) :
    (Instr.makeSlice 25 (.int .i64 0) (.int .i64 (n : Int))).run Tryz.prog w = .ok (.slice (some ⟨w.heap.size, 0, none⟩) 0 n) (w.alloc (.cells (tab n fun _ => .int .i64 0) 2)) := by
  obtain ⟨i0, hi, hz0, hz1, hz2⟩ := info_parts infoI
  have hr := run_make (P := Tryz.prog) w 25 2 i0 _ Tryz.underlying25 hi hz0 .i64 .i64 0 n (by omega) (by omega) (by rw [hz2]; omega) (by omega)
  rw [hr, hz1, madeCells_one _ _ rfl]
  simp

set_option maxRecDepth 100000 in
set_option maxHeartbeats 4000000 in
theorem cochainWith_any (A : Option Addr) (N c d kf : Nat) (cap : Array Value) (V : Nat → Int) (w : World) (hN : N ≤ 8) (hN1 : 1 ≤ N) (hd : d ≤ 4)
    (eg : ∀ args w, (callFunc kf args).run Tryz.prog w = .ok (.enter kf args) w)
    (hF : ∀ W', Ex w W' → ∀ k, k < cellsN N d → ∀ (B : Option Addr) (e : Nat), IntsW W' B (lsL N d k) → d ≤ e → Calls Tryz.prog kf (#[.slice B (lsL N d k).length e] ++ cap) W' fun e w' => e = .returned (.int .i64 (V k)) ∧ Ex W' w') :
    Calls Tryz.prog 60 #[.agg #[.slice A N c], .int .i64 (d : Int), .func (.func kf) #[] cap] w fun e w' => ∃ A' n', e = .returned (.agg #[.int .i64 (d : Int), .slice A' (cellsN N d) n']) ∧ Ex w w' ∧ OwnL w' w.heap.size w'.heap.size A' ((List.range (cellsN N d)).map V) := by
  have HCC := Lib.hid (fun W => cellCount_any A N c d W hN hN1 hd)
  have hc24 := cellsN_le hN hd
  have HF := Lib.hid hF
  have HEG := Lib.hid eg
  obtain ⟨cn, hcn⟩ : ∃ cn, cellsN N d = cn := ⟨_, rfl⟩
  have HCN := Lib.hid hcn
  rw [hcn] at HCC hc24 HF ⊢
  have hmk := makeCap cn (by omega)
  clear hF eg hcn
  obtain ⟨i0, hi, hi0, hi1, hi2⟩ := info_parts infoI
  have e0 : Ex w (((w.alloc (.cells #[.slice A N c] 32)).alloc (.cells #[.func (.func kf) #[] cap] 100)).alloc (.cells #[.int .i64 0, .slice none 0 0] 34)) := (((Ex.refl w).alloc _).alloc _).alloc _
  have b0 : Has (((w.alloc (.cells #[.slice A N c] 32)).alloc (.cells #[.func (.func kf) #[] cap] 100)).alloc (.cells #[.int .i64 0, .slice none 0 0] 34)) (w.heap.size) 32 #[.slice A N c] := (((Has.newAt (w := w) (e := 32) (cs := #[.slice A N c]) (k := w.heap.size) (by simp)).alloc _).alloc _)
  have b1 : Has (((w.alloc (.cells #[.slice A N c] 32)).alloc (.cells #[.func (.func kf) #[] cap] 100)).alloc (.cells #[.int .i64 0, .slice none 0 0] 34)) (w.heap.size + 1) 100 #[.func (.func kf) #[] cap] := ((Has.newAt (w := (w.alloc (.cells #[.slice A N c] 32))) (e := 100) (cs := #[.func (.func kf) #[] cap]) (k := w.heap.size + 1) (by simp)).alloc _)
  have b2 : Has (((w.alloc (.cells #[.slice A N c] 32)).alloc (.cells #[.func (.func kf) #[] cap] 100)).alloc (.cells #[.int .i64 0, .slice none 0 0] 34)) (w.heap.size + 1 + 1) 34 #[.int .i64 0, .slice none 0 0] := (Has.newAt (w := ((w.alloc (.cells #[.slice A N c] 32)).alloc (.cells #[.func (.func kf) #[] cap] 100))) (e := 34) (cs := #[.int .i64 0, .slice none 0 0]) (k := w.heap.size + 1 + 1) (by simp))
  refine (callsIn_wide (n := 20)).1 ?_
  refine callsIn_of_wp_marks Tryz.func60 rfl trivial ?_ rfl
  simp only [Tryz.ntmps60, List.size_toArray, List.length_cons, List.length_nil, Nat.reduceAdd, Nat.reduceSub, Array.replicate_succ, Array.replicate_zero, List.push_toArray, List.append_toArray, List.nil_append, List.cons_append]
  refine wpIn_wide.2 ?_
  go_wp2_with fail
  generalize (((w.alloc (.cells #[.slice A N c] 32)).alloc (.cells #[.func (.func kf) #[] cap] 100)).alloc (.cells #[.int .i64 0, .slice none 0 0] 34)) = W0 at *
  refine (HCC.out W0).mono ?_
  rintro e W1 ⟨rfl, he1⟩
  have HB0 := Lib.hid (b0.ex he1)
  have HB1 := Lib.hid (b1.ex he1)
  have HB2 := Lib.hid (b2.ex he1)
  have hz1 := (b2.ex he1).lt
  have HE1 := Lib.hid (e0.trans he1)
  have c0 := (Has.ex (b0.ex he1) (((Ex.new W1 (.cells (tab cn fun _ => .int .i64 0) 2)).alloc (.cells #[.int .i64 (d : Int), .slice (some ⟨W1.heap.size, 0, none⟩) 0 cn] 34)))).cell 0
  clear b0 b1 b2 e0 he1
  go_wp2_with fail
  refine (listsOf_any A N c d _).mono ?_
  rintro e w' ⟨rfl, rfl⟩
  obtain ⟨D, hD⟩ : ∃ D, W1.heap.size = D := ⟨_, rfl⟩
  have HDD := Lib.hid hD
  obtain ⟨W2, hW2⟩ : ∃ W2, (W1.alloc (.cells (tab cn fun _ => .int .i64 0) 2)).alloc (.cells #[.int .i64 (d : Int), .slice (some ⟨D, 0, none⟩) 0 cn] 34) = W2 := ⟨_, rfl⟩
  have hz2 : W2.heap.size = D + 1 + 1 := by rw [← hW2]; simp [hD]
  have e2 : Ex W1 W2 := by rw [← hW2]; exact (Ex.new _ _).alloc _
  have g2 : GrowI W2 (w.heap.size + 1 + 1 + 1) (.slice (some ⟨D, 0, none⟩) 0 cn) 0 [] := by
    rw [← hW2, ← hD]
    exact (GrowI.made cn (by omega) W1 (by omega)).ex (Ex.new _ _)
  have bO2 : Has W2 (D + 1) 34 #[.int .i64 (d : Int), .slice (some ⟨D, 0, none⟩) 0 cn] := by rw [← hW2]; exact Has.newAt (by simp [hD])
  rw [hD, hW2]
  clear hW2 c0 hmk
  obtain ⟨W3, hW3⟩ : ∃ W3, (W2.alloc (.cells #[.slice A N c] 32)).alloc (.cells #[.int .i64 (d : Int)] 2) = W3 := ⟨_, rfl⟩
  have e3 : Ex W2 W3 := by rw [← hW3]; exact (Ex.new _ _).alloc _
  have bG : Has W3 (D + 1 + 1) 32 #[.slice A N c] := by rw [← hW3]; exact (Has.newAt hz2).alloc _
  have bN : Has W3 (D + 1 + 1 + 1) 2 #[.int .i64 (d : Int)] := by rw [← hW3]; exact Has.newAt (by simp [hz2])
  have bO := bO2.ex e3
  have g3 := g2.ex e3
  have bF := HB1.out.ex (e2.trans e3)
  have bR := HB2.out.ex (e2.trans e3)
  have HE3 := Lib.hid (HE1.out.trans (e2.trans e3))
  rw [hD] at hz1
  rw [hW3]
  have HZ2 := Lib.hid hz2
  clear hW3 e2 e3 bO2 g2 hz2 hD HB0 HB1 HB2 HE1 HCC
  go_wp2_with fail
  rw [HZ2.out]
  refine (wpIn_wide (n := 20)).1 ?_
  refine range_topP (n := 20) (n₀ := w.heap.size + 1 + 1 + 1) (R := BoxR (D + 1 + 1) (D + 1 + 1 + 1)) BoxR.trans BoxR.put (by omega) (gf := 130) (lb := #[.pointer (some ⟨D + 1 + 1, 0, none⟩), .pointer (some ⟨D + 1 + 1 + 1, 0, none⟩)]) rfl (enters_of Tryz.func130 (by kernel_rfl) rfl)
    (lists_stops 19 (by omega) (D + 1 + 1) (D + 1 + 1 + 1) (w.heap.size + 1 + 1 + 1) N c d cn A W3 bG.lt bN.lt (bG.cell 0) (bN.cell 0) hN hN1 hd HCN.out) (by have := bN.lt; omega) (fun _ => rfl)
    (fun pre W => Has W (D + 1) 34 #[.int .i64 (d : Int), .slice (some ⟨D, 0, none⟩) pre.length cn] ∧ GrowI W (w.heap.size + 1 + 1 + 1) (.slice (some ⟨D, 0, none⟩) pre.length cn) pre.length ((lsP pre).map V) ∧ Has W (w.heap.size + 1) 100 #[.func (.func kf) #[] cap] ∧ Has W (D + 1 + 1) 32 #[.slice A N c] ∧ Has W (D + 1 + 1 + 1) 2 #[.int .i64 (d : Int)])
    (fun _ _ _ => False)
    (fun _ _ _ _ ⟨h1, h2, h3, h4, h5⟩ hg hr => have hr' := fun r e => (hr r e).2; ⟨h1.grownR hg hr', h2.grown hg hr', h3.grownR hg hr', h4.grownR hg hr', h5.grownR hg hr'⟩)
    (fun _ => ownFrom_pure _ _) (lsP_own N d cn _)
    ⟨bO, g3, bF, bG, bN⟩ ?round ?done ?stop
  case stop =>
    rintro D' c' pre W hD hpre h
    exact h.elim
  case done =>
    rintro D' xs W hD' hxs ⟨cO, cG, -, -, -⟩ hKW hK
    have hl := lsP_len hxs
    rw [hl] at cO cG
    rw [hxs] at cG
    have hB2 : Has W (w.heap.size + 1 + 1) 34 #[.int .i64 0, .slice none 0 0] := bR.below hKW.1 (by omega)
    have hord := cO.cell 0
    have hord' := cO.cell 1
    have cr := hB2.cell 0
    have cr' := hB2.cell 1
    have fr := hB2.free 0
    have fr' := hB2.free 1
    have HKW := Lib.hid hKW
    have HBR := Lib.hid hB2
    have HGG := Lib.hid cG
    have HKD := Lib.hid hK
    clear bG bN bO g3 bF bR cO cG hKW hB2 hl hK
    simp only [Exit.inBlock, Exit.then]
    go_wp2_with fail
    have hz6 := HE3.out.size
    have hne : w.heap.size + 1 + 1 ≠ D' := by have := HKW.out.size; have := HBR.out.lt; intro e; have h1 := HBR.out; have h2 := HKD.out; rw [← e, show W.heap[w.heap.size + 1 + 1]? = _ from h1] at h2; cases h2
    have hK' : ((W.setCell ⟨w.heap.size + 1 + 1, 0, none⟩ (.int .i64 (d : Int))).setCell ⟨w.heap.size + 1 + 1, 1, none⟩ (.slice (some ⟨D, 0, none⟩) cn cn)).heap[D']? = some (.deferred (some [])) :=
      (Below.heap_setCell _ _ _ D' (fun e => hne e.symm)).trans ((Below.heap_setCell _ _ _ D' (fun e => hne e.symm)).trans HKD.out)
    refine ⟨by simp, .inl ⟨_, _, rfl, run_takeDeferred hK', ?_⟩⟩
    have hRs : Has ((W.setCell ⟨w.heap.size + 1 + 1, 0, none⟩ (.int .i64 (d : Int))).setCell ⟨w.heap.size + 1 + 1, 1, none⟩ (.slice (some ⟨D, 0, none⟩) cn cn)) (w.heap.size + 1 + 1) 34 #[.int .i64 (d : Int), .slice (some ⟨D, 0, none⟩) cn cn] := HBR.out.put2
    have hGs := (HGG.out.set HBR.out (by decide) 0 (.int .i64 (d : Int))).set (HBR.out.put 0 (.int .i64 (d : Int))) (by decide) 1 (.slice (some ⟨D, 0, none⟩) cn cn)
    have hEs : Ex w ((W.setCell ⟨w.heap.size + 1 + 1, 0, none⟩ (.int .i64 (d : Int))).setCell ⟨w.heap.size + 1 + 1, 1, none⟩ (.slice (some ⟨D, 0, none⟩) cn cn)) :=
      ((HE3.out.trans' HKW.out.1 (by omega)).setCell (by show w.heap.size ≤ w.heap.size + 1 + 1; omega) _).setCell (by show w.heap.size ≤ w.heap.size + 1 + 1; omega) _
    generalize ((W.setCell ⟨w.heap.size + 1 + 1, 0, none⟩ (.int .i64 (d : Int))).setCell ⟨w.heap.size + 1 + 1, 1, none⟩ (.slice (some ⟨D, 0, none⟩) cn cn)) = Ws at *
    have hg8 := grownBy_putObj' Ws D' (.deferred none)
    have hr8 : ∀ r, some D' = some r → ∃ o : Obj, Ws.heap[r]? = some o ∧ o.isCells = false := fun r e => by cases e; exact ⟨_, hK', rfl⟩
    have hR8 := hRs.grownR hg8 hr8
    have hG8 := hGs.grown hg8 hr8
    have c8 := hR8.cell 0
    have c8' := hR8.cell 1
    obtain ⟨A2, n2, e2, hO⟩ := hG8.own
    simp only [Value.slice.injEq] at e2
    obtain ⟨rfl, _, rfl⟩ := e2
    refine ⟨.agg #[.int .i64 (d : Int), .slice (some ⟨D, 0, none⟩) cn cn], by simp [results, Tryz.results60, go_sem, c8, c8'], _, _, rfl, Below.grown hEs hg8 hEs.size (fun k hk => by cases hk; omega), hO.mono (by omega) (Nat.le_refl _) (Nat.le_refl _)⟩
  case round =>
    clear bG bN bO g3 bF bR
    intro l x W K hK
    have HK := Lib.hid hK
    clear hK
    gi_wp2
    refine HK.out _ ?_
    clear HK
    rintro l pre W hr ⟨bO, g3, bF, bG, bN⟩ hP hKW hlt
    obtain ⟨⟨k, hk⟩, B, e⟩ := x
    dsimp only
    clear hr
    have HKW := Lib.hid hKW
    have HBO := Lib.hid bO
    have HBF := Lib.hid bF
    have HBG := Lib.hid bG
    have HBN := Lib.hid bN
    have HG3 := Lib.hid g3
    have HP := Lib.hid hP
    have hEW : Ex w W := HE3.out.trans' hKW.1 (by omega)
    have HEW := Lib.hid hEW
    have hzw : w.heap.size + 1 + 1 + 1 ≤ W.heap.size := by have := bO.lt; omega
    have cO := bO.cell 1
    have cF := bF.cell 0
    have HV : Hid ((lsP (pre ++ [((⟨k, hk⟩, B, e) : LsE cn)])).map V = (lsP pre).map V ++ [V k]) := Lib.hid (by rw [lsP_snoc]; simp)
    have HPL : Hid ((pre ++ [((⟨k, hk⟩, B, e) : LsE cn)]).length = pre.length + 1) := Lib.hid (by simp)
    obtain ⟨z, hz⟩ : ∃ z, V k = z := ⟨_, rfl⟩
    have HC := Lib.hid (hz ▸ HF.out W.drew hEW.drew k hk B e (hP.1.ex (Ex.refl W).drew) hP.2)
    rw [hz] at HV
    clear bO bF bG bN g3 hP hKW hEW hz
    gi_wp2_with fail
    refine Late.round (C := fun w' : World => w'.cell? ⟨D + 1, 1, none⟩ = some (.slice (some ⟨D, 0, none⟩) pre.length cn) ∧ w'.cell? ⟨w.heap.size + 1, 0, none⟩ = some (.func (.func kf) #[] cap))
      (fun j => decide (j < 7)) (by kernel_rfl) (by rfl) (by rintro ⟨_, _, h⟩; exact h) ⟨cO, cF⟩ ?_
    intro hS
    refine Late.take (i := 0) (oi := _) (v := ?_) rfl (by kernel_rfl) (by kernel_rfl) (by kernel_rfl) (by kernel_rfl) (fun _ _ _ h => h) (Or.inl ⟨by rfl, ?_⟩) hS ?_
    rotate_left
    · (intro w hSw; (try dsimp only at hSw); go_simp; first | done | with_reducible rfl)
    simp only [Act.put]
    refine Late.take (i := 1) (oi := _) (v := ?_) rfl (by kernel_rfl) (by kernel_rfl) (by kernel_rfl) (by kernel_rfl) (fun _ _ _ h => h) (Or.inl ⟨by rfl, ?_⟩) hS ?_
    rotate_left
    · (intro w hSw; (try dsimp only at hSw); go_simp; first | done | with_reducible rfl)
    simp only [Act.put]
    refine Late.take (i := 2) (oi := _) (v := ?_) rfl (by kernel_rfl) (by kernel_rfl) (by kernel_rfl) (by kernel_rfl) (fun _ _ _ h => h) (Or.inl ⟨by rfl, ?_⟩) hS ?_
    rotate_left
    · (intro w hSw; (try dsimp only at hSw); go_simp; first | done | with_reducible rfl)
    simp only [Act.put]
    refine Late.take (i := 3) (oi := _) (v := ?_) rfl (by kernel_rfl) (by kernel_rfl) (by kernel_rfl) (by kernel_rfl) (fun _ _ _ h => h) (Or.inl ⟨by rfl, ?_⟩) hS ?_
    rotate_left
    · (intro w hSw; (try dsimp only at hSw); go_simp; first | done | with_reducible rfl)
    simp only [Act.put]
    refine Late.one (i := 4) (o := _) (by kernel_rfl) rfl (fun K' hK' => ?_)
    rw [if_pos (by rfl)]
    have hegw := HEG.out
    go_simp
    clear hegw
    refine HC.out.mono ?_
    rintro e6 W6 ⟨rfl, he6⟩
    have hx6 : Ex W W6 := (Ex.refl W).drew.trans he6
    have hk6 : Keeps (w.heap.size + 1 + 1 + 1) W W6 := Keeps.of_below hx6 hzw
    have hO6 := HBO.out.ex hx6
    have hF6 := HBF.out.ex hx6
    have hG6 := HBG.out.ex hx6
    have hN6 := HBN.out.ex hx6
    have g6 := HG3.out.ex hx6
    have hz6 := hx6.size
    refine hK'.out _ _ (fun _ => ⟨hO6.cell 1, hF6.cell 0⟩) (fun _ => ?_)
    clear hK' K'
    try simp only [Act.put]
    refine Late.one (i := 5) (o := _) (by kernel_rfl) rfl (fun K' hK' => ?_)
    go_simp
    have hk1 := hk6.alloc (by omega) (.cells #[.int .i64 z] 2)
    have hO1 := hO6.alloc (.cells #[.int .i64 z] 2)
    have hF1 := hF6.alloc (.cells #[.int .i64 z] 2)
    have hG1 := hG6.alloc (.cells #[.int .i64 z] 2)
    have hQ1 := hN6.alloc (.cells #[.int .i64 z] 2)
    have g1 := g6.ex (Ex.new W6 (.cells #[.int .i64 z] 2))
    have hn1 := cell_one_new W6 (.int .i64 z) 2
    have hz1' : W6.heap.size + 1 = (W6.alloc (.cells #[.int .i64 z] 2)).heap.size := by simp
    refine hK'.out _ _ (fun _ => ⟨hO1.cell 1, hF1.cell 0⟩) (fun _ => ?_)
    clear hK' K'
    generalize W6.alloc (.cells #[.int .i64 z] 2) = w1 at *
    try simp only [Act.put]
    refine Late.one (i := 6) (o := _) (by kernel_rfl) rfl (fun K' hK' => ?_)
    rw [if_pos (by rfl)]
    refine wp_append_own_spare _ _ _ 25 rfl (w.heap.size + 1 + 1 + 1) 2 i0 1 Tryz.underlying25 hi hi1 D pre.length cn _ rfl g1.1 ⟨W6.heap.size, 0, none⟩ 1 1 [.int .i64 z] rfl rfl hn1 (by simp [Value.oneCell']) (by omega) ?_
    intro w3 hown3 hgrow3
    have hk3 : Keeps (w.heap.size + 1 + 1 + 1) W w3 := hk1.grew g1 (Nat.le_refl _) (by omega) hgrow3
    have hO3 : Has w3 _ _ _ := (hgrow3.block (D + 1) hO1.lt (by simp)).trans hO1
    have hF3 : Has w3 _ _ _ := (hgrow3.block (w.heap.size + 1) hF1.lt (by simp; omega)).trans hF1
    have hG3 : Has w3 _ _ _ := (hgrow3.block (D + 1 + 1) hG1.lt (by simp; omega)).trans hG1
    have hN3 : Has w3 _ _ _ := (hgrow3.block (D + 1 + 1 + 1) hQ1.lt (by simp; omega)).trans hQ1
    have g3 := g1.snoc hown3
    have c33 := hO3.cell 1
    have f33 := hO3.free 1
    refine hK'.out _ _ (fun _ => ⟨hO3.cell 1, hF3.cell 0⟩) (fun _ => ?_)
    clear hK' K'
    try simp only [Act.put]
    refine Late.one (i := 7) (o := _) (by kernel_rfl) rfl (fun K' hK' => ?_)
    go_simp
    refine hK'.out _ _ (fun h => by cases h) (fun _ => ?_)
    clear hK' K'
    try simp only [Act.put]
    refine Late.one (i := 8) (o := _) (by kernel_rfl) rfl (fun K' hK' => ?_)
    go_simp
    refine hK'.out _ _ (fun h => by cases h) (fun _ => ?_)
    clear hK' K'
    refine Late.done (by kernel_rfl) ?_ _
    have hO9 := hO3.put 1 (.slice (some ⟨D, 0, none⟩) (pre.length + 1) cn)
    have hF9 := hF3.far (p := ⟨D + 1, 1, none⟩) (by show w.heap.size + 1 ≠ D + 1; omega) (.slice (some ⟨D, 0, none⟩) (pre.length + 1) cn)
    have hG9 := hG3.far (p := ⟨D + 1, 1, none⟩) (by show D + 1 + 1 ≠ D + 1; omega) (.slice (some ⟨D, 0, none⟩) (pre.length + 1) cn)
    have hN9 := hN3.far (p := ⟨D + 1, 1, none⟩) (by show D + 1 + 1 + 1 ≠ D + 1; omega) (.slice (some ⟨D, 0, none⟩) (pre.length + 1) cn)
    have g9 := g3.set hO3 (by decide) 1 (.slice (some ⟨D, 0, none⟩) (pre.length + 1) cn)
    show _ ∧ _ ∧ _ ∧ _ ∧ _ ∧ _ ∧ _
    rw [HV.out, HPL.out]
    exact ⟨hk3.setCell (p := ⟨D + 1, 1, none⟩) (by show w.heap.size + 1 + 1 + 1 ≤ D + 1; omega) _, BoxR.of HBG.out hG9 HBN.out hN9, by simpa using hO9, g9, hF9, hG9, hN9⟩

end Go.Proofs.YtcdijeeabgmgmaaGreatDoor
