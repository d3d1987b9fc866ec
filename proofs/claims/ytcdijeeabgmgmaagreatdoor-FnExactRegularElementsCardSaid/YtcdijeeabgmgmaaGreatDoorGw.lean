/- newTable and groupWith: rows that are parts of one block. -/
import Derived.IntWalk
import Derived.Test.YtcdijeeabgmgmaaGreatDoorTb
import Derived.Test.YtcdijeeabgmgmaaGreatDoorLst
namespace Go.Proofs.YtcdijeeabgmgmaaGreatDoor
open Go.RowKit Go.Shelf

attribute [local go_sem] Oper.semAt_some

open Classical in
/-- A function's values where a place was met, 0 elsewhere. -/
noncomputable def tabP (n : Nat) (S : Nat → Prop) (f : Nat → Int) : Array Value := tab n fun p => .int .i64 (if S p then f p else 0)
section
variable {n : Nat} {S S' : Nat → Prop} {f g : Nat → Int}
theorem tabP_none (h : ∀ p, p < n → ¬ S p) : tabP n S f = tab n fun _ => .int .i64 0 := by
  unfold tabP
  exact tab_congr fun p hp => by rw [if_neg (h p hp)]
theorem tabP_get {p : Nat} (h : p < n) : ∃ v, (tabP n S f)[p]? = some (.int .i64 v) := ⟨_, tab_get h⟩
theorem tabP_put {k : Nat} (hk : k < n) : (tabP n S f).setIfInBounds k (.int .i64 (f k)) = tabP n (fun p => S p ∨ p = k) f := by
  unfold tabP
  rw [tab_set hk]
  refine tab_congr fun j hj => ?_
  by_cases hjk : j = k
  · subst hjk
    rw [if_pos rfl, if_pos (Or.inr rfl)]
  · rw [if_neg hjk]
    by_cases hs : S j
    · rw [if_pos hs, if_pos (Or.inl hs)]
    · rw [if_neg hs, if_neg (fun h => h.elim hs hjk)]
theorem tabP_congr (h : ∀ p, p < n → (S p ↔ S' p)) : tabP n S f = tabP n S' f := by
  unfold tabP
  refine tab_congr fun p hp => ?_
  by_cases hs : S p
  · rw [if_pos hs, if_pos ((h p hp).1 hs)]
  · rw [if_neg hs, if_neg fun h' => hs ((h p hp).2 h')]
theorem tabP_all (h : ∀ p, p < n → S p) : tabP n S f = tab n fun p => .int .i64 (f p) := by
  unfold tabP
  exact tab_congr fun p hp => by rw [if_pos (h p hp)]
end

/-- The cells of rows that were met. -/
def metR {N : Nat} (pre : List (Fin N)) (p : Nat) : Prop := ∃ x ∈ pre, x.val = p / N
/-- .. and those of one row more, as far as it was met. -/
def metC {N : Nat} (pre : List (Fin N)) (a : Nat) (pre2 : List (Fin N)) (p : Nat) : Prop := metR pre p ∨ (p / N = a ∧ ∃ y ∈ pre2, y.val = p % N)
section
variable {N : Nat}
theorem metR_nil (p : Nat) : ¬ metR (N := N) [] p := by rintro ⟨x, hx, _⟩; cases hx
theorem metC_nil (pre : List (Fin N)) (a p : Nat) : metC pre a [] p ↔ metR pre p :=
  ⟨fun h => h.elim id (fun h => by obtain ⟨_, y, hy, _⟩ := h; cases hy), fun h => .inl h⟩
theorem metR_all {p : Nat} (hp : p < N * N) : metR (List.finRange N) p := ⟨⟨p / N, Nat.div_lt_of_lt_mul hp⟩, List.mem_finRange _, rfl⟩
theorem metC_all (pre : List (Fin N)) (a : Nat) (ha : a < N) (p : Nat) : metC pre a (List.finRange N) p ↔ metR (pre ++ [⟨a, ha⟩]) p := by
  constructor
  · rintro (⟨x, hx, e⟩ | ⟨e, _⟩)
    · exact ⟨x, List.mem_append.2 (.inl hx), e⟩
    · exact ⟨⟨a, ha⟩, by simp, e.symm⟩
  · rintro ⟨x, hx, e⟩
    rcases List.mem_append.1 hx with hx | hx
    · exact .inl ⟨x, hx, e⟩
    · simp at hx
      subst hx
      exact .inr ⟨e.symm, ⟨p % N, Nat.mod_lt _ (by omega)⟩, List.mem_finRange _, rfl⟩
theorem div_of {a b : Nat} (hb : b < N) : (a * N + b) / N = a := by rw [Nat.mul_comm, Nat.mul_add_div (by omega), Nat.div_eq_of_lt hb, Nat.add_zero]
theorem mod_of {a b : Nat} (hb : b < N) : (a * N + b) % N = b := by rw [Nat.mul_comm, Nat.mul_add_mod, Nat.mod_eq_of_lt hb]
theorem cell_ltT {a b : Nat} (ha : a < N) (hb : b < N) : a * N + b < N * N := by
  have : (a + 1) * N ≤ N * N := Nat.mul_le_mul_right N ha
  rw [Nat.succ_mul] at this
  omega
theorem metC_snoc (pre pre2 : List (Fin N)) (a b : Nat) (hb : b < N) (p : Nat) : (metC pre a pre2 p ∨ p = a * N + b) ↔ metC pre a (pre2 ++ [⟨b, hb⟩]) p := by
  constructor
  · rintro ((h | ⟨e, y, hy, ey⟩) | rfl)
    · exact .inl h
    · exact .inr ⟨e, y, List.mem_append.2 (.inl hy), ey⟩
    · exact .inr ⟨div_of hb, ⟨b, hb⟩, by simp, (mod_of hb).symm⟩
  · rintro (h | ⟨e, y, hy, ey⟩)
    · exact .inl (.inl h)
    · rcases List.mem_append.1 hy with hy | hy
      · exact .inl (.inr ⟨e, y, hy, ey⟩)
      · simp at hy
        subst hy
        refine .inr ?_
        have h := Nat.div_add_mod p N
        rw [e, ← ey, Nat.mul_comm] at h
        exact h.symm
end

/-- The rows' slices. -/
def rowsV (G N : Nat) : Array Value := tab N fun i => .slice (some ⟨G, i * N, none⟩) N N

set_option maxRecDepth 100000 in
set_option maxHeartbeats 4000000 in
theorem newTable_any (N : Nat) (hN : N ≤ 1000) (w : World) :
    Calls Tryz.prog 128 #[.int .i64 (N : Int)] w fun e w' => e = .returned (.slice (some ⟨w.heap.size + 1, 0, none⟩) N N) ∧ Ex w w' ∧ Has w' w.heap.size 2 (tab (N * N) fun _ => .int .i64 0) ∧ Has w' (w.heap.size + 1) 25 (rowsV w.heap.size N) := by
  have hNN : N * N ≤ 1000000 := Nat.le_trans (Nat.mul_le_mul hN hN) (by omega)
  obtain ⟨K, hK⟩ : ∃ K, N * N = K := ⟨_, rfl⟩
  have hKi : (N : Int) * (N : Int) = (K : Int) := by rw [← hK]; simp
  have HK := Lib.hid hK
  rw [hK] at hNN ⊢
  have hw1 : IntKind.i64.wrap (K : Int) = (K : Int) := IntWalk.i64_in _ (by omega)
  have hm1 := makeI K (by omega)
  have hm2 := makeS N (by omega)
  have hb1 := (Has.new w 2 (tab K fun _ => .int .i64 0)).alloc (.cells (tab N fun _ => .slice none 0 0) 25)
  have hb2 : Has ((w.alloc (.cells (tab K fun _ => .int .i64 0) 2)).alloc (.cells (tab N fun _ => .slice none 0 0) 25)) (w.heap.size + 1) 25 (tab N fun _ => .slice none 0 0) := Has.newAt (by simp)
  have he : Ex w ((w.alloc (.cells (tab K fun _ => .int .i64 0) 2)).alloc (.cells (tab N fun _ => .slice none 0 0) 25)) := ((Ex.refl w).alloc _).alloc _
  clear hK
  go_enter Tryz.func128, Tryz.ntmps128
  go_wp2_with fail
  generalize (w.alloc (.cells (tab K fun _ => .int .i64 0) 2)).alloc (.cells (tab N fun _ => .slice none 0 0) 25) = W0 at *
  have HB1 := Lib.hid hb1
  have HB2 := Lib.hid hb2
  have HE := Lib.hid he
  obtain ⟨g, hg⟩ : ∃ g, w.heap.size = g := ⟨_, rfl⟩
  have HGG := Lib.hid hg
  rw [hg] at HB1 HB2 ⊢
  clear hb1 hb2 he hm1 hm2 hg hKi hw1
  go_loopw [13] (fun i wr => ∃ k : Nat, k ≤ N ∧ i = .int .i64 (k : Int) ∧ Hid (Ex w wr) ∧ Hid (Has wr g 2 (tab K fun _ => .int .i64 0)) ∧ Hid (Has wr (g + 1) 25 (tab N fun p => if p < k then .slice (some ⟨g, p * N, none⟩) N N else .slice none 0 0))) (fun i _ => N - (intOf i).toNat)
  case atStart => exact ⟨0, Nat.zero_le _, rfl, HE, HB1, Lib.hid (by simpa using HB2.out)⟩
  case round =>
    obtain ⟨k, hk, rfl, HE1, HA, HB⟩ := hrel
    by_cases hlt : k < N
    · have hkN : k * N + N ≤ K := by
        have : (k + 1) * N ≤ N * N := Nat.mul_le_mul_right N hlt
        rw [Nat.succ_mul, HK.out] at this
        exact this
      obtain ⟨s, hs⟩ : ∃ s, k * N = s := ⟨_, rfl⟩
      rw [hs] at hkN
      have hsi : (k : Int) * (N : Int) = (s : Int) := by rw [← hs]; simp
      have hsi1 : ((k : Int) + 1) * (N : Int) = ((s + N : Nat) : Int) := by rw [← hs]; simp [Int.add_mul]
      have HS := Lib.hid hs
      have hw1 : IntKind.i64.wrap (s : Int) = (s : Int) := IntWalk.i64_in _ (by omega)
      have hw2 : IntKind.i64.wrap ((s + N : Nat) : Int) = ((s + N : Nat) : Int) := IntWalk.i64_in _ (by omega)
      have hw3 : IntKind.i64.wrap ((k : Int) + 1) = (k : Int) + 1 := IntWalk.i64_in _ (by omega)
      have c2 : wr.cell? ⟨g + 1, k, none⟩ = some (.slice none 0 0) := by rw [HB.out.cell, tab_get hlt, if_neg (by omega)]
      have f2 := HB.out.free k
      have hk0 : (0 : Int) ≤ (k : Int) := by omega
      have hkn : (k : Int) < (N : Int) := by omega
      clear hs
      go_wp2_with fail
      go_roundw
      case rel =>
        refine ⟨k + 1, by omega, by go_num, Lib.hid (HE1.out.setCell (p := ⟨g + 1, k, none⟩) (by have := HGG.out; show w.heap.size ≤ g + 1; omega) _), Lib.hid (HA.out.far (p := ⟨g + 1, k, none⟩) (by show g ≠ g + 1; omega) _), Lib.hid ?_⟩
        have h := HB.out.put k (.slice (some ⟨g, s, none⟩) N N)
        rw [tab_set hlt] at h
        refine Eq.mp (congrArg (fun f => Has _ (g + 1) 25 f) (tab_congr fun p hp => ?_)) h
        by_cases hpk : p = k
        · subst hpk
          rw [if_pos rfl, if_pos (by omega), HS.out]
        · rw [if_neg hpk]
          by_cases h2 : p < k
          · rw [if_pos h2, if_pos (by omega)]
          · rw [if_neg h2, if_neg (by omega)]
      case measure => simp [intOf]; omega
    · obtain rfl : k = N := by omega
      go_wp2_with fail
      go_ret
      have hg := HGG.out
      subst hg
      refine ⟨rfl, HE1.out, HA.out, ?_⟩
      unfold rowsV
      rw [tab_congr (g := fun p => if p < k then .slice (some ⟨w.heap.size, p * k, none⟩) k k else .slice none 0 0) (fun p hp => by rw [if_pos hp])]
      exact HB.out

set_option maxRecDepth 100000 in
set_option maxHeartbeats 8000000 in
theorem groupWith_has (N kf : Nat) (cap : Array Value) (V : Nat → Nat → Int) (w : World) (hN : N ≤ 1000)
    (eg : ∀ args w, (callFunc kf args).run Tryz.prog w = .ok (.enter kf args) w)
    (hF : ∀ W', Ex w W' → ∀ a b, a < N → b < N → Calls Tryz.prog kf (#[.int .i64 (a : Int), .int .i64 (b : Int)] ++ cap) W' fun e w' => e = .returned (.int .i64 (V a b)) ∧ Ex W' w') :
    Calls Tryz.prog 88 #[.int .i64 (N : Int), .func (.func kf) #[] cap] w fun e w' => ∃ G R, e = .returned (.agg #[.slice (some ⟨R, 0, none⟩) N N]) ∧ Ex w w' ∧ w.heap.size ≤ G ∧ w.heap.size ≤ R ∧ Has w' G 2 (tab (N * N) fun p => .int .i64 (V (p / N) (p % N))) ∧ Has w' R 25 (rowsV G N) := by
  have HF := Lib.hid hF
  have HEG := Lib.hid eg
  clear hF eg
  have e0 : Ex w ((w.alloc (.cells #[.func (.func kf) #[] cap] 87)).alloc (.cells #[.slice none 0 0] 32)) := ((Ex.refl w).alloc _).alloc _
  have b0 : Has ((w.alloc (.cells #[.func (.func kf) #[] cap] 87)).alloc (.cells #[.slice none 0 0] 32)) (w.heap.size) 87 #[.func (.func kf) #[] cap] := ((Has.newAt (w := w) (e := 87) (cs := #[.func (.func kf) #[] cap]) (k := w.heap.size) (by simp)).alloc _)
  have b1 : Has ((w.alloc (.cells #[.func (.func kf) #[] cap] 87)).alloc (.cells #[.slice none 0 0] 32)) (w.heap.size + 1) 32 #[.slice none 0 0] := (Has.newAt (w := (w.alloc (.cells #[.func (.func kf) #[] cap] 87))) (e := 32) (cs := #[.slice none 0 0]) (k := w.heap.size + 1) (by simp))
  have hsz : ((w.alloc (.cells #[.func (.func kf) #[] cap] 87)).alloc (.cells #[.slice none 0 0] 32)).heap.size = w.heap.size + 1 + 1 := by simp
  obtain ⟨D, hD⟩ : ∃ D, w.heap.size + 1 + 1 = D := ⟨_, rfl⟩
  rw [hD] at hsz
  have HNT := Lib.hid (newTable_any N hN ((w.alloc (.cells #[.func (.func kf) #[] cap] 87)).alloc (.cells #[.slice none 0 0] 32)))
  rw [hsz] at HNT
  refine (callsIn_wide (n := 20)).1 ?_
  refine callsIn_of_wp_marks Tryz.func88 rfl trivial ?_ rfl
  simp only [Tryz.ntmps88, List.size_toArray, List.length_cons, List.length_nil, Nat.reduceAdd, Nat.reduceSub, Array.replicate_succ, Array.replicate_zero, List.push_toArray, List.append_toArray, List.nil_append, List.cons_append]
  refine wpIn_wide.2 ?_
  go_wp2_with fail
  generalize ((w.alloc (.cells #[.func (.func kf) #[] cap] 87)).alloc (.cells #[.slice none 0 0] 32)) = W0 at *
  refine HNT.out.mono ?_
  rintro e W1 ⟨rfl, he1, hG, hR⟩
  obtain ⟨z, hz⟩ : ∃ z, W1.heap.size = z := ⟨_, rfl⟩
  have hDz : D < z := by have := hR.lt; omega
  have ea := (Ex.new W1 (.cells #[.slice (some ⟨D + 1, 0, none⟩) N N] 32)).alloc (.cells #[.slice (some ⟨D + 1, 0, none⟩) N N] 32)
  have bF := (b0.ex he1).ex ea
  have bR := (b1.ex he1).ex ea
  have bC := hG.ex ea
  have bT := hR.ex ea
  have bg := (Has.newAt (w := W1) (e := 32) (cs := #[.slice (some ⟨D + 1, 0, none⟩) N N]) hz).alloc (.cells #[.slice (some ⟨D + 1, 0, none⟩) N N] 32)
  have be : Has ((W1.alloc (.cells #[.slice (some ⟨D + 1, 0, none⟩) N N] 32)).alloc (.cells #[.slice (some ⟨D + 1, 0, none⟩) N N] 32)) (z + 1) 32 #[.slice (some ⟨D + 1, 0, none⟩) N N] := Has.newAt (by simp [hz])
  have HE3 := Lib.hid ((e0.trans he1).trans ea)
  clear HNT b0 b1 e0 he1 hG hR ea hsz
  go_wp2_with fail
  refine (elementsOf_any (some ⟨D + 1, 0, none⟩) N N _).mono ?_
  rintro e w' ⟨rfl, rfl⟩
  obtain ⟨W3, hW3⟩ : ∃ W3, (W1.alloc (.cells #[.slice (some ⟨D + 1, 0, none⟩) N N] 32)).alloc (.cells #[.slice (some ⟨D + 1, 0, none⟩) N N] 32) = W3 := ⟨_, rfl⟩
  have hsz3 : W3.heap.size = z + 1 + 1 := by rw [← hW3]; simp [hz]
  rw [hW3] at bF bR bC bT bg be HE3 ⊢
  go_wp2_with fail
  simp only [hz] at *
  have HBF := Lib.hid bF
  have HBR := Lib.hid bR
  clear hW3 hz bF bR
  refine (wpIn_wide (n := 20)).1 ?_
  refine range_topB (n := 20) (n₀ := D) (by omega) (gf := 109) (lb := #[.pointer (some ⟨z + 1, 0, none⟩)]) rfl (enters_of Tryz.func109 (by kernel_rfl) rfl)
    (elements_stops 19 (by omega) (z + 1) D N N _ W3 (by omega) (be.cell 0) (by omega)) (by omega) (fun _ => rfl) 2 (fun x => .int .i64 (x.1 : Int))
    (fun pre W => Has W D 2 (tabP (N * N) (metR pre) fun p => V (p / N) (p % N)) ∧ Has W (D + 1) 25 (rowsV D N) ∧ Has W z 32 #[.slice (some ⟨D + 1, 0, none⟩) N N])
    (fun c' _ W => False)
    (OwnFrom.and (Own.from (has_own _ _ _) _) (OwnFrom.and (Own.from (has_own _ _ _) _) (Own.from (has_own _ _ _) _)))
    (fun _ => ownFrom_pure _ _)
    ⟨by rw [tabP_none (fun p _ => metR_nil p)]; exact bC, bT, bg⟩ ?round ?done ?stop
  case stop =>
    rintro D' c' pre W hD' hpre h
    exact h.elim
  case done =>
    rintro D' xs W hD' hxs ⟨hA, hT, hg⟩ hKW hK
    rw [hxs, tabP_all (fun p hp => metR_all hp)] at hA
    have hB2 : Has W (w.heap.size + 1) 32 #[.slice none 0 0] := HBR.out.below hKW.1 (by omega)
    have hord := hg.cell 0
    have cr := hB2.cell 0
    have fr := hB2.free 0
    have HKW := Lib.hid hKW
    have HB2 := Lib.hid hB2
    have HA := Lib.hid hA
    have HT := Lib.hid hT
    have HKD := Lib.hid hK
    clear bC bT bg be hA hT hg hKW hB2 hK
    simp only [Exit.inBlock, Exit.then]
    go_wp2_with fail
    have hne : w.heap.size + 1 ≠ D' := by intro e; have h1 := HB2.out; have h2 := HKD.out; rw [← e, show W.heap[w.heap.size + 1]? = _ from h1] at h2; cases h2
    have hK' : (W.setCell ⟨w.heap.size + 1, 0, none⟩ (.slice (some ⟨D + 1, 0, none⟩) N N)).heap[D']? = some (.deferred (some [])) := (Below.heap_setCell _ _ _ D' (fun e => hne e.symm)).trans HKD.out
    refine ⟨by simp, .inl ⟨_, _, rfl, run_takeDeferred hK', ?_⟩⟩
    have hRs : Has (W.setCell ⟨w.heap.size + 1, 0, none⟩ (.slice (some ⟨D + 1, 0, none⟩) N N)) (w.heap.size + 1) 32 #[.slice (some ⟨D + 1, 0, none⟩) N N] := HB2.out.put1
    have hAs := HA.out.far (p := ⟨w.heap.size + 1, 0, none⟩) (by show D ≠ w.heap.size + 1; omega) (.slice (some ⟨D + 1, 0, none⟩) N N)
    have hTs := HT.out.far (p := ⟨w.heap.size + 1, 0, none⟩) (by show D + 1 ≠ w.heap.size + 1; omega) (.slice (some ⟨D + 1, 0, none⟩) N N)
    have hEs : Ex w (W.setCell ⟨w.heap.size + 1, 0, none⟩ (.slice (some ⟨D + 1, 0, none⟩) N N)) := (HE3.out.trans' HKW.out.1 (by omega)).setCell (by show w.heap.size ≤ w.heap.size + 1; omega) _
    generalize (W.setCell ⟨w.heap.size + 1, 0, none⟩ (.slice (some ⟨D + 1, 0, none⟩) N N)) = Ws at *
    have hg8 := grownBy_putObj' Ws D' (.deferred none)
    have hr8 : ∀ r, some D' = some r → ∃ o : Obj, Ws.heap[r]? = some o ∧ o.isCells = false := fun r e => by cases e; exact ⟨_, hK', rfl⟩
    have c8 := (hRs.grownR hg8 hr8).cell 0
    exact ⟨.agg #[.slice (some ⟨D + 1, 0, none⟩) N N], by simp [results, Tryz.results88, go_sem, c8], D, D + 1, rfl, Below.grown hEs hg8 hEs.size (fun k hk => by cases hk; omega), by omega, by omega, hAs.grownR hg8 hr8, hTs.grownR hg8 hr8⟩
  case round =>
    clear bC bT bg be
    intro l x W K hK
    have HK := Lib.hid hK
    clear hK
    gi_wp2
    refine HK.out _ ?_
    clear HK
    rintro l B1 pre W1 hB1 hle1 hr ⟨hA, hT, hg⟩ hKW bX _
    rw [hB1]
    clear hB1
    obtain ⟨a, ha⟩ := x
    dsimp only at bX
    have HKW := Lib.hid hKW
    have HR := Lib.hid hr
    have hcg := hg.cell 0
    clear hKW hr
    gi_wp2_with (refine ⟨trivial, ?_⟩; gi_at_call 74; refine (CallsIn.inRound l (callsIn_wide.2 (elementsOf_any _ N N _))).mono ?_; rintro e w' ⟨rfl, rfl⟩)
    clear hcg
    have eA := Ex.new W1 (.cells #[.slice (some ⟨D + 1, 0, none⟩) N N] 32)
    have bA := hA.ex eA
    have bT := hT.ex eA
    have bg := hg.ex eA
    have bX2 : Has (W1.alloc (.cells #[.slice (some ⟨D + 1, 0, none⟩) N N] 32)) B1 2 #[.int .i64 (a : Int)] := Has.alloc bX _
    have bE := Has.new W1 32 #[.slice (some ⟨D + 1, 0, none⟩) N N]
    have hK1 : Keeps D W1 (W1.alloc (.cells #[.slice (some ⟨D + 1, 0, none⟩) N N] 32)) := (Keeps.refl _ _).alloc (by have := hA.lt; omega) _
    have hszA : (W1.alloc (.cells #[.slice (some ⟨D + 1, 0, none⟩) N N] 32)).heap.size = W1.heap.size + 1 := by simp
    have hrA : ∃ r, (W1.alloc (.cells #[.slice (some ⟨D + 1, 0, none⟩) N N] 32)).heap[l]? = some (.loop r) := by
      obtain ⟨r, hr⟩ := HR.out
      exact ⟨r, (Below.heap_alloc W1 _ l (Array.getElem?_eq_some_iff.1 hr).1).trans hr⟩
    have hltA := hA.lt
    have hneT : B1 ≠ D + 1 := by omega
    have hneg : B1 ≠ z := by omega
    have hneD : B1 ≠ D := by omega
    clear hA hT hg bX eA
    obtain ⟨W2, hW2⟩ : ∃ W2, W1.alloc (.cells #[.slice (some ⟨D + 1, 0, none⟩) N N] 32) = W2 := ⟨_, rfl⟩
    rw [hW2] at bA bT bg bX2 bE hK1 hszA hrA ⊢
    clear hW2
    have HK1 := Lib.hid hK1
    have hE2 : Ex w W2 := HE3.out.trans' (HKW.out.1.trans hK1.1) (by omega)
    refine range_in (n := 20 - 1 - 1) (n₀ := D) (by omega) hrA (gf := 109) (lb := #[.pointer (some ⟨W1.heap.size, 0, none⟩)]) rfl (enters_of Tryz.func109 (by kernel_rfl) rfl)
      (elements_stops (20 - 1 - 1 - 1) (by omega) W1.heap.size D N N _ W2 (by omega) (bE.cell 0) (by omega)) (by omega) (fun _ => rfl)
      (fun pre2 W => Has W D 2 (tabP (N * N) (metC pre a pre2) fun p => V (p / N) (p % N)) ∧ Has W (D + 1) 25 (rowsV D N) ∧ Has W z 32 #[.slice (some ⟨D + 1, 0, none⟩) N N] ∧ Has W B1 2 #[.int .i64 (a : Int)])
      (fun c' _ W => False)
      (OwnFrom.and (Own.from (has_own _ _ _) _) (OwnFrom.and (Own.from (has_own _ _ _) _) (OwnFrom.and (Own.from (has_own _ _ _) _) (Own.from (has_own _ _ _) _))))
      (fun _ => ownFrom_pure _ _)
      ⟨by rw [tabP_congr (fun p _ => metC_nil pre a p)]; exact bA, bT, bg, bX2⟩ ?round2 ?done2 ?stop2
    case done2 =>
      rintro ys W hys ⟨bM2, bT2, bg2, _⟩ hKW2
      rw [hys, tabP_congr (fun p _ => metC_all pre a ha p)] at bM2
      gi_wp2
      exact ⟨HK1.out.trans hKW2, bM2, bT2, bg2⟩
    case stop2 =>
      rintro c' pre' W hpre h
      exact h.elim
    case round2 =>
      clear bA bT bg bX2 bE hK1 hszA hrA
      have HE2 := Lib.hid hE2
      clear hE2
      intro l2 y W K hK
      have HK := Lib.hid hK
      clear hK
      gi_wp2
      refine HK.out _ ?_
      clear HK
      rintro l2 pre2 W3 hr2 ⟨bM2, bT2, bg2, bX3⟩ hKW2 _
      obtain ⟨b, hb⟩ := y
      dsimp only
      have hE3 : Ex w W3 := HE2.out.trans' hKW2.1 (by omega)
      have hF3 : Has W3 w.heap.size 87 #[.func (.func kf) #[] cap] := (HBF.out.below HKW.out.1 (by omega)).below (HK1.out.1.trans hKW2.1) (by omega)
      obtain ⟨s, hs⟩ : ∃ s, a * N = s := ⟨_, rfl⟩
      have hplace : s + b < N * N := by rw [← hs]; exact cell_ltT ha hb
      have HPT := Lib.hid (tabP_put (S := metC pre a pre2) (f := fun p => V (p / N) (p % N)) hplace)
      obtain ⟨u, hu⟩ : ∃ u, V a b = u := ⟨_, rfl⟩
      have hfu : V ((s + b) / N) ((s + b) % N) = u := by rw [← hs, div_of hb, mod_of hb, hu]
      have HCG := Lib.hid (tabP_congr (n := N * N) (f := fun p => V (p / N) (p % N)) (fun p _ => hs ▸ metC_snoc pre pre2 a b hb p))
      rw [hfu, HCG.out] at HPT
      have HC := Lib.hid (hu ▸ HF.out W3.drew hE3.drew a b ha hb)
      obtain ⟨v0, hv0⟩ := tabP_get (S := metC pre a pre2) (f := fun p => V (p / N) (p % N)) hplace
      have HV0 := Lib.hid hv0
      have HBM := Lib.hid bM2
      have HBT := Lib.hid bT2
      have HBG := Lib.hid bg2
      have HBX := Lib.hid bX3
      have HBF3 := Lib.hid hF3
      have HZ := Lib.hid (show D ≤ W3.heap.size by have := bM2.lt; omega)
      have hrow : W3.cell? ⟨D + 1, a, none⟩ = some (.slice (some ⟨D, s, none⟩) N N) := by rw [bT2.cell, rowsV, tab_get ha, hs]
      have HRW := Lib.hid (fun W (h : Has W (D + 1) 25 (rowsV D N)) => (by rw [h.cell, rowsV, tab_get ha, hs] : W.cell? ⟨D + 1, a, none⟩ = some (.slice (some ⟨D, s, none⟩) N N)))
      have hC0 : (fun w' : World => w'.cell? ⟨z, 0, none⟩ = some (.slice (some ⟨D + 1, 0, none⟩) N N) ∧ w'.cell? ⟨B1, 0, none⟩ = some (.int .i64 (a : Int)) ∧ w'.cell? ⟨D + 1, a, none⟩ = some (.slice (some ⟨D, s, none⟩) N N) ∧ w'.cell? ⟨w.heap.size, 0, none⟩ = some (.func (.func kf) #[] cap)) W3.drew := ⟨bg2.cell 0, bX3.cell 0, hrow, hF3.cell 0⟩
      have ha0 : (0 : Int) ≤ (a : Int) := by omega
      have haN : (a : Int) < (N : Int) := by omega
      have hb0 : (0 : Int) ≤ (b : Int) := by omega
      have hbN : (b : Int) < (N : Int) := by omega
      clear bM2 bT2 bg2 bX3 hKW2 hE3 hF3 hs hu hfu HCG hv0 hrow hplace
      gi_wp2_with fail
      refine Late.round (C := fun w' : World => w'.cell? ⟨z, 0, none⟩ = some (.slice (some ⟨D + 1, 0, none⟩) N N) ∧ w'.cell? ⟨B1, 0, none⟩ = some (.int .i64 (a : Int)) ∧ w'.cell? ⟨D + 1, a, none⟩ = some (.slice (some ⟨D, s, none⟩) N N) ∧ w'.cell? ⟨w.heap.size, 0, none⟩ = some (.func (.func kf) #[] cap))
        (fun j => j != 11) (by kernel_rfl) (by rfl) (by rintro ⟨_, _, h⟩; exact h) hC0 ?_
      intro hS
      refine Late.take (i := 0) (oi := _) (v := ?_) rfl (by kernel_rfl) (by kernel_rfl) (by kernel_rfl) (by kernel_rfl) (fun _ _ _ h => h) (Or.inl ⟨by rfl, ?_⟩) hS ?_
      rotate_left
      · (intro w hSw; (try dsimp only at hSw); go_simp; first | done | with_reducible rfl)
      simp only [Act.put]
      refine Late.take (i := 1) (oi := _) (v := ?_) rfl (by kernel_rfl) (by kernel_rfl) (by kernel_rfl) (by kernel_rfl) (fun _ _ _ h => h) (Or.inl ⟨by rfl, ?_⟩) hS ?_
      rotate_left
      · (intro w hSw; (try dsimp only at hSw); go_simp; first | done | with_reducible rfl)
      simp only [Act.put]
      refine Late.take (i := 2) (oi := _) (v := ?_) rfl (by kernel_rfl) (by kernel_rfl) (by kernel_rfl) (by kernel_rfl) (fun _ _ _ h => h) (Or.inl ⟨by rfl, ?_⟩) hS ?_
      rotate_left
      · (intro w hSw; (try dsimp only at hSw); go_simp; first | done | with_reducible rfl)
      simp only [Act.put]
      refine Late.take (i := 3) (oi := _) (v := ?_) rfl (by kernel_rfl) (by kernel_rfl) (by kernel_rfl) (by kernel_rfl) (fun _ _ _ h => h) (Or.inl ⟨by rfl, ?_⟩) hS ?_
      rotate_left
      · (intro w hSw; (try dsimp only at hSw); go_simp; first | done | with_reducible rfl)
      simp only [Act.put]
      refine Late.take (i := 4) (oi := _) (v := ?_) rfl (by kernel_rfl) (by kernel_rfl) (by kernel_rfl) (by kernel_rfl) (fun _ _ _ h => h) (Or.inl ⟨by rfl, ?_⟩) hS ?_
      rotate_left
      · (intro w hSw; (try dsimp only at hSw); go_simp; first | done | with_reducible rfl)
      simp only [Act.put]
      refine Late.take (i := 5) (oi := _) (v := ?_) rfl (by kernel_rfl) (by kernel_rfl) (by kernel_rfl) (by kernel_rfl) (fun _ _ _ h => h) (Or.inl ⟨by rfl, ?_⟩) hS ?_
      rotate_left
      · (intro w hSw; (try dsimp only at hSw); go_simp; first | done | with_reducible rfl)
      simp only [Act.put]
      refine Late.take (i := 6) (oi := _) (v := ?_) rfl (by kernel_rfl) (by kernel_rfl) (by kernel_rfl) (by kernel_rfl) (fun _ _ _ h => h) (Or.inl ⟨by rfl, ?_⟩) hS ?_
      rotate_left
      · (intro w hSw; (try dsimp only at hSw); go_simp; first | done | with_reducible rfl)
      simp only [Act.put]
      refine Late.take (i := 7) (oi := _) (v := ?_) rfl (by kernel_rfl) (by kernel_rfl) (by kernel_rfl) (by kernel_rfl) (fun _ _ _ h => h) (Or.inl ⟨by rfl, ?_⟩) hS ?_
      rotate_left
      · (intro w hSw; (try dsimp only at hSw); go_simp; first | done | with_reducible rfl)
      simp only [Act.put]
      refine Late.take (i := 8) (oi := _) (v := ?_) rfl (by kernel_rfl) (by kernel_rfl) (by kernel_rfl) (by kernel_rfl) (fun _ _ _ h => h) (Or.inl ⟨by rfl, ?_⟩) hS ?_
      rotate_left
      · (intro w hSw; (try dsimp only at hSw); go_simp; first | done | with_reducible rfl)
      simp only [Act.put]
      refine Late.one (i := 9) (o := _) (by kernel_rfl) rfl (fun K' hK' => ?_)
      rw [if_pos (by rfl)]
      have hegw := HEG.out
      go_simp
      clear hegw
      refine HC.out.mono ?_
      rintro e6 W6 ⟨rfl, he6⟩
      have hx6 : Ex W3 W6 := (Ex.refl W3).drew.trans he6
      have hM6 := HBM.out.ex hx6
      have hT6 := HBT.out.ex hx6
      have hg6 := HBG.out.ex hx6
      have hX6 := HBX.out.ex hx6
      have hF6 := HBF3.out.ex hx6
      have hC6 := And.intro (hg6.cell 0) (And.intro (hX6.cell 0) (And.intro (HRW.out W6 hT6) (hF6.cell 0)))
      have hcell := hM6.cell (s + b)
      rw [HV0.out] at hcell
      have hfree := hM6.free (s + b)
      refine hK'.out _ _ (fun _ => hC6) (fun _ => ?_)
      clear hK' K'
      try simp only [Act.put, List.setIfInBounds_toArray, List.set_cons_zero, List.set_cons_succ]
      refine Late.take (i := 10) (oi := _) (v := ?_) rfl (by kernel_rfl) (by kernel_rfl) (by kernel_rfl) (by kernel_rfl) (fun _ _ _ h => h) (Or.inl ⟨by rfl, ?_⟩) hC6 ?_
      rotate_left
      · (intro w hSw; (try dsimp only at hSw); go_simp; first | done | with_reducible rfl)
      simp only [Act.put]
      refine Late.one (i := 11) (o := _) (by kernel_rfl) rfl (fun K' hK' => ?_)
      go_simp
      refine hK'.out _ _ (fun h => by cases h) (fun _ => ?_)
      clear hK' K'
      refine Late.done (by kernel_rfl) ?_ _
      have hM7 := hM6.put (s + b) (.int .i64 u)
      rw [HPT.out] at hM7
      exact ⟨(Keeps.of_below hx6 HZ.out).setCell (p := ⟨D, s + b, none⟩) (Nat.le_refl _) _, hM7, hT6.far (p := ⟨D, s + b, none⟩) (by show D + 1 ≠ D; omega) _, hg6.far (p := ⟨D, s + b, none⟩) (by show z ≠ D; omega) _, hX6.far (p := ⟨D, s + b, none⟩) hneD _⟩

end Go.Proofs.YtcdijeeabgmgmaaGreatDoor
