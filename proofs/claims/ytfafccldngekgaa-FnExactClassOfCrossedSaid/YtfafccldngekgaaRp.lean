/- The program's principalMaps, by a sort's contract. -/
import Derived.Test.YtfafccldngekgaaKl
import Derived.Test.YtfafccldngekgaaRg
namespace Go.Proofs.Ytfafccldngekgaa
open Go.RowKit

/-- What is asked of the sort of rows. -/
def SortSaid : Prop := ∀ (b n cap : Nat) (cs : Array Value) (A : Nat → Option Addr) (R : Nat → List Int) (C : Nat → Nat) (w : World), n ≤ 1048576 → Has w b 25 cs → (∀ i, i < n → cs[i]? = some (encR A R C i)) →
    (∀ i W, Only b (b + 1) w W → IntsW W (A i) (R i)) → (∀ i, (R i).length ≤ 1048576) →
    Calls Try.prog 112 #[.slice (some ⟨b, 0, none⟩) n cap, .func (.func 91) #[] #[]] w fun e w' => e = .returned (.tuple #[]) ∧ ∃ (d : Array Nat) (cs' : Array Value), Only b (b + 1) w w' ∧ Has w' b 25 cs' ∧ d.size = n ∧ d.toList.Perm (List.range n) ∧ (∀ i, i < n → cs'[i]? = some (encR A R C d[i]!)) ∧ ∀ i j, i < j → j < n → 0 ≤ lexC (R d[j]!) (R d[i]!)
theorem Has.only1 {w W : World} {b g : Nat} {e : TypeId} {cs : Array Value} (h : Has w b e cs) (k : Only g (g + 1) w W) (hne : b ≠ g) : Has W b e cs := by
  rcases Nat.lt_or_ge b g with h1 | h1
  · exact (k.low.block b h1).trans h
  · exact (k.same b (by omega) h.lt).trans h
theorem Has.ne_type {w : World} {b g : Nat} {T e : TypeId} {cs cs' : Array Value} (h : Has w b T cs) (k : Has w g e cs') (hT : T ≠ e) : b ≠ g := by
  rintro rfl
  have := (show w.heap[b]? = _ from h).symm.trans (show w.heap[b]? = _ from k)
  simp at this
  exact hT this.2
theorem prin_ints {w : World} {b N M m : Nat} {us : List Int} (h : Has w b 2 (tab N fun p => .int .i64 (prinX M us m p))) : IntsW w (some ⟨b, 0, none⟩) (prinL N M us m) := by
  refine (OwnL.of_has (n := N) (lo := b) (e := 2) (xs := prinL N M us m) ?_ (prinL_len ..).symm (Nat.le_refl _)).ints
  rw [tab_congr (g := fun p => .int .i64 (prinX M us m p)) (fun p hp => by rw [nth_prinL hp])]
  exact h
def clM (M i : Nat) : Nat := if i < M then i else 0
theorem clM_lt {M : Nat} (h : 0 < M) (i : Nat) : clM M i < M := by
  unfold clM
  split <;> omega
theorem clM_eq {M i : Nat} (h : i < M) : clM M i = i := if_pos h

/-- What principalMaps gives: kk rows of the M that were made, those of the numbers idx. -/
structure PmAt (w w' : World) (M : Nat) (us : List Int) (b kk : Nat) (cs : Array Value) (G C idx : Nat → Nat) : Prop where
  ex : Ex w w'
  lo : w.heap.size ≤ b
  has : Has w' b 25 cs
  rows : RowsAt w' w.heap.size us.length (fun m p => prinX M us m p) M G C
  pos : 0 < kk
  le : kk ≤ M
  at_ : ∀ q, q < kk → idx q < M ∧ cs[q]? = some (.slice (some ⟨G (idx q), 0, none⟩) us.length (C (idx q)))
  step : ∀ q, q + 1 < kk → lexC (prinL us.length M us (idx q)) (prinL us.length M us (idx (q + 1))) < 0
  cover : ∀ m, m < M → ∃ q, q < kk ∧ prinL us.length M us m = prinL us.length M us (idx q)

set_option maxRecDepth 100000 in
set_option maxHeartbeats 4000000 in
theorem principalMaps_of (hsort : SortSaid) (B1 : Option Addr) (M : Nat) (us : List Int) (d1 : Nat) (w : World) (hX : IntsW w B1 us) (hM2 : 2 ≤ M) (hM12 : M ≤ 12) (hr : InR M us) (hl : us.length ≤ 8) :
    Calls Try.prog 88 #[.agg #[.int .i64 (M : Int), .slice B1 us.length d1]] w fun e w' => ∃ b kk cap cs G C idx, e = .returned (.slice (some ⟨b, 0, none⟩) kk cap) ∧ PmAt w w' M us b kk cs G C idx := by
  obtain ⟨iS, hi, hi0, hi1, hi2⟩ := info_parts infoS
  have HS := Lib.hid hsort
  have e0 : Ex w (w.alloc (.cells #[.int .i64 (M : Int), .slice B1 us.length d1] 34)) := (Ex.refl w).alloc _
  have b0 : Has (w.alloc (.cells #[.int .i64 (M : Int), .slice B1 us.length d1] 34)) (w.heap.size) 34 #[.int .i64 (M : Int), .slice B1 us.length d1] := (Has.newAt (w := w) (e := 34) (cs := #[.int .i64 (M : Int), .slice B1 us.length d1]) (k := w.heap.size) (by simp))
  have HPM := Lib.hid (fun m (hm : m < M) W (he : Ex w W) => principalMap_has B1 M m us d1 W (hX.ex he) hM2 hM12 hr hl hm)
  have c0 := b0.cell 0
  clear hsort hX hr
  go_enter Try.func88, Try.ntmps88
  go_wp2_with fail
  generalize (w.alloc (.cells #[.int .i64 (M : Int), .slice B1 us.length d1] 34)) = W0 at *
  have HE0 := Lib.hid e0
  have HB0 := Lib.hid b0
  clear e0 b0 c0
  go_loopw [3, 7] (fun v i wr => ∃ (k : Nat) (G C : Nat → Nat), k ≤ M ∧ i = .int .i64 (k : Int) ∧ Hid (Ex w wr) ∧ Hid (Has wr w.heap.size 34 #[.int .i64 (M : Int), .slice B1 us.length d1]) ∧ Hid (wr.ownsRow w.heap.size 25 1 v k (rowVs us.length k G C)) ∧ Hid (RowsAt wr w.heap.size us.length (fun m p => prinX M us m p) k G C)) (fun _ i _ => M - (intOf i).toNat)
  case atStart => exact ⟨0, id, id, Nat.zero_le _, rfl, HE0, HB0, Lib.hid (World.ownsRow_nil _ _ _ _), Lib.hid ⟨fun i hi => by omega, fun i hi => by omega, fun i j hi => by omega⟩⟩
  case round =>
    obtain ⟨k, G, C, hk, rfl, HE, HB, HO, HR⟩ := hrel
    by_cases hlt : k < M
    · have c0 := HB.out.cell 0
      have c1 := HB.out.cell 1
      go_wp2_with fail
      refine (HPM.out k hlt wr HE.out).mono ?_
      rintro e W2 ⟨g, cg, rfl, he2, hg, hh⟩
      have HE2 := Lib.hid (HE.out.trans he2)
      have HB2 := Lib.hid (HB.out.ex he2)
      have HO2 := Lib.hid (own_below HO.out he2)
      have HR2 := Lib.hid ((HR.out.ex he2).snoc g cg (Nat.le_trans HE.out.size hg) hh (fun i hi e => by have := (HR.out.has i hi).lt; omega))
      clear he2 hh c0 c1
      go_wp2_with (at_builtin; refine wpList_append_own _ rfl _ _ 22 rfl w.heap.size 25 iS (.slice none 0 0) 1 24 Try.underlying22 hi hi0 hi1 hi2 rfl (by decide) _ _ _ rfl (HO2.out.alloc _) ⟨W2.heap.size, 0, none⟩ 1 1 [.slice (some ⟨g, 0, none⟩) us.length cg] rfl rfl (cell_one_new _ _ _) (by simp [Value.oneCell']) (by unfold maxLen; omega) (by omega) (by have := HE2.out.size; simp; omega) ?_; intro v' w3 hown3 hgrow3 _; have HE3 := Lib.hid (Ex.grewR (HE2.out.alloc _) (HO2.out.alloc _) (Nat.le_refl _) hgrow3); have HB3 := Lib.hid (Has.grewR (HB2.out.alloc _) (by decide) (HO2.out.alloc _) hgrow3); have HR3 := Lib.hid (RowsAt.grew (HR2.out.ex (Ex.new W2 _)) (HO2.out.alloc _) hgrow3); have HO3 := Lib.hid hown3; clear hown3 hgrow3)
      go_roundw
      case rel => exact ⟨k + 1, _, _, by omega, by go_num, HE3, HB3, by rw [rowVs_snoc]; exact HO3, HR3⟩
      case measure => simp [intOf]; omega
    · obtain rfl : k = M := by omega
      obtain ⟨g, c, cs, rfl, hlo, hnc, hhas, hget⟩ := row_block HO.out (show 0 < k by omega)
      have hM0 : 0 < k := by omega
      have hne : ∀ i, i < k → G i ≠ g := fun i hi => (HR.out.has i hi).ne_type hhas (by decide)
      have hI : ∀ i W, Only g (g + 1) wr W → IntsW W (some ⟨G (clM k i), 0, none⟩) (prinL us.length k us (clM k i)) := fun i W ho => prin_ints ((HR.out.has _ (clM_lt hM0 i)).only1 ho (hne _ (clM_lt hM0 i)))
      have HSO := Lib.hid (HS.out g k c cs (fun i => some ⟨G (clM k i), 0, none⟩) (fun i => prinL us.length k us (clM k i)) (fun i => C (clM k i)) wr (by omega) hhas (fun i hi => by
        rw [hget i hi, rowVs_get hi]
        show _ = some (encR _ _ _ i)
        simp only [encR, prinL_len, clM_eq hi]) hI (fun i => by rw [prinL_len]; omega))
      have HI := Lib.hid hI
      have HNE := Lib.hid hne
      have HLO := Lib.hid hlo
      clear hI hne hget hhas
      go_wp2_with fail
      refine HSO.out.mono ?_
      rintro e W2 ⟨rfl, d, cs1, ho, hhas1, hds, hperm, hget1, hsort1⟩
      have hmem : ∀ i, i < k → d[i]! < k := fun i hi => by
        have hi2 : i < d.size := by omega
        have : d[i]! ∈ d.toList := by
          rw [getElem!_pos d i hi2]
          exact Array.getElem_mem_toList hi2
        exact List.mem_range.1 (hperm.mem_iff.1 this)
      have HCF := Lib.hid (compactFunc_any g k c us.length cs1 (fun i => some ⟨G (clM k d[i]!), 0, none⟩) (fun i => prinL us.length k us (clM k d[i]!)) (fun i => C (clM k d[i]!)) W2 hM0 (by omega) hnc hhas1 (fun i hi => hget1 i hi)
        (fun i _ W hW => HI.out d[i]! W (ho.trans hW (Nat.le_refl _) (Nat.le_refl _))) (fun i _ => prinL_len _ _ _ _) (by omega))
      have HOS := Lib.hid ho
      have HM := Lib.hid hmem
      have HPE := Lib.hid hperm
      have HST := Lib.hid hsort1
      have HDS := Lib.hid hds
      clear hmem hperm hsort1 hds hget1 hhas1 ho
      go_wp2_with fail
      refine HCF.out.mono ?_
      rintro e W3 ⟨kk, pos, cs2, rfl, ho3, hhas3, hC, hget3⟩
      have HO3 := Lib.hid (HOS.out.trans ho3 (Nat.le_refl _) (Nat.le_refl _))
      have HH3 := Lib.hid hhas3
      have HC := Lib.hid hC
      have HG3 := Lib.hid hget3
      clear ho3 hhas3 hC hget3
      go_wp2_with fail
      go_ret
      refine ⟨g, kk, c, cs2, G, C, fun q => d[pos q]!, rfl, ?_⟩
      exact {
        ex := HE.out.only HO3.out HLO.out
        lo := HLO.out
        has := HH3.out
        rows := ⟨HR.out.lo_le, fun i hi => (HR.out.has i hi).only1 HO3.out (HNE.out i hi), HR.out.apart⟩
        pos := HC.out.pos1
        le := HC.out.le
        at_ := fun q hq => ⟨HM.out _ (HC.out.bound q hq), by
          rw [HG3.out q hq]
          simp only [encR, prinL_len, clM_eq (HM.out _ (HC.out.bound q hq))]⟩
        step := fun q hq => by
          obtain ⟨h1, h2⟩ := HC.out.step q hq
          have h3 := HST.out _ _ h1 (HC.out.bound (q + 1) hq)
          rw [clM_eq (HM.out _ (HC.out.bound q (by omega))), clM_eq (HM.out _ (HC.out.bound (q + 1) hq))] at h2 h3
          rw [lexC_swap] at h3
          rcases Int.lt_or_le (lexC (prinL us.length k us d[pos q]!) (prinL us.length k us d[pos (q + 1)]!)) 0 with h4 | h4
          · exact h4
          · exact absurd (lexC_zero (by omega)) h2
        cover := fun m hm => by
          have h1 : m ∈ d.toList := HPE.out.mem_iff.2 (List.mem_range.2 hm)
          obtain ⟨i, hi, rfl⟩ := List.getElem_of_mem h1
          have hi2 : i < d.size := by simpa using hi
          have hik : i < k := by rw [← HDS.out]; exact hi2
          obtain ⟨q, hq, he⟩ := HC.out.cover i hik
          rw [clM_eq (HM.out _ hik), clM_eq (HM.out _ (HC.out.bound q hq)), getElem!_pos d i hi2] at he
          exact ⟨q, hq, by simpa using he⟩ }

end Go.Proofs.Ytfafccldngekgaa
