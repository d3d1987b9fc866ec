/- withTimes: a row and k times another one together, by a number. -/
import Derived.IntWalk
import Derived.Test.YtfafccldngekgaaCel
namespace Go.Proofs.Ytfafccldngekgaa
open Go.RowKit

def wtX (M : Nat) (r : List Int) (k : Int) (o : List Int) (i : Nat) : Int := (nth r i + k * nth o i) % (M : Int)
def wtL (M : Nat) (r : List Int) (k : Int) (o : List Int) : List Int := (List.range r.length).map (wtX M r k o)
theorem wtL_len (M : Nat) (r : List Int) (k : Int) (o : List Int) : (wtL M r k o).length = r.length := by simp [wtL]
theorem wtX_in {M : Nat} (hM : 0 < M) (r : List Int) (k : Int) (o : List Int) (i : Nat) : 0 ≤ wtX M r k o i ∧ wtX M r k o i < (M : Int) := ⟨Int.emod_nonneg _ (by omega), Int.emod_lt_of_pos _ (by omega)⟩
theorem wt_bound {k y : Int} (h1 : -100 ≤ k) (h2 : k ≤ 100) (h3 : -1000 ≤ y) (h4 : y ≤ 1000) : -100000 ≤ k * y ∧ k * y ≤ 100000 := by
  have := Int.mul_nonneg (show 0 ≤ 100 - k by omega) (show 0 ≤ 1000 - y by omega)
  have := Int.mul_nonneg (show 0 ≤ 100 + k by omega) (show 0 ≤ 1000 - y by omega)
  have := Int.mul_nonneg (show 0 ≤ 100 - k by omega) (show 0 ≤ 1000 + y by omega)
  have := Int.mul_nonneg (show 0 ≤ 100 + k by omega) (show 0 ≤ 1000 + y by omega)
  constructor <;> grind

set_option maxRecDepth 100000 in
set_option maxHeartbeats 4000000 in
theorem withTimes_has (A B : Option Addr) (r o : List Int) (M : Nat) (q : Int) (c d : Nat) (w : World) (hR : IntsW w A r) (hO : IntsW w B o) (hlo : r.length ≤ o.length) (hx : r.length ≤ 1048576) (hM : 0 < M) (hM12 : M ≤ 12) (hq1 : -100 ≤ q) (hq2 : q ≤ 100)
    (hr : ∀ i, i < r.length → -1000 ≤ nth r i ∧ nth r i ≤ 1000) (ho : ∀ i, i < r.length → -1000 ≤ nth o i ∧ nth o i ≤ 1000) :
    Calls Try.prog 92 #[.int .i64 (M : Int), .slice A r.length c, .int .i64 q, .slice B o.length d] w fun e w' => ∃ g c0, e = .returned (.slice (some ⟨g, 0, none⟩) r.length c0) ∧ Ex w w' ∧ w.heap.size ≤ g ∧ Has w' g 2 (tab r.length fun p => .int .i64 (wtX M r q o p)) := by
  have hmk := makeI r.length hx
  have HF := Lib.hid (fun k (hk : k < r.length) => And.intro (hr k hk) (ho k hk))
  have HXR := Lib.hid hR
  have HXO := Lib.hid hO
  obtain ⟨g, hg⟩ : ∃ g, w.heap.size = g := ⟨_, rfl⟩
  have HGG := Lib.hid hg
  have hb := Has.new w 2 (tab r.length fun _ => .int .i64 0)
  have he := Ex.new w (.cells (tab r.length fun _ => .int .i64 0) 2)
  rw [hg] at hb
  clear hr ho hR hO hg
  go_enter Try.func92, Try.ntmps92
  go_wp2_with fail
  rw [HGG.out]
  generalize w.alloc (.cells (tab r.length fun _ => .int .i64 0) 2) = W0 at *
  have HB := Lib.hid hb
  have HE := Lib.hid he
  clear hb he hmk
  go_loopw [17] (fun i wr => ∃ k : Nat, k ≤ r.length ∧ i = .int .i64 (k : Int) ∧ Hid (Ex w wr) ∧ Hid (Has wr g 2 (tab r.length fun p => .int .i64 (if p < k then wtX M r q o p else 0)))) (fun i _ => r.length - (intOf i).toNat)
  case atStart => exact ⟨0, Nat.zero_le _, rfl, HE, Lib.hid (by simpa using HB.out)⟩
  case round =>
    obtain ⟨k, hk, rfl, HE1, HB1⟩ := hrel
    by_cases hlt : k < r.length
    · have hlt2 : k < o.length := by omega
      obtain ⟨bx, ox, rfl, hbx, hcx⟩ := (HXR.out.ex HE1.out).ints.at_ hlt
      obtain ⟨bo, oo, rfl, hbo, hco⟩ := (HXO.out.ex HE1.out).ints.at_ hlt2
      obtain ⟨⟨hx1, hx2⟩, ⟨hy1, hy2⟩⟩ := HF.out k hlt
      have hk0 : (0 : Int) ≤ (k : Int) := by omega
      have hkn : (k : Int) < (r.length : Int) := by omega
      have hkn2 : (k : Int) < (o.length : Int) := by omega
      have HZ : Hid (wtX M r q o k = (nth r k + q * nth o k) % (M : Int)) := Lib.hid rfl
      obtain ⟨x, hxx⟩ : ∃ x, nth r k = x := ⟨_, rfl⟩
      obtain ⟨y, hyy⟩ : ∃ y, nth o k = y := ⟨_, rfl⟩
      rw [hxx] at hcx HZ hx1 hx2
      rw [hyy] at hco HZ hy1 hy2
      have hb2 := wt_bound hq1 hq2 hy1 hy2
      obtain ⟨p, hp⟩ : ∃ p, q * y = p := ⟨_, rfl⟩
      rw [hp] at hb2 HZ
      obtain ⟨hp1, hp2⟩ := hb2
      obtain ⟨s, hs⟩ : ∃ s, x + p = s := ⟨_, rfl⟩
      rw [hs] at HZ
      have hs1 : -1000000 ≤ s := by omega
      have hs2 : s ≤ 1000000 := by omega
      have hw1 : IntKind.i64.wrap (q * y) = p := by rw [hp]; exact IntWalk.i64_in _ (by omega)
      have hw2 : IntKind.i64.wrap (x + p) = s := by rw [hs]; exact IntWalk.i64_in _ (by omega)
      have f2 := HB1.out.free k
      have c2 : wr.cell? ⟨g, k, none⟩ = some (.int .i64 (if k < k then wtX M r q o k else 0)) := by rw [HB1.out.cell, tab_get hlt]
      have hgw : w.heap.size ≤ g := by have := HGG.out; omega
      clear hxx hyy hx1 hx2 hy1 hy2 hp hp1 hp2 hs
      go_wp2_with (go_at_call 76; refine (restOf_w s M _ hM hM12 hs1 hs2).mono ?_; rintro e w' ⟨rfl, rfl⟩)
      go_roundw
      case rel =>
        refine ⟨k + 1, by omega, by go_num, Lib.hid (HE1.out.setCell (p := ⟨g, k, none⟩) hgw _), Lib.hid ?_⟩
        have h := HB1.out.put k (.int .i64 (s % (M : Int)))
        rw [tab_set hlt] at h
        refine Eq.mp (congrArg (fun f => Has _ g 2 f) (tab_congr fun p hp => ?_)) h
        by_cases hpk : p = k
        · subst hpk
          rw [if_pos rfl, if_pos (by omega), HZ.out]
        · rw [if_neg hpk]
          by_cases h2 : p < k
          · rw [if_pos h2, if_pos (by omega)]
          · rw [if_neg h2, if_neg (by omega)]
      case measure => simp [intOf]; omega
    · obtain rfl : k = r.length := by omega
      go_wp2_with fail
      go_ret
      refine ⟨g, _, rfl, HE1.out, by have := HGG.out; omega, ?_⟩
      rw [tab_congr (g := fun p => .int .i64 (if p < r.length then wtX M r q o p else 0)) (fun p hp => by simp [hp])]
      exact HB1.out

theorem withTimes_any (A B : Option Addr) (r o : List Int) (M : Nat) (q : Int) (c d : Nat) (w : World) (hR : IntsW w A r) (hO : IntsW w B o) (hlo : r.length ≤ o.length) (hx : r.length ≤ 1048576) (hM : 0 < M) (hM12 : M ≤ 12) (hq1 : -100 ≤ q) (hq2 : q ≤ 100)
    (hr : ∀ i, i < r.length → -1000 ≤ nth r i ∧ nth r i ≤ 1000) (ho : ∀ i, i < r.length → -1000 ≤ nth o i ∧ nth o i ≤ 1000) :
    Calls Try.prog 92 #[.int .i64 (M : Int), .slice A r.length c, .int .i64 q, .slice B o.length d] w fun e w' => ∃ C0 e0, e = .returned (.slice C0 (wtL M r q o).length e0) ∧ Ex w w' ∧ OwnL w' w.heap.size w'.heap.size C0 (wtL M r q o) := by
  refine (withTimes_has A B r o M q c d w hR hO hlo hx hM hM12 hq1 hq2 hr ho).mono ?_
  rintro e w' ⟨g, c0, rfl, he, hg, hh⟩
  refine ⟨some ⟨g, 0, none⟩, c0, by rw [wtL_len], he, OwnL.of_has (n := r.length) (e := 2) ?_ (wtL_len ..).symm hg⟩
  rw [tab_congr (g := fun p => .int .i64 (wtX M r q o p)) (fun p hp => by simp [nth, wtL, hp])]
  exact hh

end Go.Proofs.Ytfafccldngekgaa
