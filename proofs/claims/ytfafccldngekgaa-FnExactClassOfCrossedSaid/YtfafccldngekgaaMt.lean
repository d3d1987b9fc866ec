/- mappedList and principalMap: with the block that holds the list. -/
import Derived.IntWalk
import Derived.Test.YtfafccldngekgaaPn
namespace Go.Proofs.Ytfafccldngekgaa
open Go.RowKit

set_option maxRecDepth 100000 in
set_option maxHeartbeats 2000000 in
theorem mappedList_has (L : Option Addr) (xs : List Int) (c kf : Nat) (cap : Array Value) (V : Nat → Int) (w : World) (hX : IntsW w L xs) (hx : xs.length ≤ 1048576)
    (eg : ∀ args w, (callFunc kf args).run Try.prog w = .ok (.enter kf args) w)
    (hF : ∀ W', Ex w W' → ∀ k, k < xs.length → Calls Try.prog kf (#[.int .i64 (nth xs k)] ++ cap) W' fun e w' => e = .returned (.int .i64 (V k)) ∧ Ex W' w') :
    Calls Try.prog 83 #[.slice L xs.length c, .func (.func kf) #[] cap] w fun e w' => ∃ g c0, e = .returned (.slice (some ⟨g, 0, none⟩) xs.length c0) ∧ Ex w w' ∧ w.heap.size ≤ g ∧ Has w' g 2 (tab xs.length fun p => .int .i64 (V p)) := by
  have hmk := makeI xs.length hx
  have HF := Lib.hid hF
  have HEG := Lib.hid eg
  have HX := Lib.hid hX
  obtain ⟨g, hg⟩ : ∃ g, w.heap.size = g := ⟨_, rfl⟩
  have HGG := Lib.hid hg
  have hb := Has.new w 2 (tab xs.length fun _ => .int .i64 0)
  have he := Ex.new w (.cells (tab xs.length fun _ => .int .i64 0) 2)
  rw [hg] at hb
  clear hF eg hX hg
  go_enter Try.func83, Try.ntmps83
  go_wp2_with fail
  rw [HGG.out]
  generalize w.alloc (.cells (tab xs.length fun _ => .int .i64 0) 2) = W0 at *
  have HB := Lib.hid hb
  have HE := Lib.hid he
  clear hb he hmk
  go_loopw [13] (fun i wr => ∃ k : Nat, k ≤ xs.length ∧ i = .int .i64 (k : Int) ∧ Hid (Ex w wr) ∧ Hid (Has wr g 2 (tab xs.length fun p => .int .i64 (if p < k then V p else 0)))) (fun i _ => xs.length - (intOf i).toNat)
  case atStart => exact ⟨0, Nat.zero_le _, rfl, HE, Lib.hid (by simpa using HB.out)⟩
  case round =>
    obtain ⟨k, hk, rfl, HE1, HB1⟩ := hrel
    by_cases hlt : k < xs.length
    · obtain ⟨bx, ox, rfl, hbx, hcx⟩ := (HX.out.ex HE1.out).ints.at_ hlt
      have HC := Lib.hid (HF.out wr HE1.out k hlt)
      have hk0 : (0 : Int) ≤ (k : Int) := by omega
      have hkn : (k : Int) < (xs.length : Int) := by omega
      obtain ⟨x, hxx⟩ : ∃ x, nth xs k = x := ⟨_, rfl⟩
      obtain ⟨z, hz⟩ : ∃ z, V k = z := ⟨_, rfl⟩
      rw [hxx] at hcx HC
      rw [hz] at HC
      have HZ := Lib.hid hz
      have hegw := HEG.out
      clear hz hxx
      go_wp2_with fail
      refine HC.out.mono ?_
      rintro e' W2 ⟨rfl, he2⟩
      have HE2 := Lib.hid (HE1.out.trans he2)
      have HB2 := Lib.hid (HB1.out.ex he2)
      have c2 : W2.cell? ⟨g, k, none⟩ = some (.int .i64 (if k < k then V k else 0)) := by rw [HB2.out.cell, tab_get hlt]
      have f2 := HB2.out.free k
      have hgw : w.heap.size ≤ g := by have := HGG.out; omega
      clear hegw he2 hcx
      go_wp2_with fail
      go_roundw
      case rel =>
        refine ⟨k + 1, by omega, by go_num, Lib.hid (HE2.out.setCell (p := ⟨g, k, none⟩) hgw _), Lib.hid ?_⟩
        have h := HB2.out.put k (.int .i64 z)
        rw [tab_set hlt] at h
        refine Eq.mp (congrArg (fun f => Has _ g 2 f) (tab_congr fun p hp => ?_)) h
        by_cases hpk : p = k
        · subst hpk
          rw [if_pos rfl, if_pos (by omega), HZ.out]
        · rw [if_neg hpk]
          by_cases h2 : p < k
          · rw [if_pos h2, if_pos (by omega)]
          · rw [if_neg h2, if_neg (by omega)]
      case measure => simp [intOf]; omega
    · obtain rfl : k = xs.length := by omega
      go_wp2_with fail
      go_ret
      refine ⟨g, _, rfl, HE1.out, by have := HGG.out; omega, ?_⟩
      rw [tab_congr (g := fun p => .int .i64 (if p < xs.length then V p else 0)) (fun p hp => by simp [hp])]
      exact HB1.out

set_option maxRecDepth 100000 in
set_option maxHeartbeats 2000000 in
theorem principalMap_has (B1 : Option Addr) (M m : Nat) (us : List Int) (d1 : Nat) (w : World) (hX : IntsW w B1 us) (hM2 : 2 ≤ M) (hM12 : M ≤ 12) (hr : InR M us) (hl : us.length ≤ 8) (hm : m < M) :
    Calls Try.prog 66 #[.agg #[.int .i64 (M : Int), .slice B1 us.length d1], .int .i64 (m : Int)] w fun e w' => ∃ g c0, e = .returned (.slice (some ⟨g, 0, none⟩) us.length c0) ∧ Ex w w' ∧ w.heap.size ≤ g ∧ Has w' g 2 (tab us.length fun p => .int .i64 (prinX M us m p)) := by
  have hmf : ∀ (fn : Fn) (first cap : Array Value) (w : World), (Instr.makeFunc fn first cap).run Try.prog w = .ok (.func fn first cap) w := fun _ _ _ _ => rfl
  have e0 : Ex w ((w.alloc (.cells #[.int .i64 (M : Int), .slice B1 us.length d1] 34)).alloc (.cells #[.int .i64 (m : Int)] 2)) := ((Ex.refl w).alloc _).alloc _
  have b0 : Has ((w.alloc (.cells #[.int .i64 (M : Int), .slice B1 us.length d1] 34)).alloc (.cells #[.int .i64 (m : Int)] 2)) (w.heap.size) 34 #[.int .i64 (M : Int), .slice B1 us.length d1] := ((Has.newAt (w := w) (e := 34) (cs := #[.int .i64 (M : Int), .slice B1 us.length d1]) (k := w.heap.size) (by simp)).alloc _)
  have b1 : Has ((w.alloc (.cells #[.int .i64 (M : Int), .slice B1 us.length d1] 34)).alloc (.cells #[.int .i64 (m : Int)] 2)) (w.heap.size + 1) 2 #[.int .i64 (m : Int)] := (Has.newAt (w := (w.alloc (.cells #[.int .i64 (M : Int), .slice B1 us.length d1] 34))) (e := 2) (cs := #[.int .i64 (m : Int)]) (k := w.heap.size + 1) (by simp))
  have hml := mappedList_has B1 us d1 104 #[.pointer (some ⟨w.heap.size + 1, 0, none⟩), .pointer (some ⟨w.heap.size, 0, none⟩)] (fun x => prinX M us m x) ((w.alloc (.cells #[.int .i64 (M : Int), .slice B1 us.length d1] 34)).alloc (.cells #[.int .i64 (m : Int)] 2)) (hX.ex e0) (by omega)
    (enters_of Try.func104 (by kernel_rfl) rfl)
    (fun W' he' j hj => by
      obtain ⟨g1, g2⟩ := im_eq hr hj
      rw [g1]
      exact pmc_ex w.heap.size (w.heap.size + 1) M m (im us j) us.length d1 B1 W' (b0.ex he') (b1.ex he') hM2 hM12 g2 hm)
  have HML : Hid (Calls Try.prog 83 #[.slice B1 us.length d1, .func (.func 104) #[] #[.pointer (some ⟨w.heap.size + 1, 0, none⟩), .pointer (some ⟨w.heap.size, 0, none⟩)]] ((w.alloc (.cells #[.int .i64 (M : Int), .slice B1 us.length d1] 34)).alloc (.cells #[.int .i64 (m : Int)] 2)) fun e w' => ∃ g c0, e = .returned (.slice (some ⟨g, 0, none⟩) us.length c0) ∧ Ex ((w.alloc (.cells #[.int .i64 (M : Int), .slice B1 us.length d1] 34)).alloc (.cells #[.int .i64 (m : Int)] 2)) w' ∧ (((w.alloc (.cells #[.int .i64 (M : Int), .slice B1 us.length d1] 34)).alloc (.cells #[.int .i64 (m : Int)] 2))).heap.size ≤ g ∧ Has w' g 2 (tab us.length fun p => .int .i64 (prinX M us m p))) := Lib.hid hml
  have HE0 := Lib.hid e0
  have c0 := b0.cell 1
  clear hml hX hr
  go_enter Try.func66, Try.ntmps66
  go_wp2_with fail
  generalize ((w.alloc (.cells #[.int .i64 (M : Int), .slice B1 us.length d1] 34)).alloc (.cells #[.int .i64 (m : Int)] 2)) = W0 at *
  refine HML.out.mono ?_
  rintro e w' ⟨g, c0', rfl, he1, hg, ho⟩
  have HO := Lib.hid ho
  have HE1 := Lib.hid he1
  have HG := Lib.hid hg
  clear ho he1 hg
  go_wp2_with fail
  go_ret
  exact ⟨g, c0', rfl, HE0.out.trans HE1.out, Nat.le_trans HE0.out.size HG.out, HO.out⟩

end Go.Proofs.Ytfafccldngekgaa
