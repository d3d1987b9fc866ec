/- Numbers in decimal, joined: both sides. -/
import Derived.Deep.RegionHeld3
import Derived.Lib.BufferRead
import Derived.Test.YtdehalkebneaoaaDoorBy
namespace Go.Proofs.YtdehalkebneaoaaDoor
open Go.RowKit

theorem ba_append (a b : List UInt8) : (⟨a.toArray⟩ : ByteArray) ++ ⟨b.toArray⟩ = ⟨(a ++ b).toArray⟩ := by
  apply ByteArray.ext
  simp

/-- The first k numbers, joined. -/
def joinL (us : List Int) : Nat → List UInt8
  | 0 => []
  | k + 1 => joinL us k ++ ((if 0 < k then [44] else []) ++ decL (nth us k).toNat)
theorem joinL_len (us : List Int) (k : Nat) : (joinL us k).length ≤ 3 * k := by
  induction k with
  | zero => simp [joinL]
  | succ k ih =>
    have := (decL_len (nth us k).toNat).2
    simp only [joinL, List.length_append]
    split <;> simp <;> omega
theorem joinL_pos (us : List Int) (k : Nat) : 0 < (joinL us (k + 1)).length := by
  have := (decL_len (nth us k).toNat).1
  simp only [joinL, List.length_append]
  omega

set_option maxHeartbeats 400000 in
theorem formatInt_in (n : Nat) (w : World) (hn : n ≤ 12) : Calls Tryd.prog 151 #[.int .i64 (n : Int), .int .i64 10] w fun e w' => e = .returned (.string (decB n)) ∧ w = w' := by
  have h0 : (0 : Int) ≤ (n : Int) := by omega
  have h1 : (n : Int) < 100 := by omega
  go_enter Tryd.func151, Tryd.ntmps151
  go_wp2_with (go_at_call 173; refine (small_any n _ hn).mono ?_; rintro e w' ⟨rfl, rfl⟩)
  go_ret
  exact ⟨rfl, rfl⟩
set_option maxHeartbeats 400000 in
theorem formatInt_any (n : Nat) (w : World) (hn : n ≤ 12) : Calls Tryd.prog 105 #[.int .i64 (n : Int), .int .i64 10] w fun e w' => e = .returned (.string (decB n)) ∧ w = w' := by
  go_enter Tryd.func105, Tryd.ntmps105
  go_wp2_with (go_at_call 151; refine (formatInt_in n _ hn).mono ?_; rintro e w' ⟨rfl, rfl⟩)
  go_ret
  exact ⟨rfl, rfl⟩

set_option maxHeartbeats 1000000 in
theorem appendUint_in (n : Nat) (A : Option Addr) (c lo : Nat) (l : List UInt8) (w : World) (hn : n ≤ 12) (hG : GrowB w lo (.slice A l.length c) l) (hl : l.length ≤ 2000) (hlo : lo ≤ w.heap.size) :
    Calls Tryd.prog 190 #[.slice A l.length c, .int .u64 (n : Int), .int .i64 10] w fun e w' => ∃ A' c', e = .returned (.slice A' (l ++ decL n).length c') ∧ GrowB w' lo (.slice A' (l ++ decL n).length c') (l ++ decL n) ∧ w.grownBy w' (Value.slice A l.length c).ownBlock := by
  have h1 : (n : Int) < 100 := by omega
  have HG := Lib.hid hG
  have hd := decL_len n
  have hsz := decB_size n
  have HS := Lib.hid hsz
  have hp : 0 < (decB n).size := by omega
  have hm : l.length + (decB n).size ≤ 1048576 := by omega
  have HL := Lib.hid (show (l ++ decL n).length = l.length + (decB n).size by rw [List.length_append, hsz])
  have HD := Lib.hid (decB_list n)
  clear hG hsz hd
  go_enter Tryd.func190, Tryd.ntmps190
  go_wp2_with (first
    | (go_at_call 173; refine (small_any n _ hn).mono ?_; rintro e w' ⟨rfl, rfl⟩)
    | (at_builtin; refine wpList_append_bytes rfl _ _ rfl lo _ l (decB n) rfl rfl HG.out hp hm hlo ?_; intro g' c' w3 hG3 hg3; have HG3 := Lib.hid hG3; have HW3 := Lib.hid hg3; clear hG3 hg3))
  go_ret
  exact ⟨some ⟨g', 0, none⟩, c', by rw [HL.out]; rfl, by rw [HL.out, ← HD.out]; exact HG3.out, HW3.out⟩

set_option maxHeartbeats 1000000 in
theorem appendInt_in (n : Nat) (A : Option Addr) (c lo : Nat) (l : List UInt8) (w : World) (hn : n ≤ 12) (hG : GrowB w lo (.slice A l.length c) l) (hl : l.length ≤ 2000) (hlo : lo ≤ w.heap.size) :
    Calls Tryd.prog 177 #[.slice A l.length c, .int .i64 (n : Int), .int .i64 10] w fun e w' => ∃ A' c', e = .returned (.slice A' (l ++ decL n).length c') ∧ GrowB w' lo (.slice A' (l ++ decL n).length c') (l ++ decL n) ∧ w.grownBy w' (Value.slice A l.length c).ownBlock := by
  have hcon := appendUint_in n A c lo l w hn hG hl hlo
  obtain ⟨ln, hln⟩ : ∃ ln, (l ++ decL n).length = ln := ⟨_, rfl⟩
  have HLN := Lib.hid hln
  rw [hln] at hcon
  have HC := Lib.hid hcon
  clear hcon hln
  have h0 : ¬ ((n : Int) < 0) := by omega
  clear hG hl hlo
  go_enter Tryd.func177, Tryd.ntmps177
  go_wp2_with fail
  refine HC.out.mono ?_
  rintro e w1 ⟨A', c', rfl, hG1, hg1⟩
  have HG1 := Lib.hid hG1
  have HW1 := Lib.hid hg1
  clear hG1 hg1
  go_wp2_with fail
  go_ret
  exact ⟨A', c', by rw [HLN.out]; rfl, by rw [HLN.out]; exact HG1.out, HW1.out⟩

set_option maxHeartbeats 1000000 in
theorem appendInt_any (n : Nat) (A : Option Addr) (c lo : Nat) (l : List UInt8) (w : World) (hn : n ≤ 12) (hG : GrowB w lo (.slice A l.length c) l) (hl : l.length ≤ 2000) (hlo : lo ≤ w.heap.size) :
    Calls Tryd.prog 152 #[.slice A l.length c, .int .i64 (n : Int), .int .i64 10] w fun e w' => ∃ A' c', e = .returned (.slice A' (l ++ decL n).length c') ∧ GrowB w' lo (.slice A' (l ++ decL n).length c') (l ++ decL n) ∧ w.grownBy w' (Value.slice A l.length c).ownBlock := by
  have hcon := appendInt_in n A c lo l w hn hG hl hlo
  obtain ⟨ln, hln⟩ : ∃ ln, (l ++ decL n).length = ln := ⟨_, rfl⟩
  have HLN := Lib.hid hln
  rw [hln] at hcon
  have HC := Lib.hid hcon
  clear hcon hln
  clear hG hl hlo
  go_enter Tryd.func152, Tryd.ntmps152
  go_wp2_with fail
  refine HC.out.mono ?_
  rintro e w1 ⟨A', c', rfl, hG1, hg1⟩
  have HG1 := Lib.hid hG1
  have HW1 := Lib.hid hg1
  clear hG1 hg1
  go_wp2_with fail
  go_ret
  exact ⟨A', c', by rw [HLN.out]; rfl, by rw [HLN.out]; exact HG1.out, HW1.out⟩

set_option maxRecDepth 100000 in
set_option maxHeartbeats 2000000 in
theorem joinNumbers_any (A : Option Addr) (us : List Int) (c : Nat) (w : World) (hX : IntsW w A us) (hl : us.length ≤ 400) (hu : InR 13 us) :
    Calls Tryd.prog 106 #[.slice A us.length c, .string ⟨#[44]⟩] w fun e w' => e = .returned (.string ⟨(joinL us us.length).toArray⟩) ∧ Ex w w' := by
  have HX := Lib.hid hX
  have HU := Lib.hid hu
  have hsep : (⟨#[44]⟩ : ByteArray).size = 1 := rfl
  have HSL : Hid ((⟨#[44]⟩ : ByteArray).data.toList = [44]) := Lib.hid rfl
  obtain ⟨sep, hse⟩ : ∃ sep : ByteArray, ⟨#[44]⟩ = sep := ⟨_, rfl⟩
  rw [hse] at hsep HSL ⊢
  have hsp : 0 < sep.size := by omega
  have HSEP := Lib.hid hsep
  clear hX hu hse hsep
  go_enter Tryd.func106, Tryd.ntmps106
  go_wp2_with fail
  go_loopw [5, 10] (fun v i wr => ∃ (k : Nat) (B : Option Addr) (d : Nat), k ≤ us.length ∧ i = .int .i64 (k : Int) ∧ v = .slice B (joinL us k).length d ∧ Hid (Ex w wr) ∧ Hid (GrowB wr w.heap.size (.slice B (joinL us k).length d) (joinL us k))) (fun _ i _ => us.length - (intOf i).toNat)
  case atStart => exact ⟨0, none, 0, Nat.zero_le _, rfl, rfl, Lib.hid (Ex.refl _), Lib.hid (GrowB.nil _ _)⟩
  case round =>
    obtain ⟨k, B, d, hk, rfl, rfl, HE, HG⟩ := hrel
    have hjl := joinL_len us k
    by_cases hlt : k < us.length
    · obtain ⟨bx, ox, rfl, hbx, hcx⟩ := HX.out.ints.at_ hlt
      have hr := HU.out k hlt
      obtain ⟨u, hu⟩ : ∃ u : Nat, nth us k = (u : Int) := ⟨(nth us k).toNat, by omega⟩
      have hxc := (HE.out.below.cell (p := ⟨bx, ox + k, none⟩) hbx).trans hcx
      rw [hu] at hr hxc
      have hu12 : u ≤ 12 := by omega
      have hz := HE.out.size
      have HJ : Hid (joinL us (k + 1) = joinL us k ++ ((if 0 < k then [44] else []) ++ decL u)) := Lib.hid (by simp [joinL, hu])
      clear hcx hr hu
      obtain ⟨l, hle⟩ : ∃ l, joinL us k = l := ⟨_, rfl⟩
      rw [hle] at HG hjl HJ ⊢
      clear hle
      by_cases h0 : 0 < k
      · rw [if_pos h0] at HJ
        have hll : l.length + sep.size ≤ 1048576 := by have := HSEP.out; omega
        have hll2 : l.length + sep.size ≤ 2000 := by have := HSEP.out; omega
        have HLS := Lib.hid (show (l ++ sep.data.toList).length = l.length + sep.size by rw [List.length_append, HSL.out, HSEP.out]; rfl)
        have HJ2 : Hid (joinL us (k + 1) = l ++ sep.data.toList ++ decL u) := Lib.hid (by rw [HJ.out, HSL.out, List.append_assoc])
        have HAI := Lib.hid (fun (B' : Option Addr) (d' : Nat) (W : World) (hG : GrowB W w.heap.size (.slice B' (l.length + sep.size) d') (l ++ sep.data.toList)) (hE : Ex w W) => by
          have h := appendInt_any u B' d' w.heap.size (l ++ sep.data.toList) W hu12 (by rw [HLS.out]; exact hG) (by rw [HLS.out]; exact hll2) hE.size
          rw [HLS.out, ← HJ2.out] at h
          exact h)
        go_wp2_with (first
          | (at_builtin; refine wpList_append_bytes rfl _ _ rfl w.heap.size _ l sep rfl rfl HG.out hsp hll hz ?_; intro g3 c3 w3 hG3 hg3; have HE3 := Lib.hid (Ex.grewB HE.out HG.out (Nat.le_refl _) hg3); have HG3 := Lib.hid hG3; clear hG3 hg3)
          | (go_at_call 152; refine (HAI.out _ _ _ HG3.out HE3.out).mono ?_; rintro e w5 ⟨A5, c5, rfl, hG5, hg5⟩; have HE5 := Lib.hid (Ex.grewB HE3.out HG3.out (Nat.le_refl _) hg5); have HG5 := Lib.hid hG5; clear hG5 hg5))
        go_roundw
        case rel => exact ⟨k + 1, A5, c5, by omega, by go_num, rfl, HE5, HG5⟩
        case measure => simp [intOf]; omega
      · rw [if_neg h0, List.nil_append] at HJ
        have HAI := Lib.hid (show Calls Tryd.prog _ _ _ _ by
          have h := appendInt_any u B d w.heap.size l wr hu12 HG.out (by omega) hz
          rw [← HJ.out] at h
          exact h)
        go_wp2_with (go_at_call 152; refine HAI.out.mono ?_; rintro e w5 ⟨A5, c5, rfl, hG5, hg5⟩; have HE5 := Lib.hid (Ex.grewB HE.out HG.out (Nat.le_refl _) hg5); have HG5 := Lib.hid hG5; clear hG5 hg5)
        go_roundw
        case rel => exact ⟨k + 1, A5, c5, by omega, by go_num, rfl, HE5, HG5⟩
        case measure => simp [intOf]; omega
    · obtain rfl : k = us.length := by omega
      have hcv := bytes_string wr w.heap.size _ _ HG.out
      go_wp2_with fail
      go_ret
      exact ⟨rfl, HE.out⟩

end Go.Proofs.YtdehalkebneaoaaDoor
