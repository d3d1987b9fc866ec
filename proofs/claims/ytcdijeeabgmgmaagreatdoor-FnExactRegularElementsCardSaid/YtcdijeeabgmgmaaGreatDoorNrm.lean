/- Cs Cf Nr in one text. -/
import Derived.IntWalk
import Derived.Deep.RegionHeld3
import Derived.Test.YtcdijeeabgmgmaaGreatDoorBts
import Derived.Test.YtcdijeeabgmgmaaGreatDoorCel
/- Sets of elements, by the specification. -/
namespace Go.Proofs.YtcdijeeabgmgmaaGreatDoor
open Go.RowKit

theorem bit_test : ∀ s : Nat, s < 256 → ∀ a : Nat, a < 8 → (bits BinOp.and IntKind.i64 ((s : Int) / 2 ^ a) 1 == 1) = s.testBit a := by decide +kernel
theorem bits_or64 : ∀ s : Nat, s < 256 → ∀ a : Nat, a < 8 → bits BinOp.or IntKind.i64 (s : Int) (wrap64 (2 ^ a)) = ((s ||| 2 ^ a : Nat) : Int) := by decide +kernel
theorem elI_selI (s : Nat) : elI s = selI (fun a => s.testBit a) 8 := rfl

set_option maxRecDepth 100000 in
set_option maxHeartbeats 1000000 in
theorem l01List_any (s : Nat) (w : World) (hs : s < 256) :
    Calls Tryz.prog 42 #[.int .i64 (s : Int)] w fun e w' => ∃ (C0 : Option Addr) (e0 : Nat), e = .returned (.slice C0 (elI s).length e0) ∧ Ex w w' ∧ OwnL w' w.heap.size w'.heap.size C0 (elI s) := by
  obtain ⟨i0, hi, hi0, hi1, hi2⟩ := info_parts infoI
  have HE0 := Lib.hid (Ex.new w (.cells #[] 2))
  have HG0 := Lib.hid (GrowI.empty (lo := w.heap.size) w (Nat.le_refl _))
  rw [elI_selI]
  go_enter Tryz.func42, Tryz.ntmps42
  go_wp2_with fail
  generalize w.alloc (.cells #[] 2) = W0 at *
  go_loopw [3, 4] (fun v i wr => ∃ k : Nat, k ≤ 8 ∧ i = .int .i64 (k : Int) ∧ Hid (Ex w wr) ∧ Hid (GrowI wr w.heap.size v (selI (fun a => s.testBit a) k).length (selI (fun a => s.testBit a) k))) (fun _ i _ => 8 - (intOf i).toNat)
  case atStart => exact ⟨0, Nat.zero_le _, rfl, HE0, HG0⟩
  case round =>
    obtain ⟨k, hk, rfl, HE, HG⟩ := hrel
    have hkl : (selI (fun a => s.testBit a) k).length ≤ k := selI_len
    by_cases hlt : k < 8
    · have hz := HE.out.size
      have hb := bit_test s hs k hlt
      cases hq : s.testBit k with
      | true =>
        rw [hq] at hb
        have HKI := Lib.hid (selI_yes (p := fun a => s.testBit a) hq)
        clear hq
        obtain ⟨xs, hxs⟩ : ∃ xs, selI (fun a => s.testBit a) k = xs := ⟨_, rfl⟩
        rw [hxs] at HG HKI hkl
        clear hxs
        go_wp2_with (at_builtin; refine wpList_append_own _ rfl _ _ 25 rfl w.heap.size 2 i0 (.int .i64 0) 1 8 Tryz.underlying25 hi hi0 hi1 hi2 rfl (by decide) _ _ _ rfl (HG.out.1.alloc _) ⟨wr.heap.size, 0, none⟩ 1 1 [.int .i64 (k : Int)] rfl rfl (cell_one_new _ _ _) (by simp [Value.oneCell']) (by unfold maxLen; omega) (by omega) (by simp; omega) ?_; intro v' w3 hown3 hgrow3 _; have G3 := HG.out.ex (Ex.new wr (.cells #[.int .i64 (k : Int)] 2)); have HE3 := Lib.hid (Ex.grew (HE.out.alloc _) G3 (Nat.le_refl _) hgrow3); have HG3 := Lib.hid (G3.snoc hown3); clear hown3 hgrow3 G3)
        go_roundw
        case rel => exact ⟨k + 1, by omega, by go_num, HE3, by rw [HKI.out, List.length_append]; exact HG3⟩
        case measure => simp [intOf]; omega
      | false =>
        rw [hq] at hb
        have HKI := Lib.hid (selI_no (p := fun a => s.testBit a) hq)
        clear hq
        go_wp2_with fail
        go_roundw
        case rel => exact ⟨k + 1, by omega, by go_num, HE, by rw [HKI.out]; exact HG⟩
        case measure => simp [intOf]; omega
    · obtain rfl : k = 8 := by omega
      obtain ⟨A', n', rfl, hO⟩ := HG.out.own
      have HO := Lib.hid hO
      clear hO
      go_wp2_with fail
      go_ret
      exact ⟨A', n', rfl, HE.out, HO.out⟩

set_option maxRecDepth 100000 in
set_option maxHeartbeats 1000000 in
theorem l01Bits_any (L : Option Addr) (xs : List Int) (c N : Nat) (w : World) (hX : IntsW w L xs) (hx : xs.length ≤ 1048576) (hN : N ≤ 8) (hr : ∀ i, i < xs.length → 0 ≤ nth xs i ∧ nth xs i < N) :
    Calls Tryz.prog 143 #[.slice L xs.length c] w fun e w' => e = .returned (.int .i64 (bitsK xs xs.length : Int)) ∧ w = w' := by
  have HX := Lib.hid hX
  have HR := Lib.hid hr
  have HL := Lib.hid (fun k hk => lt256 hN (bitsK_lt hr k hk))
  clear hX hr
  go_enter Tryz.func143, Tryz.ntmps143
  go_wp2_with fail
  go_loop [3, 4] (fun s i => ∃ k : Nat, k ≤ xs.length ∧ i = .int .i64 (k : Int) ∧ s = .int .i64 (bitsK xs k : Int)) (fun _ i => xs.length - (intOf i).toNat)
  case atStart => exact ⟨0, Nat.zero_le _, rfl, rfl⟩
  case round =>
    obtain ⟨k, hk, rfl, rfl⟩ := hrel
    by_cases hlt : k < xs.length
    · obtain ⟨bx, ox, rfl, hbx, hcx⟩ := HX.out.ints.at_ hlt
      have hxr := HR.out k hlt
      obtain ⟨x, hx2⟩ : ∃ x : Nat, nth xs k = (x : Int) := ⟨(nth xs k).toNat, by omega⟩
      have hl2 := HL.out k hk
      have HBK : Hid (bitsK xs (k + 1) = bitsK xs k ||| 2 ^ x) := Lib.hid (by simp [bitsK, hx2])
      rw [hx2] at hcx hxr
      have hx8 : x < 8 := by omega
      obtain ⟨s, hs⟩ : ∃ s, bitsK xs k = s := ⟨_, rfl⟩
      rw [hs] at hl2 HBK ⊢
      clear hs hx2
      have hbo := bits_or64 s hl2 x hx8
      go_wp2_with fail
      go_round
      case rel => exact ⟨k + 1, by omega, by go_num, by rw [HBK.out]⟩
      case measure => simp [intOf]; omega
    · obtain rfl : k = xs.length := by omega
      go_wp2_with fail
      go_ret
      exact ⟨rfl, rfl⟩

/-- The code of a group and a set of elements. -/
noncomputable def setC (t : List (List Int)) (xs : List Int) : Int := if grpB t = true then (if setB t.length xs = true then 0 else 2) else 1
section
variable {t : List (List Int)} {xs : List Int}
theorem setC_no (h : grpB t = false) : setC t xs = 1 := by simp [setC, h]
theorem setC_out (h : grpB t = true) (h2 : setB t.length xs = false) : setC t xs = 2 := by simp [setC, h, h2]
theorem setC_yes (h : grpB t = true) (h2 : setB t.length xs = true) : setC t xs = 0 := by simp [setC, h, h2]
end

set_option maxRecDepth 100000 in
set_option maxHeartbeats 1000000 in
theorem l01Set_any (A L : Option Addr) (t : List (List Int)) (xs : List Int) (c c' : Nat) (w : World) (hR : RwsW w A t) (hX : IntsW w L xs) (hs : SmallT t) (hx : xs.length ≤ 1048576) :
    Calls Tryz.prog 120 #[.agg #[.slice A t.length c], .slice L xs.length c'] w fun e w' => e = .returned (.int .i64 (setC t xs)) ∧ Ex w w' := by
  have e0 : Ex w (w.alloc (.cells #[.slice A t.length c] 32)) := (Ex.refl w).alloc _
  have b0 : Has (w.alloc (.cells #[.slice A t.length c] 32)) (w.heap.size) 32 #[.slice A t.length c] := (Has.newAt (w := w) (e := 32) (cs := #[.slice A t.length c]) (k := w.heap.size) (by simp))
  have HC := Lib.hid (l01Elements_any A L t xs c c' _ _ _ (hR.ex e0).rws (hX.ex e0).ints (Nat.le_refl _) (Nat.le_refl _) hs.1 hs.2 hx)
  have HX := Lib.hid (hX.ex e0)
  have c0 := b0.cell 0
  clear hR hX
  by_cases hg : IsGrp t
  · by_cases hr : InR t.length xs
    · have h0 : elemR t xs = 0 := by simp [elemR, hg, hr]
      rw [h0] at HC
      have hgb := grpB_true hg
      clear h0
      go_enter Tryz.func120, Tryz.ntmps120
      go_wp2_with fail
      generalize (w.alloc (.cells #[.slice A t.length c] 32)) = W0 at *
      refine HC.out.mono ?_
      rintro e W1 ⟨rfl, he1⟩
      have HE1 := Lib.hid (e0.trans he1)
      have HX1 := Lib.hid (HX.out.ex he1)
      have HRR := Lib.hid hr
      have HGB := Lib.hid hgb
      clear b0 e0 he1 c0 HX hr hgb hg
      go_wp2_with fail
      go_loopw [6] (fun i wr => ∃ k : Nat, 1 ≤ k ∧ (k ≤ xs.length ∨ k = 1) ∧ i = .int .i64 (k : Int) ∧ Hid (ascP xs k) ∧ Hid (Ex W1 wr)) (fun i _ => xs.length + 1 - (intOf i).toNat)
      case atStart => exact ⟨1, Nat.le_refl _, .inr rfl, rfl, Lib.hid fun i h0 h1 => absurd h0 (by omega), Lib.hid (Ex.refl _)⟩
      case round =>
        obtain ⟨k, hk1, hk, rfl, HA, HE⟩ := hrel
        by_cases hlt : k < xs.length
        · obtain ⟨bx, ox, rfl, hbx, hcx⟩ := (HX1.out.ex HE.out).ints.at_ hlt
          have hcy : wr.cell? ⟨bx, ox + (k - 1), none⟩ = some (.int .i64 (nth xs (k - 1))) := by
            obtain ⟨by_, oy, ey, _, hy⟩ := (HX1.out.ex HE.out).ints.at_ (show k - 1 < xs.length by omega)
            cases ey
            exact hy
          obtain ⟨j, rfl⟩ : ∃ j, k = j + 1 := ⟨k - 1, by omega⟩
          rw [Nat.add_sub_cancel] at hcy
          have hkj : ((j + 1 : Nat) : Int) - 1 = (j : Int) := by omega
          by_cases hq : nth xs j < nth xs (j + 1)
          · have hd : decide (nth xs (j + 1) ≤ nth xs j) = false := by simp; omega
            have HQ := Lib.hid hq
            clear hq
            go_wp2_with fail
            go_quiet (fail)
            go_wp2_with fail
            go_roundw
            case rel => exact ⟨j + 1 + 1, by omega, .inl (by omega), by go_num, Lib.hid (fun i h0 h1 => by
              rcases Nat.lt_or_ge i (j + 1) with h | h
              · exact HA.out i h0 h
              · obtain rfl : i = j + 1 := by omega
                exact HQ.out), Lib.hid (Ex.drewN HE.out _)⟩
            case measure => simp [intOf]; omega
          · have hd : decide (nth xs (j + 1) ≤ nth xs j) = true := by simp; omega
            have HQ := Lib.hid hq
            clear hq
            go_wp2_with fail
            go_quiet (fail)
            go_wp2_with fail
            go_ret
            exact ⟨by rw [setC_out HGB.out (setB_asc (i := j + 1) (by omega) hlt (by have h := HQ.out; rw [Nat.add_sub_cancel]; omega))]; rfl, HE1.out.trans (Ex.drewN HE.out _)⟩
        · go_wp2_with fail
          go_ret
          exact ⟨by
            have h : setB t.length xs = true := setB_true.2 ⟨HRR.out, fun i h0 h1 => HA.out i h0 (by omega)⟩
            rw [setC_yes HGB.out h]
            rfl, HE1.out.trans HE.out⟩
    · have h0 : elemR t xs = 2 := by simp [elemR, hg, hr]
      rw [h0] at HC
      have HQ : Hid (setC t xs = 2) := Lib.hid (setC_out (grpB_true hg) (by rw [Bool.eq_false_iff]; exact fun h => hr (setB_true.1 h).1))
      clear h0 hr hg
      go_enter Tryz.func120, Tryz.ntmps120
      go_wp2_with fail
      generalize (w.alloc (.cells #[.slice A t.length c] 32)) = W0 at *
      refine HC.out.mono ?_
      rintro e W1 ⟨rfl, he1⟩
      go_wp2_with fail
      go_ret
      exact ⟨by rw [HQ.out]; rfl, e0.trans he1⟩
  · have h0 : elemR t xs = 1 := by simp [elemR, hg]
    rw [h0] at HC
    have HQ : Hid (setC t xs = 1) := Lib.hid (setC_no (grpB_false hg))
    clear h0 hg
    go_enter Tryz.func120, Tryz.ntmps120
    go_wp2_with fail
    generalize (w.alloc (.cells #[.slice A t.length c] 32)) = W0 at *
    refine HC.out.mono ?_
    rintro e W1 ⟨rfl, he1⟩
    go_wp2_with fail
    go_ret
    exact ⟨by rw [HQ.out]; rfl, e0.trans he1⟩

theorem bits_or1 : ∀ s : Nat, s < 256 → bits BinOp.or IntKind.i64 (s : Int) 1 = ((s ||| 1 : Nat) : Int) := by decide +kernel
theorem bits_new : ∀ s : Nat, s < 256 → ∀ a : Nat, a < 8 → (bits BinOp.and IntKind.i64 (s : Int) (wrap64 (2 ^ a)) == 0) = !s.testBit a := by decide +kernel
theorem or_has : ∀ s : Nat, s < 256 → ∀ a : Nat, a < 8 → s.testBit a = true → s ||| 2 ^ a = s := by decide +kernel
theorem or_new : ∀ s : Nat, s < 256 → ∀ a : Nat, a < 8 → s.testBit a = false → s < s ||| 2 ^ a := by decide +kernel
theorem nth_elI {s i : Nat} (h : i < (elN s).length) : nth (elI s) i = (((elN s)[i]'h : Nat) : Int) := by simp [nth, elI, h]
/-- Is more wanted? -/
def moreN : Value → Nat
  | .bool true => 1
  | _ => 0

set_option maxRecDepth 100000 in
set_option maxHeartbeats 4000000 in
theorem l01Closed_any (A : Option Addr) (t : List (List Int)) (c s : Nat) (w : World) (hR : RwsW w A t) (hg : IsGrp t) (hs : s < 2 ^ t.length) :
    Calls Tryz.prog 142 #[.agg #[.slice A t.length c], .int .i64 (s : Int)] w fun e w' => e = .returned (.int .i64 (clo t (s ||| 1) : Int)) ∧ Ex w w' := by
  obtain ⟨b, o, bb, oo, C, rfl, hQ⟩ := hR.sq hg
  have e0 : Ex w (w.alloc (.cells #[.slice (some ⟨b, o, none⟩) t.length c] 32)) := (Ex.refl w).alloc _
  have b0 : Has (w.alloc (.cells #[.slice (some ⟨b, o, none⟩) t.length c] 32)) (w.heap.size) 32 #[.slice (some ⟨b, o, none⟩) t.length c] := (Has.newAt (w := w) (e := 32) (cs := #[.slice (some ⟨b, o, none⟩) t.length c]) (k := w.heap.size) (by simp))
  have hn8 := hg.n8
  have HGR := Lib.hid hg
  have HQ := Lib.hid (hQ.exB e0 (Nat.le_refl _))
  have HE0 := Lib.hid e0
  have HB0 := Lib.hid b0
  have ho1 := bits_or1 s (lt256 hn8 hs)
  have h1 : s ||| 1 < 2 ^ t.length := or_lt (x := 0) hs hg.n1
  obtain ⟨s1, hs1⟩ : ∃ s1, s ||| 1 = s1 := ⟨_, rfl⟩
  rw [hs1] at ho1 h1 ⊢
  have H1 := Lib.hid h1
  clear hQ hR hs hs1 h1 hg
  go_enter Tryz.func142, Tryz.ntmps142
  go_wp2_with fail
  generalize (w.alloc (.cells #[.slice (some ⟨b, o, none⟩) t.length c] 32)) = W0 at *
  clear ho1 e0 b0
  go_loopw [1, 5] (fun v m wr => ∃ (k : Nat) (q : Bool), v = .int .i64 (itS t s1 k : Int) ∧ m = .bool q ∧ Hid (q = false → stp t (itS t s1 k) = itS t s1 k) ∧ Hid (Ex W0 wr)) (fun v m _ => 2 * (256 - (intOf v).toNat) + moreN m)
  case atStart => exact ⟨0, true, rfl, rfl, Lib.hid (fun h => by cases h), Lib.hid (Ex.refl _)⟩
  case round =>
    obtain ⟨k, q, rfl, rfl, HF, HE⟩ := hrel
    cases q with
    | false =>
      have HFF := Lib.hid (clo_at (HF.out rfl))
      clear HF
      go_wp2_with fail
      go_ret
      exact ⟨by rw [HFF.out]; rfl, HE0.out.trans HE.out⟩
    | true =>
      have hlt := itS_lt HGR.out H1.out k
      have hs256 := lt256 hn8 hlt
      have HST : Hid (itS t s1 (k + 1) = stp t (itS t s1 k)) := Lib.hid rfl
      have hge := stp_ge (t := t) (itS t s1 k)
      have hlt2 := lt256 hn8 (stp_lt HGR.out hlt)
      have HLT := Lib.hid hlt
      obtain ⟨u, hu⟩ : ∃ u, itS t s1 k = u := ⟨_, rfl⟩
      rw [hu] at hs256 HST hge hlt2 HLT ⊢
      clear HF hlt
      have HU := Lib.hid hu
      clear hu
      have HLI := Lib.hid (l01List_any u wr hs256)
      go_wp2_with fail
      refine HLI.out.mono ?_
      rintro e W2 ⟨Cl, el, rfl, he2, ho2⟩
      have HIN := Lib.hid ho2.ints
      have HE2 := Lib.hid (HE.out.trans he2)
      have hll : (elI u).length = (elN u).length := elI_len u
      have hl8 := elN_len u hs256
      rw [hll]
      have HLL := Lib.hid hll
      have HEL := Lib.hid (fun a (ha : a ∈ elN u) => el_lt HLT.out ha)
      clear he2 ho2 HLI HE hll
      obtain ⟨L, hL⟩ : ∃ L, (elN u).length = L := ⟨_, rfl⟩
      rw [hL] at hl8 ⊢
      have HL := Lib.hid hL
      clear hL
      go_wp2_with fail
      go_loopw [1, 5, 7] (fun v m i wr => ∃ j : Nat, j ≤ L ∧ i = .int .i64 (j : Int) ∧ v = .int .i64 (tabS t (elN u) u ((elN u).take j) : Int) ∧ m = .bool (tabS t (elN u) u ((elN u).take j) != u) ∧ Hid (Ex W0 wr) ∧ Hid (Ex W2 wr)) (fun _ _ i _ => L - (intOf i).toNat)
      case atStart => exact ⟨0, Nat.zero_le _, rfl, rfl, by simp [tabS], HE2, Lib.hid (Ex.refl _)⟩
      case round =>
        obtain ⟨j, hj, rfl, rfl, rfl, HE3, HE4⟩ := hrel
        by_cases hjl : j < L
        · have hjl' : j < (elN u).length := by rw [HL.out]; exact hjl
          obtain ⟨a, ha⟩ : ∃ a, (elN u)[j]'hjl' = a := ⟨_, rfl⟩
          have haN : a < t.length := HEL.out a (ha ▸ List.getElem_mem hjl')
          have HTK : Hid ((elN u).take (j + 1) = (elN u).take j ++ [a]) := Lib.hid (by rw [List.take_succ_eq_append_getElem hjl', ha])
          have HNJ : Hid (nth (elI u) j = (a : Int)) := Lib.hid (by rw [nth_elI hjl', ha])
          have hT : tabS t (elN u) u ((elN u).take j) < 2 ^ t.length := tabS_lt HGR.out HEL.out (fun x hx => HEL.out x (List.mem_of_mem_take hx)) HLT.out
          have hTg := tabS_ge (t := t) (elN u) ((elN u).take j) u
          have HTS : Hid (tabS t (elN u) u ((elN u).take j ++ [a]) = rowS t a (tabS t (elN u) u ((elN u).take j)) (elN u)) := Lib.hid (tabS_snoc _ _ _ _)
          rw [← HTK.out] at HTS
          obtain ⟨T, hTe⟩ : ∃ T, tabS t (elN u) u ((elN u).take j) = T := ⟨_, rfl⟩
          rw [hTe] at hT hTg HTS ⊢
          have HT := Lib.hid hT
          have HTG := Lib.hid hTg
          clear hTe ha hjl' hT hTg
          go_wp2_with fail
          go_loopw [1, 5, 8] (fun v m i wr => ∃ l : Nat, l ≤ L ∧ i = .int .i64 (l : Int) ∧ v = .int .i64 (rowS t a T ((elN u).take l) : Int) ∧ m = .bool (rowS t a T ((elN u).take l) != u) ∧ Hid (Ex W0 wr) ∧ Hid (Ex W2 wr)) (fun _ _ i _ => L - (intOf i).toNat)
          case atStart => exact ⟨0, Nat.zero_le _, rfl, rfl, rfl, HE3, HE4⟩
          case round =>
            obtain ⟨l, hl, rfl, rfl, rfl, HE5, HE6⟩ := hrel
            by_cases hll : l < L
            · have hll' : l < (elN u).length := by rw [HL.out]; exact hll
              obtain ⟨d, hd⟩ : ∃ d, (elN u)[l]'hll' = d := ⟨_, rfl⟩
              have hdN : d < t.length := HEL.out d (hd ▸ List.getElem_mem hll')
              have HRS : Hid (rowS t a T ((elN u).take (l + 1)) = rowS t a T ((elN u).take l) ||| 2 ^ mul t a d) := Lib.hid (by rw [List.take_succ_eq_append_getElem hll', hd, rowS_snoc])
              have hRl := lt256 hn8 (rowS_lt HGR.out haN (fun x hx => HEL.out x (List.mem_of_mem_take hx)) HT.out : rowS t a T ((elN u).take l) < 2 ^ t.length)
              have hRg := Nat.le_trans HTG.out (rowS_ge (t := t) a ((elN u).take l) T)
              obtain ⟨bx, ox, rfl, hbx, hcx⟩ := (HIN.out.ex HE6.out).ints.at_ (show j < (elI u).length by rw [HLL.out, HL.out]; exact hjl)
              have hcy : wr.cell? ⟨bx, ox + l, none⟩ = some (.int .i64 (d : Int)) := by
                obtain ⟨by_, oy, ey, _, hy⟩ := (HIN.out.ex HE6.out).ints.at_ (show l < (elI u).length by rw [HLL.out, HL.out]; exact hll)
                cases ey
                rw [nth_elI hll', hd] at hy
                exact hy
              rw [HNJ.out] at hcx
              have hq := HQ.out.below (Ex.below HE5.out) HE0.out.size
              have hra := hq.row_ haN
              have hea : wr.cell? ⟨bb a, oo a + d, none⟩ = some (.int .i64 (mul t a d : Int)) := by rw [hq.ent_ haN hdN, HGR.out.ent haN hdN]
              have hm8 : mul t a d < 8 := by have := HGR.out.mul_lt haN hdN; omega
              have c0 := (HB0.out.ex HE5.out).cell 0
              clear hq hd hll'
              obtain ⟨x, hx⟩ : ∃ x, mul t a d = x := ⟨_, rfl⟩
              rw [hx] at HRS hea hm8
              obtain ⟨R, hRe⟩ : ∃ R, rowS t a T ((elN u).take l) = R := ⟨_, rfl⟩
              rw [hRe] at HRS hRl hRg ⊢
              clear hx hRe
              have hbo := bits_or64 R hRl x hm8
              have hbn := bits_new R hRl x hm8
              cases hb : R.testBit x with
              | true =>
                rw [hb] at hbn
                have hor := or_has R hRl x hm8 hb
                rw [hor] at HRS
                clear hb hor hbo
                go_wp2_with fail
                go_quiet (fail)
                go_wp2_with fail
                go_roundw
                case rel => exact ⟨l + 1, by omega, by go_num, by rw [HRS.out], by rw [HRS.out], Lib.hid (Ex.drewN HE5.out _), Lib.hid (Ex.drewN HE6.out _)⟩
                case measure => simp [intOf]; omega
              | false =>
                rw [hb] at hbn
                have hgt := or_new R hRl x hm8 hb
                have HNE : Hid ((R ||| 2 ^ x != u) = true) := Lib.hid (by simp; omega)
                clear hb hgt
                go_wp2_with fail
                go_quiet (fail)
                go_wp2_with fail
                go_roundw
                case rel => exact ⟨l + 1, by omega, by go_num, by rw [HRS.out], by rw [HRS.out, HNE.out], Lib.hid (Ex.drewN HE5.out _), Lib.hid (Ex.drewN HE6.out _)⟩
                case measure => simp [intOf]; omega
            · obtain rfl : l = L := by omega
              have HTA : Hid (rowS t a T ((elN u).take l) = tabS t (elN u) u ((elN u).take (j + 1))) := Lib.hid (by rw [HTS.out, List.take_of_length_le (by rw [HL.out]; exact Nat.le_refl _)])
              obtain ⟨R, hRe⟩ : ∃ R, rowS t a T ((elN u).take l) = R := ⟨_, rfl⟩
              rw [hRe] at HTA ⊢
              clear hRe
              go_wp2_with fail
              go_roundw
              case rel => exact ⟨j + 1, by omega, by go_num, by rw [HTA.out], by rw [HTA.out], HE5, HE6⟩
              case measure => simp [intOf]; omega
        · obtain rfl : j = L := by omega
          have HTL : Hid (tabS t (elN u) u ((elN u).take j) = stp t u) := Lib.hid (by rw [List.take_of_length_le (by rw [HL.out]; exact Nat.le_refl _)]; rfl)
          rw [HTL.out]
          obtain ⟨S, hS⟩ : ∃ S, stp t u = S := ⟨_, rfl⟩
          have HSE : Hid ((S != u) = false → stp t (itS t s1 (k + 1)) = itS t s1 (k + 1)) := Lib.hid (fun h => by
            have h2 : stp t u = u := by rw [hS]; simpa using h
            rw [HST.out, h2, h2])
          rw [hS] at HST hge hlt2 ⊢
          clear hS HTL
          have hms : 2 * (256 - S) + moreN (.bool (S != u)) < 2 * (256 - u) + 1 := by
            by_cases h : S = u
            · subst h
              simp [moreN]
            · have : moreN (.bool (S != u)) ≤ 1 := by unfold moreN; split <;> omega
              omega
          obtain ⟨q, hq⟩ : ∃ q, (S != u) = q := ⟨_, rfl⟩
          rw [hq] at HSE hms ⊢
          clear hq
          go_wp2_with fail
          go_roundw
          case rel => exact ⟨k + 1, q, by rw [HST.out], rfl, HSE, HE3⟩
          case measure => simp [intOf, moreN]; exact hms

end Go.Proofs.YtcdijeeabgmgmaaGreatDoor

/- Sets of what a function of two elements gives. No program here. -/
namespace Go.Proofs.YtcdijeeabgmgmaaGreatDoor

def rowF (f : Nat → Nat → Nat) (a m : Nat) (bs : List Nat) : Nat := bs.foldl (fun m b => m ||| 2 ^ f a b) m
def tabF (f : Nat → Nat → Nat) (l : List Nat) (m : Nat) (ys : List Nat) : Nat := ys.foldl (fun m a => rowF f a m l) m
section
variable {f : Nat → Nat → Nat}
theorem rowF_snoc (a m : Nat) (bs : List Nat) (b : Nat) : rowF f a m (bs ++ [b]) = rowF f a m bs ||| 2 ^ f a b := by simp [rowF, List.foldl_append]
theorem tabF_snoc (l : List Nat) (m : Nat) (ys : List Nat) (a : Nat) : tabF f l m (ys ++ [a]) = rowF f a (tabF f l m ys) l := by simp [tabF, List.foldl_append]
theorem rowF_lt {N a : Nat} {bs : List Nat} (h : ∀ b ∈ bs, f a b < N) : ∀ {m : Nat}, m < 2 ^ N → rowF f a m bs < 2 ^ N := by
  induction bs with
  | nil => exact fun hm => hm
  | cons b bs ih => exact fun hm => ih (fun x hx => h x (List.mem_cons_of_mem _ hx)) (or_lt hm (h b (List.mem_cons_self ..)))
theorem tabF_lt {N : Nat} {l ys : List Nat} (h : ∀ a ∈ ys, ∀ b ∈ l, f a b < N) : ∀ {m : Nat}, m < 2 ^ N → tabF f l m ys < 2 ^ N := by
  induction ys with
  | nil => exact fun hm => hm
  | cons a ys ih => exact fun hm => ih (fun x hx => h x (List.mem_cons_of_mem _ hx)) (rowF_lt (h a (List.mem_cons_self ..)) hm)
theorem rowF_or (a k : Nat) (bs : List Nat) : ∀ m : Nat, rowF f a (m ||| k) bs = rowF f a m bs ||| k := by
  induction bs with
  | nil => exact fun m => rfl
  | cons b bs ih =>
    intro m
    show rowF f a (m ||| k ||| 2 ^ f a b) bs = rowF f a (m ||| 2 ^ f a b) bs ||| k
    rw [Nat.or_assoc, Nat.or_comm k, ← Nat.or_assoc, ih]
theorem tabF_or (l : List Nat) (k : Nat) (ys : List Nat) : ∀ m : Nat, tabF f l (m ||| k) ys = tabF f l m ys ||| k := by
  induction ys with
  | nil => exact fun m => rfl
  | cons a ys ih =>
    intro m
    show tabF f l (rowF f a (m ||| k) l) ys = tabF f l (rowF f a m l) ys ||| k
    rw [rowF_or, ih]
end

/-- (a b a') b' -/
noncomputable def com (t : List (List Int)) (a b : Nat) : Nat := mul t (con t b a) (iv t b)
theorem com_lt {t : List (List Int)} (h : IsGrp t) {a b : Nat} (ha : a < t.length) (hb : b < t.length) : com t a b < t.length := h.mul_lt (con_lt h hb ha) (iv_spec h hb).1
/-- The set of all of them. -/
noncomputable def derS (t : List (List Int)) : Nat := tabF (com t) (List.range t.length) 0 (List.range t.length)
theorem derS_lt {t : List (List Int)} (h : IsGrp t) : derS t < 2 ^ t.length := tabF_lt (fun _ ha _ hb => com_lt h (List.mem_range.1 ha) (List.mem_range.1 hb)) (Nat.two_pow_pos _)
theorem derS_one (t : List (List Int)) : tabF (com t) (List.range t.length) 1 (List.range t.length) = derS t ||| 1 := tabF_or (List.range t.length) 1 (List.range t.length) 0
theorem or_one_one (s : Nat) : s ||| 1 ||| 1 = s ||| 1 := by rw [Nat.or_assoc, Nat.or_self]

end Go.Proofs.YtcdijeeabgmgmaaGreatDoor

/- Normal subgroups: the specification's side. -/
namespace Go.Proofs.YtcdijeeabgmgmaaGreatDoor
open Go.RowKit

theorem bitsK_bit (xs : List Int) (a : Nat) : ∀ k, (bitsK xs k).testBit a = decide (∃ i, i < k ∧ (nth xs i).toNat = a)
  | 0 => by simp [bitsK]
  | k + 1 => by
    rw [bitsK, with_bit, bitsK_bit xs a k, Bool.eq_iff_iff]
    simp only [Bool.or_eq_true, decide_eq_true_eq]
    constructor
    · rintro (⟨i, h1, h2⟩ | h)
      · exact ⟨i, by omega, h2⟩
      · exact ⟨k, by omega, h⟩
    · rintro ⟨i, h1, h2⟩
      rcases Nat.lt_or_ge i k with h | h
      · exact .inl ⟨i, h, h2⟩
      · obtain rfl : i = k := by omega
        exact .inr h2
theorem asc_ge {xs : List Int} (h : ascP xs xs.length) : ∀ i, i < xs.length → nth xs 0 + i ≤ nth xs i
  | 0, _ => by simp
  | i + 1, hi => by
    have h1 := asc_ge h i (by omega)
    have h2 := h (i + 1) (by omega) hi
    rw [Nat.add_sub_cancel] at h2
    omega
theorem first_zero {N : Nat} {xs : List Int} (h : setB N xs = true) : (bitsK xs xs.length).testBit 0 = decide (0 < xs.length ∧ nth xs 0 = 0) := by
  obtain ⟨hr, ha⟩ := setB_true.1 h
  rw [bitsK_bit, Bool.eq_iff_iff]
  simp only [decide_eq_true_eq]
  constructor
  · rintro ⟨i, h1, h2⟩
    have h3 := hr i h1
    have h4 := asc_ge ha i h1
    have h5 := hr 0 (by omega)
    exact ⟨by omega, by omega⟩
  · rintro ⟨h1, h2⟩
    exact ⟨0, h1, by rw [h2]; rfl⟩

/-- Is a set a subgroup? -/
def subB (t : List (List Int)) (s : Nat) : Bool := s.testBit 0 && stp t s == s
theorem clo_same {t : List (List Int)} (h : IsGrp t) {s : Nat} (hs : s < 2 ^ t.length) (h0 : s.testBit 0 = true) : ((clo t (s ||| 1) : Int) == (s : Int)) = (stp t s == s) := by
  have h1 : s ||| 1 = s := or_has s (lt256 h.n8 hs) 0 (by omega) h0
  rw [h1, Bool.eq_iff_iff]
  simp only [beq_iff_eq, Int.natCast_inj]
  constructor
  · intro e
    obtain ⟨k, hk⟩ := clo_ex h hs
    rw [clo_at hk] at e
    rw [e] at hk
    exact hk
  · intro e
    exact clo_at (k := 0) e
/-- Does each element lead a set into itself? -/
def NorP (t : List (List Int)) (s : Nat) : Prop := ∀ b, b ∈ elN s → ∀ c, c < t.length → s.testBit (con t b c) = true
open Classical in
noncomputable def norB (t : List (List Int)) (s : Nat) : Bool := decide (NorP t s)
theorem norB_true {t : List (List Int)} {s : Nat} (h : NorP t s) : norB t s = true := by simp [norB, h]
theorem norB_false {t : List (List Int)} {s : Nat} (h : ¬ NorP t s) : norB t s = false := by simp [norB, h]
theorem el_list {N : Nat} {xs : List Int} (hN : N ≤ 8) (h : ∀ i, i < xs.length → 0 ≤ nth xs i ∧ nth xs i < N) {i : Nat} (hi : i < xs.length) : (nth xs i).toNat ∈ elN (bitsK xs xs.length) := by
  have := h i hi
  exact List.mem_filter.2 ⟨List.mem_range.2 (by omega), by rw [bitsK_bit]; exact decide_eq_true ⟨i, hi, rfl⟩⟩
theorem list_el {xs : List Int} {b : Nat} (h : b ∈ elN (bitsK xs xs.length)) : ∃ i, i < xs.length ∧ (nth xs i).toNat = b := by
  have h1 := (List.mem_filter.1 h).2
  rw [bitsK_bit] at h1
  exact of_decide_eq_true h1

theorem bit_zero : ∀ s : Nat, s < 256 → ∀ a : Nat, a < 8 → (bits BinOp.and IntKind.i64 ((s : Int) / 2 ^ a) 1 == 0) = !s.testBit a := by decide +kernel

set_option maxRecDepth 100000 in
set_option maxHeartbeats 2000000 in
theorem l01Subgroup_any (A L : Option Addr) (t : List (List Int)) (xs : List Int) (c c' : Nat) (w : World) (hR : RwsW w A t) (hX : IntsW w L xs) (hg : IsGrp t) (hx : xs.length ≤ 1048576) (hb : setB t.length xs = true) :
    Calls Tryz.prog 121 #[.agg #[.slice A t.length c], .slice L xs.length c'] w fun e w' => e = .returned (.bool (subB t (bitsK xs xs.length))) ∧ Ex w w' := by
  have e0 : Ex w (w.alloc (.cells #[.slice A t.length c] 32)) := (Ex.refl w).alloc _
  have b0 : Has (w.alloc (.cells #[.slice A t.length c] 32)) (w.heap.size) 32 #[.slice A t.length c] := (Has.newAt (w := w) (e := 32) (cs := #[.slice A t.length c]) (k := w.heap.size) (by simp))
  have hr := (setB_true.1 hb).1
  have hbl := bitsK_lt hr xs.length (Nat.le_refl _)
  have hf0 := first_zero hb
  have HBI := Lib.hid (fun W (he : Ex w W) => (l01Bits_any L xs c' t.length W (hX.ex he) hx hg.n8 hr).mono fun _ _ h => And.intro h.1 (Ex.of_eq' h.2))
  have HCL := Lib.hid (fun W (he : Ex w W) => l01Closed_any A t c (bitsK xs xs.length) W (hR.ex he) hg hbl)
  have HE0 := Lib.hid e0
  by_cases h0 : 0 < xs.length
  · obtain ⟨bx, ox, rfl, hbx, hcx⟩ := hX.ints.at_ h0
    rw [Nat.add_zero] at hcx
    have HL0 := Lib.hid (fun W (he : Ex w W) => (he.below.cell (p := ⟨bx, ox, none⟩) hbx).trans hcx)
    have hgt : decide ((0 : Int) < (xs.length : Int)) = true := decide_eq_true (by omega)
    by_cases hz : nth xs 0 = 0
    · have hbit : (bitsK xs xs.length).testBit 0 = true := by rw [hf0]; exact decide_eq_true ⟨h0, hz⟩
      have HQ : Hid (subB t (bitsK xs xs.length) = ((clo t (bitsK xs xs.length ||| 1) : Int) == (bitsK xs xs.length : Int))) := Lib.hid (by rw [clo_same hg hbl hbit, subB, hbit, Bool.true_and])
      rw [hz] at HL0
      obtain ⟨u, hu⟩ : ∃ u, bitsK xs xs.length = u := ⟨_, rfl⟩
      rw [hu] at HQ HBI HCL ⊢
      obtain ⟨v, hv⟩ : ∃ v, clo t (u ||| 1) = v := ⟨_, rfl⟩
      rw [hv] at HQ HCL
      obtain ⟨q, hq⟩ : ∃ q, ((v : Int) == (u : Int)) = q := ⟨_, rfl⟩
      rw [hq] at HQ
      clear hR hX hg hb hr hbl hf0 hcx hbit hu hv hz
      go_enter Tryz.func121, Tryz.ntmps121
      go_wp2_with fail
      generalize (w.alloc (.cells #[.slice A t.length c] 32)) = W0 at *
      have HF := Lib.hid (fun (W' : World) (hb : Ex W0.drew W') => And.intro ((Has.ex (w := W0.drew) b0 hb).cell 0) (HL0.out W' (HE0.out.drew.trans hb)))
      clear b0 e0
      refine wp_region_quiet (C := fun w' => Ex W0.drew w') (by kernel_rfl) (by kernel_rfl) (Ex.refl _) ?_
      refine BigFrame.wpQuiet_want (by rfl) fun K hK => ⟨?_, fun w' hC => ?_, hK _ ?_⟩
      rotate_left
      · (obtain ⟨q0, q1⟩ := HF.out _ hC; go_simp; first | done | with_reducible rfl | exact ⟨rfl, hC⟩)
      clear hK K
      simp only [Act.put, List.setIfInBounds_toArray, List.set_cons_zero, List.set_cons_succ]
      refine BigFrame.wpQuiet_want (by rfl) fun K hK => ⟨?_, fun w' hC => ?_, hK _ ?_⟩
      rotate_left
      · (obtain ⟨q0, q1⟩ := HF.out _ hC; go_simp; first | done | with_reducible rfl | exact ⟨rfl, hC⟩)
      clear hK K
      simp only [Act.put, List.setIfInBounds_toArray, List.set_cons_zero, List.set_cons_succ]
      refine BigFrame.wpQuiet_want (by rfl) fun K hK => ⟨?_, fun w' hC => ?_, hK _ ?_⟩
      rotate_left
      · (obtain ⟨q0, q1⟩ := HF.out _ hC; go_simp; first | done | with_reducible rfl | exact ⟨rfl, hC⟩)
      clear hK K
      simp only [Act.put, List.setIfInBounds_toArray, List.set_cons_zero, List.set_cons_succ]
      refine BigFrame.wpQuiet_want (by rfl) fun K hK => ⟨?_, fun w' hC => ?_, hK _ ?_⟩
      rotate_left
      · (obtain ⟨q0, q1⟩ := HF.out _ hC; go_simp; first | done | with_reducible rfl | exact ⟨rfl, hC⟩)
      clear hK K
      simp only [Act.put, List.setIfInBounds_toArray, List.set_cons_zero, List.set_cons_succ]
      refine BigFrame.wpQuiet_want (by rfl) fun K hK => ⟨?_, fun w' hC => ?_, hK _ ?_⟩
      rotate_left
      · (obtain ⟨q0, q1⟩ := HF.out _ hC; go_simp; first | done | with_reducible rfl | exact ⟨rfl, hC⟩)
      clear hK K
      simp only [Act.put, List.setIfInBounds_toArray, List.set_cons_zero, List.set_cons_succ]
      refine BigFrame.wpQuiet_want (by rfl) fun K hK => ⟨?_, fun w' hC => ?_, hK _ ?_⟩
      rotate_left
      · (obtain ⟨q0, q1⟩ := HF.out _ hC; go_simp; first | done | with_reducible rfl | exact ⟨rfl, hC⟩)
      clear hK K
      simp only [Act.put, List.setIfInBounds_toArray, List.set_cons_zero, List.set_cons_succ]
      refine BigFrame.wpQuiet_want (by rfl) fun K hK => ⟨?_, fun w' hC => ?_, hK _ ?_⟩
      rotate_left
      · (obtain ⟨q0, q1⟩ := HF.out _ hC; go_simp; first | done | with_reducible rfl | exact ⟨rfl, hC⟩)
      clear hK K
      simp only [Act.put, List.setIfInBounds_toArray, List.set_cons_zero, List.set_cons_succ]
      refine BigFrame.wpQuiet_want (by rfl) fun K hK => ⟨?_, fun w' hC => ?_, hK _ ?_⟩
      rotate_left
      · (obtain ⟨q0, q1⟩ := HF.out _ hC; go_simp; first | done | with_reducible rfl | exact ⟨rfl, hC⟩)
      clear hK K
      simp only [Act.put, List.setIfInBounds_toArray, List.set_cons_zero, List.set_cons_succ]
      refine BigFrame.wpQuiet_want (by rfl) fun K hK => ⟨?_, fun w' hC => ?_, hK _ ?_⟩
      rotate_left
      · (obtain ⟨q0, q1⟩ := HF.out _ hC; go_simp; first | done | with_reducible rfl | exact ⟨rfl, hC⟩)
      clear hK K
      simp only [Act.put, List.setIfInBounds_toArray, List.set_cons_zero, List.set_cons_succ]
      refine BigFrame.wpQuiet_want (by rfl) fun K hK => ⟨?_, fun w' hC => ?_, hK _ ?_⟩
      rotate_left
      · (obtain ⟨q0, q1⟩ := HF.out _ hC; go_simp; first | done | with_reducible rfl | exact ⟨rfl, hC⟩)
      clear hK K
      simp only [Act.put, List.setIfInBounds_toArray, List.set_cons_zero, List.set_cons_succ]
      refine BigFrame.wpQuiet_want (by rfl) fun K hK => ⟨?_, fun w' hC => ?_, hK _ ?_⟩
      rotate_left
      · (obtain ⟨q0, q1⟩ := HF.out _ hC; go_simp; first | done | with_reducible rfl | exact ⟨rfl, hC⟩)
      clear hK K
      simp only [Act.put, List.setIfInBounds_toArray, List.set_cons_zero, List.set_cons_succ]
      refine BigFrame.wpQuiet_want (by rfl) fun K hK => ⟨?_, fun w' hC => ?_, hK _ ?_⟩
      rotate_left
      · (obtain ⟨q0, q1⟩ := HF.out _ hC; go_simp; first | done | with_reducible rfl | exact ⟨rfl, hC⟩)
      clear hK K
      simp only [Act.put, List.setIfInBounds_toArray, List.set_cons_zero, List.set_cons_succ]
      refine BigFrame.wpQuiet_want (by rfl) fun K hK => ⟨.int .i64 (u : Int), fun w' hC => (by go_simp; refine ((HBI.out w' (HE0.out.drew.trans hC))).mono ?_; rintro e w2 ⟨rfl, hb⟩; exact ⟨rfl, hC.trans hb⟩), hK _ ?_⟩
      clear hK K
      simp only [Act.put, List.setIfInBounds_toArray, List.set_cons_zero, List.set_cons_succ]
      refine BigFrame.wpQuiet_want (by rfl) fun K hK => ⟨.int .i64 (v : Int), fun w' hC => (by go_simp; refine ((HCL.out w' (HE0.out.drew.trans hC))).mono ?_; rintro e w2 ⟨rfl, hb⟩; exact ⟨rfl, hC.trans hb⟩), hK _ ?_⟩
      clear hK K
      simp only [Act.put, List.setIfInBounds_toArray, List.set_cons_zero, List.set_cons_succ]
      refine BigFrame.wpQuiet_want (by rfl) fun K hK => ⟨?_, fun w' hC => ?_, hK _ ?_⟩
      rotate_left
      · (obtain ⟨q0, q1⟩ := HF.out _ hC; go_simp; first | done | with_reducible rfl | exact ⟨rfl, hC⟩)
      clear hK K
      simp only [Act.put, List.setIfInBounds_toArray, List.set_cons_zero, List.set_cons_succ]
      refine BigFrame.wpQuiet_want (by rfl) fun K hK => ⟨.int .i64 (u : Int), fun w' hC => (by go_simp; refine ((HBI.out w' (HE0.out.drew.trans hC))).mono ?_; rintro e w2 ⟨rfl, hb⟩; exact ⟨rfl, hC.trans hb⟩), hK _ ?_⟩
      clear hK K
      simp only [Act.put, List.setIfInBounds_toArray, List.set_cons_zero, List.set_cons_succ]
      refine BigFrame.wpQuiet_want (by rfl) fun K hK => ⟨?_, fun w' hC => ?_, hK _ ?_⟩
      rotate_left
      · (obtain ⟨q0, q1⟩ := HF.out _ hC; go_simp; first | done | with_reducible rfl | exact ⟨rfl, hC⟩)
      clear hK K
      simp only [Act.put, List.setIfInBounds_toArray, List.set_cons_zero, List.set_cons_succ]
      refine BigFrame.wpQuiet_want (by rfl) fun K hK => ⟨?_, fun w' hC => ?_, hK _ ?_⟩
      rotate_left
      · (obtain ⟨q0, q1⟩ := HF.out _ hC; go_simp; first | done | with_reducible rfl | exact ⟨rfl, hC⟩)
      clear hK K
      simp only [Act.put, List.setIfInBounds_toArray, List.set_cons_zero, List.set_cons_succ]
      refine BigFrame.wpQuiet_want (by rfl) fun K hK => ⟨?_, fun w' hC => ?_, hK _ ?_⟩
      rotate_left
      · (obtain ⟨q0, q1⟩ := HF.out _ hC; go_simp; first | done | with_reducible rfl | exact ⟨rfl, hC⟩)
      clear hK K
      simp only [Act.put, List.setIfInBounds_toArray, List.set_cons_zero, List.set_cons_succ]
      refine wpQuiet_nil ?_
      intro w2 hC2
      have HC2 := Lib.hid hC2
      clear hC2
      go_wp2_with fail
      go_ret
      exact ⟨by rw [HQ.out]; rfl, HE0.out.drew.trans HC2.out⟩
    · have HQ : Hid (subB t (bitsK xs xs.length) = false) := Lib.hid (by rw [subB, hf0, decide_eq_false (fun h => hz h.2)]; rfl)
      have hzz : (nth xs 0 == 0) = false := by simpa using hz
      obtain ⟨u, hu⟩ : ∃ u, bitsK xs xs.length = u := ⟨_, rfl⟩
      rw [hu] at HQ ⊢
      clear hR hX hg hb hr hbl hf0 hcx hu hz HBI HCL
      obtain ⟨x0, hx0⟩ : ∃ x0, nth xs 0 = x0 := ⟨_, rfl⟩
      rw [hx0] at HL0 hzz
      clear hx0
      go_enter Tryz.func121, Tryz.ntmps121
      go_wp2_with fail
      generalize (w.alloc (.cells #[.slice A t.length c] 32)) = W0 at *
      have HF := Lib.hid (fun (W' : World) (hb : Ex W0.drew W') => And.intro ((Has.ex (w := W0.drew) b0 hb).cell 0) (HL0.out W' (HE0.out.drew.trans hb)))
      clear b0 e0
      refine wp_region_quiet (C := fun w' => Ex W0.drew w') (by kernel_rfl) (by kernel_rfl) (Ex.refl _) ?_
      refine BigFrame.wpQuiet_want (by rfl) fun K hK => ⟨?_, fun w' hC => ?_, hK _ ?_⟩
      rotate_left
      · (obtain ⟨q0, q1⟩ := HF.out _ hC; go_simp; first | done | with_reducible rfl | exact ⟨rfl, hC⟩)
      clear hK K
      simp only [Act.put, List.setIfInBounds_toArray, List.set_cons_zero, List.set_cons_succ]
      refine BigFrame.wpQuiet_want (by rfl) fun K hK => ⟨?_, fun w' hC => ?_, hK _ ?_⟩
      rotate_left
      · (obtain ⟨q0, q1⟩ := HF.out _ hC; go_simp; first | done | with_reducible rfl | exact ⟨rfl, hC⟩)
      clear hK K
      simp only [Act.put, List.setIfInBounds_toArray, List.set_cons_zero, List.set_cons_succ]
      refine BigFrame.wpQuiet_want (by rfl) fun K hK => ⟨?_, fun w' hC => ?_, hK _ ?_⟩
      rotate_left
      · (obtain ⟨q0, q1⟩ := HF.out _ hC; go_simp; first | done | with_reducible rfl | exact ⟨rfl, hC⟩)
      clear hK K
      simp only [Act.put, List.setIfInBounds_toArray, List.set_cons_zero, List.set_cons_succ]
      refine BigFrame.wpQuiet_want (by rfl) fun K hK => ⟨?_, fun w' hC => ?_, hK _ ?_⟩
      rotate_left
      · (obtain ⟨q0, q1⟩ := HF.out _ hC; go_simp; first | done | with_reducible rfl | exact ⟨rfl, hC⟩)
      clear hK K
      simp only [Act.put, List.setIfInBounds_toArray, List.set_cons_zero, List.set_cons_succ]
      refine BigFrame.wpQuiet_want (by rfl) fun K hK => ⟨?_, fun w' hC => ?_, hK _ ?_⟩
      rotate_left
      · (obtain ⟨q0, q1⟩ := HF.out _ hC; go_simp; first | done | with_reducible rfl | exact ⟨rfl, hC⟩)
      clear hK K
      simp only [Act.put, List.setIfInBounds_toArray, List.set_cons_zero, List.set_cons_succ]
      refine BigFrame.wpQuiet_want (by rfl) fun K hK => ⟨?_, fun w' hC => ?_, hK _ ?_⟩
      rotate_left
      · (obtain ⟨q0, q1⟩ := HF.out _ hC; go_simp; first | done | with_reducible rfl | exact ⟨rfl, hC⟩)
      clear hK K
      simp only [Act.put, List.setIfInBounds_toArray, List.set_cons_zero, List.set_cons_succ]
      refine BigFrame.wpQuiet_want (by rfl) fun K hK => ⟨?_, fun w' hC => ?_, hK _ ?_⟩
      rotate_left
      · (obtain ⟨q0, q1⟩ := HF.out _ hC; go_simp; first | done | with_reducible rfl | exact ⟨rfl, hC⟩)
      clear hK K
      simp only [Act.put, List.setIfInBounds_toArray, List.set_cons_zero, List.set_cons_succ]
      refine BigFrame.wpQuiet_want (by rfl) fun K hK => ⟨?_, fun w' hC => ?_, hK _ ?_⟩
      rotate_left
      · (obtain ⟨q0, q1⟩ := HF.out _ hC; go_simp; first | done | with_reducible rfl | exact ⟨rfl, hC⟩)
      clear hK K
      simp only [Act.put, List.setIfInBounds_toArray, List.set_cons_zero, List.set_cons_succ]
      refine BigFrame.wpQuiet_want (by rfl) fun K hK => ⟨?_, fun w' hC => ?_, hK _ ?_⟩
      rotate_left
      · (obtain ⟨q0, q1⟩ := HF.out _ hC; go_simp; first | done | with_reducible rfl | exact ⟨rfl, hC⟩)
      clear hK K
      simp only [Act.put, List.setIfInBounds_toArray, List.set_cons_zero, List.set_cons_succ]
      refine BigFrame.wpQuiet_want (by rfl) fun K hK => ⟨?_, fun w' hC => ?_, hK _ ?_⟩
      rotate_left
      · (obtain ⟨q0, q1⟩ := HF.out _ hC; go_simp; first | done | with_reducible rfl | exact ⟨rfl, hC⟩)
      clear hK K
      simp only [Act.put, List.setIfInBounds_toArray, List.set_cons_zero, List.set_cons_succ]
      refine BigFrame.wpQuiet_skip (by rfl) ?_
      simp only [Act.put, List.setIfInBounds_toArray, List.set_cons_zero, List.set_cons_succ]
      refine BigFrame.wpQuiet_skip (by rfl) ?_
      simp only [Act.put, List.setIfInBounds_toArray, List.set_cons_zero, List.set_cons_succ]
      refine BigFrame.wpQuiet_skip (by rfl) ?_
      simp only [Act.put, List.setIfInBounds_toArray, List.set_cons_zero, List.set_cons_succ]
      refine BigFrame.wpQuiet_skip (by rfl) ?_
      simp only [Act.put, List.setIfInBounds_toArray, List.set_cons_zero, List.set_cons_succ]
      refine BigFrame.wpQuiet_skip (by rfl) ?_
      simp only [Act.put, List.setIfInBounds_toArray, List.set_cons_zero, List.set_cons_succ]
      refine BigFrame.wpQuiet_skip (by rfl) ?_
      simp only [Act.put, List.setIfInBounds_toArray, List.set_cons_zero, List.set_cons_succ]
      refine BigFrame.wpQuiet_skip (by rfl) ?_
      simp only [Act.put, List.setIfInBounds_toArray, List.set_cons_zero, List.set_cons_succ]
      refine BigFrame.wpQuiet_want (by rfl) fun K hK => ⟨?_, fun w' hC => ?_, hK _ ?_⟩
      rotate_left
      · (obtain ⟨q0, q1⟩ := HF.out _ hC; go_simp; first | done | with_reducible rfl | exact ⟨rfl, hC⟩)
      clear hK K
      simp only [Act.put, List.setIfInBounds_toArray, List.set_cons_zero, List.set_cons_succ]
      refine BigFrame.wpQuiet_want (by rfl) fun K hK => ⟨?_, fun w' hC => ?_, hK _ ?_⟩
      rotate_left
      · (obtain ⟨q0, q1⟩ := HF.out _ hC; go_simp; first | done | with_reducible rfl | exact ⟨rfl, hC⟩)
      clear hK K
      simp only [Act.put, List.setIfInBounds_toArray, List.set_cons_zero, List.set_cons_succ]
      refine wpQuiet_nil ?_
      intro w2 hC2
      have HC2 := Lib.hid hC2
      clear hC2
      go_wp2_with fail
      go_ret
      exact ⟨by rw [HQ.out]; rfl, HE0.out.drew.trans HC2.out⟩
  · have HQ : Hid (subB t (bitsK xs xs.length) = false) := Lib.hid (by rw [subB, hf0, decide_eq_false (fun h => h0 h.1)]; rfl)
    have hgt : decide ((0 : Int) < (xs.length : Int)) = false := decide_eq_false (by omega)
    obtain ⟨u, hu⟩ : ∃ u, bitsK xs xs.length = u := ⟨_, rfl⟩
    rw [hu] at HQ ⊢
    clear hR hX hg hb hr hbl hf0 hu HBI HCL
    go_enter Tryz.func121, Tryz.ntmps121
    go_wp2_with fail
    generalize (w.alloc (.cells #[.slice A t.length c] 32)) = W0 at *
    have HF := Lib.hid (fun (W' : World) (hb : Ex W0.drew W') => (Has.ex (w := W0.drew) b0 hb).cell 0)
    clear b0 e0
    refine wp_region_quiet (C := fun w' => Ex W0.drew w') (by kernel_rfl) (by kernel_rfl) (Ex.refl _) ?_
    refine BigFrame.wpQuiet_want (by rfl) fun K hK => ⟨?_, fun w' hC => ?_, hK _ ?_⟩
    rotate_left
    · (obtain q0 := HF.out _ hC; go_simp; first | done | with_reducible rfl | exact ⟨rfl, hC⟩)
    clear hK K
    simp only [Act.put, List.setIfInBounds_toArray, List.set_cons_zero, List.set_cons_succ]
    refine BigFrame.wpQuiet_want (by rfl) fun K hK => ⟨?_, fun w' hC => ?_, hK _ ?_⟩
    rotate_left
    · (obtain q0 := HF.out _ hC; go_simp; first | done | with_reducible rfl | exact ⟨rfl, hC⟩)
    clear hK K
    simp only [Act.put, List.setIfInBounds_toArray, List.set_cons_zero, List.set_cons_succ]
    refine BigFrame.wpQuiet_want (by rfl) fun K hK => ⟨?_, fun w' hC => ?_, hK _ ?_⟩
    rotate_left
    · (obtain q0 := HF.out _ hC; go_simp; first | done | with_reducible rfl | exact ⟨rfl, hC⟩)
    clear hK K
    simp only [Act.put, List.setIfInBounds_toArray, List.set_cons_zero, List.set_cons_succ]
    refine BigFrame.wpQuiet_want (by rfl) fun K hK => ⟨?_, fun w' hC => ?_, hK _ ?_⟩
    rotate_left
    · (obtain q0 := HF.out _ hC; go_simp; first | done | with_reducible rfl | exact ⟨rfl, hC⟩)
    clear hK K
    simp only [Act.put, List.setIfInBounds_toArray, List.set_cons_zero, List.set_cons_succ]
    refine BigFrame.wpQuiet_skip (by rfl) ?_
    simp only [Act.put, List.setIfInBounds_toArray, List.set_cons_zero, List.set_cons_succ]
    refine BigFrame.wpQuiet_skip (by rfl) ?_
    simp only [Act.put, List.setIfInBounds_toArray, List.set_cons_zero, List.set_cons_succ]
    refine BigFrame.wpQuiet_skip (by rfl) ?_
    simp only [Act.put, List.setIfInBounds_toArray, List.set_cons_zero, List.set_cons_succ]
    refine BigFrame.wpQuiet_skip (by rfl) ?_
    simp only [Act.put, List.setIfInBounds_toArray, List.set_cons_zero, List.set_cons_succ]
    refine BigFrame.wpQuiet_want (by rfl) fun K hK => ⟨?_, fun w' hC => ?_, hK _ ?_⟩
    rotate_left
    · (obtain q0 := HF.out _ hC; go_simp; first | done | with_reducible rfl | exact ⟨rfl, hC⟩)
    clear hK K
    simp only [Act.put, List.setIfInBounds_toArray, List.set_cons_zero, List.set_cons_succ]
    refine BigFrame.wpQuiet_want (by rfl) fun K hK => ⟨?_, fun w' hC => ?_, hK _ ?_⟩
    rotate_left
    · (obtain q0 := HF.out _ hC; go_simp; first | done | with_reducible rfl | exact ⟨rfl, hC⟩)
    clear hK K
    simp only [Act.put, List.setIfInBounds_toArray, List.set_cons_zero, List.set_cons_succ]
    refine BigFrame.wpQuiet_skip (by rfl) ?_
    simp only [Act.put, List.setIfInBounds_toArray, List.set_cons_zero, List.set_cons_succ]
    refine BigFrame.wpQuiet_skip (by rfl) ?_
    simp only [Act.put, List.setIfInBounds_toArray, List.set_cons_zero, List.set_cons_succ]
    refine BigFrame.wpQuiet_skip (by rfl) ?_
    simp only [Act.put, List.setIfInBounds_toArray, List.set_cons_zero, List.set_cons_succ]
    refine BigFrame.wpQuiet_skip (by rfl) ?_
    simp only [Act.put, List.setIfInBounds_toArray, List.set_cons_zero, List.set_cons_succ]
    refine BigFrame.wpQuiet_skip (by rfl) ?_
    simp only [Act.put, List.setIfInBounds_toArray, List.set_cons_zero, List.set_cons_succ]
    refine BigFrame.wpQuiet_skip (by rfl) ?_
    simp only [Act.put, List.setIfInBounds_toArray, List.set_cons_zero, List.set_cons_succ]
    refine BigFrame.wpQuiet_skip (by rfl) ?_
    simp only [Act.put, List.setIfInBounds_toArray, List.set_cons_zero, List.set_cons_succ]
    refine BigFrame.wpQuiet_want (by rfl) fun K hK => ⟨?_, fun w' hC => ?_, hK _ ?_⟩
    rotate_left
    · (obtain q0 := HF.out _ hC; go_simp; first | done | with_reducible rfl | exact ⟨rfl, hC⟩)
    clear hK K
    simp only [Act.put, List.setIfInBounds_toArray, List.set_cons_zero, List.set_cons_succ]
    refine BigFrame.wpQuiet_want (by rfl) fun K hK => ⟨?_, fun w' hC => ?_, hK _ ?_⟩
    rotate_left
    · (obtain q0 := HF.out _ hC; go_simp; first | done | with_reducible rfl | exact ⟨rfl, hC⟩)
    clear hK K
    simp only [Act.put, List.setIfInBounds_toArray, List.set_cons_zero, List.set_cons_succ]
    refine wpQuiet_nil ?_
    intro w2 hC2
    have HC2 := Lib.hid hC2
    clear hC2
    go_wp2_with fail
    go_ret
    exact ⟨by rw [HQ.out]; rfl, HE0.out.drew.trans HC2.out⟩

end Go.Proofs.YtcdijeeabgmgmaaGreatDoor
