/- slices.CompactFunc of rows: the walk. -/
import Derived.Test.YtfafccldngekgaaCp
namespace Go.Proofs.Ytfafccldngekgaa
open Go.RowKit

/-- The rows, as a list holds them. -/
def encR (A : Nat → Option Addr) (R : Nat → List Int) (C : Nat → Nat) (i : Nat) : Value := .slice (A i) (R i).length (C i)

theorem setCells_row (w : World) (b o : Nat) (v : Value) (vs : List Value) : w.setCells b o (v :: vs) = (w.setCell ⟨b, o, none⟩ v).setCells b (o + 1) vs := rfl
theorem Only.rowCells {b : Nat} : ∀ (vs : List Value) (o : Nat) (w : World), Only b (b + 1) w (w.setCells b o vs)
  | [], _, w => ⟨Below.refl _ _, fun _ _ _ => rfl⟩
  | v :: vs, o, w => by
    rw [setCells_row]
    exact (Only.set w b o v).trans (Only.rowCells vs (o + 1) _) (Nat.le_refl _) (Nat.le_refl _)
theorem Has.rowCells {b : Nat} {e : TypeId} : ∀ (vs : List Value) (o : Nat) (w : World) (cs : Array Value), Has w b e cs → ∃ cs', Has (w.setCells b o vs) b e cs' ∧ ∀ q, q < o → cs'[q]? = cs[q]?
  | [], _, _, cs, h => ⟨cs, h, fun _ _ => rfl⟩
  | v :: vs, o, w, cs, h => by
    obtain ⟨cs', h1, h2⟩ := Has.rowCells vs (o + 1) _ _ (h.put o v)
    exact ⟨cs', h1, fun q hq => by rw [h2 q (by omega), Array.getElem?_setIfInBounds_ne (by omega)]⟩

set_option maxRecDepth 100000 in
set_option maxHeartbeats 4000000 in
theorem compactFunc_any (b n cap L : Nat) (cs : Array Value) (A : Nat → Option Addr) (R : Nat → List Int) (C : Nat → Nat) (w : World) (hn : 0 < n) (hn2 : n ≤ 1048576) (hcap : n ≤ cap) (hB : Has w b 25 cs) (hcs : ∀ i, i < n → cs[i]? = some (encR A R C i))
    (hR : ∀ i, i < n → ∀ W, Only b (b + 1) w W → IntsW W (A i) (R i)) (hL : ∀ i, i < n → (R i).length = L) (hL2 : L ≤ 1048576) :
    Calls Try.prog 113 #[.slice (some ⟨b, 0, none⟩) n cap, .func (.func 114) #[] #[]] w fun e w' => ∃ kk pos cs', e = .returned (.slice (some ⟨b, 0, none⟩) kk cap) ∧ Only b (b + 1) w w' ∧ Has w' b 25 cs' ∧ CompI R n kk pos ∧ ∀ q, q < kk → cs'[q]? = some (encR A R C (pos q)) := by
  have HE := Lib.hid (fun i j (hi : i < n) (hj : j < n) W (ho : Only b (b + 1) w W) => slicesEqual_any (A i) (A j) (R i) (R j) (C i) (C j) W (hR i hi W ho) (hR j hj W ho) (by rw [hL i hi, hL j hj]) (by rw [hL i hi]; exact hL2))
  have HCS := Lib.hid hcs
  have HB0 := Lib.hid hB
  have heg := enters_eql
  have hlt := hB.lt
  clear hcs hR hB hL hL2
  by_cases h2 : n < 2
  · obtain rfl : n = 1 := by omega
    go_enter Try.func113, Try.ntmps113
    go_wp2_with fail
    go_ret
    exact ⟨1, id, cs, rfl, Only.of_ex (Ex.refl _) (Nat.le_of_lt hlt) _, HB0.out, CompI.start (Nat.le_refl _) (fun i hi => by omega), HCS.out⟩
  · have h2' : ¬ (n : Int) < 2 := by omega
    go_enter Try.func113, Try.ntmps113
    go_wp2_with fail
    go_loopw [5] (fun i wr => ∃ k : Nat, 1 ≤ k ∧ k ≤ n ∧ i = .int .i64 (k : Int) ∧ Hid (Ex w wr) ∧ Hid (∀ l, l + 1 < k → R l ≠ R (l + 1))) (fun i _ => n - (intOf i).toNat)
    case atStart => exact ⟨1, Nat.le_refl _, hn, rfl, Lib.hid (Ex.refl _), Lib.hid fun l hl => absurd hl (by omega)⟩
    case round =>
      obtain ⟨k, hk1, hk, rfl, HX, HS⟩ := hrel
      have hk0 : (0 : Int) ≤ (k : Int) := by omega
      by_cases hlt2 : k < n
      · obtain ⟨m, hm⟩ : ∃ m, k = m + 1 := ⟨k - 1, by omega⟩
        have HM := Lib.hid hm
        have hkn : (k : Int) < (n : Int) := by omega
        have hm0 : (0 : Int) ≤ (m : Int) := by omega
        have hmn : (m : Int) < (n : Int) := by omega
        have hks : (k : Int) - 1 = (m : Int) := by omega
        have hkw : IntKind.i64.wrap (m : Int) = (m : Int) := IntWalk.i64_in _ (by omega)
        have HSK := Lib.hid (fun (W' : World) (hb : Ex wr.drew W') => And.intro
          (show W'.cell? ⟨b, k, none⟩ = some (encR A R C k) from ((HX.out.drew.trans hb).below.cell (p := ⟨b, k, none⟩) hlt).trans ((HB0.out.cell k).trans (HCS.out k hlt2)))
          (show W'.cell? ⟨b, m, none⟩ = some (encR A R C m) from ((HX.out.drew.trans hb).below.cell (p := ⟨b, m, none⟩) hlt).trans ((HB0.out.cell m).trans (HCS.out m (by omega)))))
        have HQ := Lib.hid (fun W (he : Ex wr.drew W) => HE.out k m hlt2 (by omega) W (Only.of_ex (HX.out.drew.trans he) (Nat.le_of_lt hlt) _))
        clear hm
        go_wp2_with fail
        by_cases hd : R k = R m
        · have HDV : Hid (decide (R k = R m) = true) := Lib.hid (by simpa using hd)
          simp only [HDV.out] at HQ
          have hck : ¬ cap = k := by omega
          have hkc : (k : Int) ≤ (cap : Int) := by omega
          have hkn2 : (k : Int) ≤ (n : Int) := by omega
          have hnc : (n : Int) ≤ (cap : Int) := by omega
          have HST := Lib.hid (CompI.skip (CompI.start hk1 HS.out) (show R k = R (k - 1) by rw [show k - 1 = m by have := HM.out; omega]; exact hd))
          clear hd
          refine wp_region_quiet (C := fun w' => Ex wr.drew w') (by kernel_rfl) (by kernel_rfl) (Ex.refl _) ?_
          refine BigFrame.wpQuiet_want (by rfl) fun K hK => ⟨?_, fun w' hC => ?_, hK _ ?_⟩
          rotate_left
          · (obtain ⟨q0, q1⟩ := HSK.out _ hC; go_simp; first | done | with_reducible rfl | exact ⟨rfl, hC⟩)
          clear hK K
          simp only [Act.put, List.setIfInBounds_toArray, List.set_cons_zero, List.set_cons_succ]
          refine BigFrame.wpQuiet_want (by rfl) fun K hK => ⟨?_, fun w' hC => ?_, hK _ ?_⟩
          rotate_left
          · (obtain ⟨q0, q1⟩ := HSK.out _ hC; go_simp; first | done | with_reducible rfl | exact ⟨rfl, hC⟩)
          clear hK K
          simp only [Act.put, List.setIfInBounds_toArray, List.set_cons_zero, List.set_cons_succ]
          refine BigFrame.wpQuiet_want (by rfl) fun K hK => ⟨?_, fun w' hC => ?_, hK _ ?_⟩
          rotate_left
          · (obtain ⟨q0, q1⟩ := HSK.out _ hC; go_simp; first | done | with_reducible rfl | exact ⟨rfl, hC⟩)
          clear hK K
          simp only [Act.put, List.setIfInBounds_toArray, List.set_cons_zero, List.set_cons_succ]
          refine BigFrame.wpQuiet_want (by rfl) fun K hK => ⟨?_, fun w' hC => ?_, hK _ ?_⟩
          rotate_left
          · (obtain ⟨q0, q1⟩ := HSK.out _ hC; go_simp; first | done | with_reducible rfl | exact ⟨rfl, hC⟩)
          clear hK K
          simp only [Act.put, List.setIfInBounds_toArray, List.set_cons_zero, List.set_cons_succ]
          refine BigFrame.wpQuiet_want (by rfl) fun K hK => ⟨?_, fun w' hC => ?_, hK _ ?_⟩
          rotate_left
          · (obtain ⟨q0, q1⟩ := HSK.out _ hC; go_simp; first | done | with_reducible rfl | exact ⟨rfl, hC⟩)
          clear hK K
          simp only [Act.put, List.setIfInBounds_toArray, List.set_cons_zero, List.set_cons_succ]
          refine BigFrame.wpQuiet_want (by rfl) fun K hK => ⟨?_, fun w' hC => ?_, hK _ ?_⟩
          rotate_left
          · (obtain ⟨q0, q1⟩ := HSK.out _ hC; go_simp; first | done | with_reducible rfl | exact ⟨rfl, hC⟩)
          clear hK K
          simp only [Act.put, List.setIfInBounds_toArray, List.set_cons_zero, List.set_cons_succ]
          refine BigFrame.wpQuiet_want (by rfl) fun K hK => ⟨?_, fun w' hC => ?_, hK _ ?_⟩
          rotate_left
          · (obtain ⟨q0, q1⟩ := HSK.out _ hC; go_simp; first | done | with_reducible rfl | exact ⟨rfl, hC⟩)
          clear hK K
          simp only [Act.put, List.setIfInBounds_toArray, List.set_cons_zero, List.set_cons_succ]
          refine BigFrame.wpQuiet_want (by rfl) fun K hK => ⟨?_, fun w' hC => ?_, hK _ ?_⟩
          rotate_left
          · (obtain ⟨q0, q1⟩ := HSK.out _ hC; go_simp; first | done | with_reducible rfl | exact ⟨rfl, hC⟩)
          clear hK K
          simp only [Act.put, List.setIfInBounds_toArray, List.set_cons_zero, List.set_cons_succ]
          refine BigFrame.wpQuiet_want (by rfl) fun K hK => ⟨?_, fun w' hC => ?_, hK _ ?_⟩
          rotate_left
          · (obtain ⟨q0, q1⟩ := HSK.out _ hC; go_simp; first | done | with_reducible rfl | exact ⟨rfl, hC⟩)
          clear hK K
          simp only [Act.put, List.setIfInBounds_toArray, List.set_cons_zero, List.set_cons_succ]
          refine BigFrame.wpQuiet_want (by rfl) fun K hK => ⟨?_, fun w' hC => ?_, hK _ ?_⟩
          rotate_left
          · (obtain ⟨q0, q1⟩ := HSK.out _ hC; go_simp; first | done | with_reducible rfl | exact ⟨rfl, hC⟩)
          clear hK K
          simp only [Act.put, List.setIfInBounds_toArray, List.set_cons_zero, List.set_cons_succ]
          refine BigFrame.wpQuiet_want (by rfl) fun K hK => ⟨.bool true, fun w' hC => (by go_simp; refine ((HQ.out w' hC)).mono ?_; rintro e w2 ⟨rfl, hb⟩; exact ⟨rfl, hC.trans hb⟩), hK _ ?_⟩
          clear hK K
          simp only [Act.put, List.setIfInBounds_toArray, List.set_cons_zero, List.set_cons_succ]
          refine wpQuiet_nil ?_
          intro w2 hC2
          have HC2 := Lib.hid hC2
          clear hC2
          go_wp2_with fail
          have HXE := Lib.hid (HX.out.drew.trans HC2.out)
          clear hkw hks hmn hm0 HQ HSK HDV
          go_wp2_with fail
          go_loopw [5, 7] (fun v i wx => ∃ (j kk : Nat) (pos : Nat → Nat) (cs' : Array Value), 1 ≤ j ∧ k + j ≤ n ∧ kk < k + j ∧ i = .int .i64 (j : Int) ∧ v = .int .i64 (kk : Int) ∧ Hid (Only b (b + 1) w wx) ∧ Hid (Has wx b 25 cs') ∧ Hid (CompI R (k + j) kk pos) ∧ Hid (∀ q, q < kk → cs'[q]? = some (encR A R C (pos q))) ∧ Hid (∀ q, k + j ≤ q + 1 → q < n → cs'[q]? = some (encR A R C q))) (fun _ i _ => n - (intOf i).toNat)
          case atStart => exact ⟨1, k, id, cs, Nat.le_refl _, by omega, by omega, rfl, rfl, Lib.hid (Only.of_ex HXE.out (Nat.le_of_lt hlt) _), Lib.hid (HB0.out.ex HXE.out), HST, Lib.hid fun q hq => HCS.out q (by omega), Lib.hid fun q _ hq => HCS.out q hq⟩
          case round =>
            obtain ⟨j, kk, pos, cs', hj1, hj, hkk, rfl, rfl, HO, HB, HP, HL1, HL2⟩ := hrel
            have hj0 : (0 : Int) ≤ (j : Int) := by omega
            have hkk0 : (0 : Int) ≤ (kk : Int) := by omega
            have hkkn : (kk : Int) < (n : Int) := by omega
            have hblt := HB.out.lt
            by_cases hlt3 : k + j < n
            · obtain ⟨p, hp⟩ : ∃ p, j = p + 1 := ⟨j - 1, by omega⟩
              have HPP := Lib.hid hp
              have hjn : (j : Int) < ((n - k : Nat) : Int) := by omega
              have hp0 : (0 : Int) ≤ (p : Int) := by omega
              have hpn : (p : Int) < ((n - k : Nat) : Int) := by omega
              have hps : (j : Int) - 1 = (p : Int) := by omega
              have hpw : IntKind.i64.wrap (p : Int) = (p : Int) := IntWalk.i64_in _ (by omega)
              have HSK := Lib.hid (fun (W' : World) (hb : Ex wr.drew W') => And.intro
                (show W'.cell? ⟨b, k + j, none⟩ = some (encR A R C (k + j)) from (Below.cell (w := wr.drew) hb (p := ⟨b, k + j, none⟩) hblt).trans ((HB.out.cell (k + j)).trans (HL2.out (k + j) (by omega) hlt3)))
                (show W'.cell? ⟨b, k + p, none⟩ = some (encR A R C (k + p)) from (Below.cell (w := wr.drew) hb (p := ⟨b, k + p, none⟩) hblt).trans ((HB.out.cell (k + p)).trans (HL2.out (k + p) (by omega) (by omega)))))
              have HQ := Lib.hid (fun W (he : Ex wr.drew W) => HE.out (k + j) (k + p) hlt3 (by omega) W (HO.out.trans (Only.of_ex ((Ex.refl wr).drew.trans he) (Nat.le_of_lt hblt) (b + 1)) (Nat.le_refl _) (Nat.le_refl _)))
              have HKP := Lib.hid (show k + j - 1 = k + p by omega)
              clear hp
              go_wp2_with fail
              by_cases hd : R (k + j) = R (k + p)
              · have HDV : Hid (decide (R (k + j) = R (k + p)) = true) := Lib.hid (by simpa using hd)
                simp only [HDV.out] at HQ
                refine wp_region_quiet (C := fun w' => Ex wr.drew w') (by kernel_rfl) (by kernel_rfl) (Ex.refl _) ?_
                refine BigFrame.wpQuiet_want (by rfl) fun K hK => ⟨?_, fun w' hC => ?_, hK _ ?_⟩
                rotate_left
                · (obtain ⟨q0, q1⟩ := HSK.out _ hC; go_simp; first | done | with_reducible rfl | exact ⟨rfl, hC⟩)
                clear hK K
                simp only [Act.put, List.setIfInBounds_toArray, List.set_cons_zero, List.set_cons_succ]
                refine BigFrame.wpQuiet_want (by rfl) fun K hK => ⟨?_, fun w' hC => ?_, hK _ ?_⟩
                rotate_left
                · (obtain ⟨q0, q1⟩ := HSK.out _ hC; go_simp; first | done | with_reducible rfl | exact ⟨rfl, hC⟩)
                clear hK K
                simp only [Act.put, List.setIfInBounds_toArray, List.set_cons_zero, List.set_cons_succ]
                refine BigFrame.wpQuiet_want (by rfl) fun K hK => ⟨?_, fun w' hC => ?_, hK _ ?_⟩
                rotate_left
                · (obtain ⟨q0, q1⟩ := HSK.out _ hC; go_simp; first | done | with_reducible rfl | exact ⟨rfl, hC⟩)
                clear hK K
                simp only [Act.put, List.setIfInBounds_toArray, List.set_cons_zero, List.set_cons_succ]
                refine BigFrame.wpQuiet_want (by rfl) fun K hK => ⟨?_, fun w' hC => ?_, hK _ ?_⟩
                rotate_left
                · (obtain ⟨q0, q1⟩ := HSK.out _ hC; go_simp; first | done | with_reducible rfl | exact ⟨rfl, hC⟩)
                clear hK K
                simp only [Act.put, List.setIfInBounds_toArray, List.set_cons_zero, List.set_cons_succ]
                refine BigFrame.wpQuiet_want (by rfl) fun K hK => ⟨?_, fun w' hC => ?_, hK _ ?_⟩
                rotate_left
                · (obtain ⟨q0, q1⟩ := HSK.out _ hC; go_simp; first | done | with_reducible rfl | exact ⟨rfl, hC⟩)
                clear hK K
                simp only [Act.put, List.setIfInBounds_toArray, List.set_cons_zero, List.set_cons_succ]
                refine BigFrame.wpQuiet_want (by rfl) fun K hK => ⟨?_, fun w' hC => ?_, hK _ ?_⟩
                rotate_left
                · (obtain ⟨q0, q1⟩ := HSK.out _ hC; go_simp; first | done | with_reducible rfl | exact ⟨rfl, hC⟩)
                clear hK K
                simp only [Act.put, List.setIfInBounds_toArray, List.set_cons_zero, List.set_cons_succ]
                refine BigFrame.wpQuiet_want (by rfl) fun K hK => ⟨?_, fun w' hC => ?_, hK _ ?_⟩
                rotate_left
                · (obtain ⟨q0, q1⟩ := HSK.out _ hC; go_simp; first | done | with_reducible rfl | exact ⟨rfl, hC⟩)
                clear hK K
                simp only [Act.put, List.setIfInBounds_toArray, List.set_cons_zero, List.set_cons_succ]
                refine BigFrame.wpQuiet_want (by rfl) fun K hK => ⟨?_, fun w' hC => ?_, hK _ ?_⟩
                rotate_left
                · (obtain ⟨q0, q1⟩ := HSK.out _ hC; go_simp; first | done | with_reducible rfl | exact ⟨rfl, hC⟩)
                clear hK K
                simp only [Act.put, List.setIfInBounds_toArray, List.set_cons_zero, List.set_cons_succ]
                refine BigFrame.wpQuiet_want (by rfl) fun K hK => ⟨?_, fun w' hC => ?_, hK _ ?_⟩
                rotate_left
                · (obtain ⟨q0, q1⟩ := HSK.out _ hC; go_simp; first | done | with_reducible rfl | exact ⟨rfl, hC⟩)
                clear hK K
                simp only [Act.put, List.setIfInBounds_toArray, List.set_cons_zero, List.set_cons_succ]
                refine BigFrame.wpQuiet_want (by rfl) fun K hK => ⟨?_, fun w' hC => ?_, hK _ ?_⟩
                rotate_left
                · (obtain ⟨q0, q1⟩ := HSK.out _ hC; go_simp; first | done | with_reducible rfl | exact ⟨rfl, hC⟩)
                clear hK K
                simp only [Act.put, List.setIfInBounds_toArray, List.set_cons_zero, List.set_cons_succ]
                refine BigFrame.wpQuiet_want (by rfl) fun K hK => ⟨.bool true, fun w' hC => (by go_simp; refine ((HQ.out w' hC)).mono ?_; rintro e w2 ⟨rfl, hb⟩; exact ⟨rfl, hC.trans hb⟩), hK _ ?_⟩
                clear hK K
                simp only [Act.put, List.setIfInBounds_toArray, List.set_cons_zero, List.set_cons_succ]
                refine BigFrame.wpQuiet_want (by rfl) fun K hK => ⟨?_, fun w' hC => ?_, hK _ ?_⟩
                rotate_left
                · (obtain ⟨q0, q1⟩ := HSK.out _ hC; go_simp; first | done | with_reducible rfl | exact ⟨rfl, hC⟩)
                clear hK K
                simp only [Act.put, List.setIfInBounds_toArray, List.set_cons_zero, List.set_cons_succ]
                refine wpQuiet_nil ?_
                intro w2 hC2
                have HC2 := Lib.hid hC2
                clear hC2
                go_wp2_with fail
                have HX2 := Lib.hid ((Ex.refl wr).drew.trans HC2.out)
                go_roundw
                case rel => exact ⟨j + 1, kk, pos, cs', by omega, by omega, by omega, by go_num, rfl, Lib.hid (HO.out.trans (Only.of_ex HX2.out (Nat.le_of_lt hblt) (b + 1)) (Nat.le_refl _) (Nat.le_refl _)), Lib.hid (HB.out.ex HX2.out), Lib.hid (HP.out.skip (by rw [HKP.out]; exact hd)), HL1, Lib.hid fun q h1 h2 => HL2.out q (by omega) h2⟩
                case measure => simp [intOf]; omega
              · have HDV : Hid (decide (R (k + j) = R (k + p)) = false) := Lib.hid (by simpa using hd)
                simp only [HDV.out] at HQ
                refine wp_region_quiet (C := fun w' => Ex wr.drew w') (by kernel_rfl) (by kernel_rfl) (Ex.refl _) ?_
                refine BigFrame.wpQuiet_want (by rfl) fun K hK => ⟨?_, fun w' hC => ?_, hK _ ?_⟩
                rotate_left
                · (obtain ⟨q0, q1⟩ := HSK.out _ hC; go_simp; first | done | with_reducible rfl | exact ⟨rfl, hC⟩)
                clear hK K
                simp only [Act.put, List.setIfInBounds_toArray, List.set_cons_zero, List.set_cons_succ]
                refine BigFrame.wpQuiet_want (by rfl) fun K hK => ⟨?_, fun w' hC => ?_, hK _ ?_⟩
                rotate_left
                · (obtain ⟨q0, q1⟩ := HSK.out _ hC; go_simp; first | done | with_reducible rfl | exact ⟨rfl, hC⟩)
                clear hK K
                simp only [Act.put, List.setIfInBounds_toArray, List.set_cons_zero, List.set_cons_succ]
                refine BigFrame.wpQuiet_want (by rfl) fun K hK => ⟨?_, fun w' hC => ?_, hK _ ?_⟩
                rotate_left
                · (obtain ⟨q0, q1⟩ := HSK.out _ hC; go_simp; first | done | with_reducible rfl | exact ⟨rfl, hC⟩)
                clear hK K
                simp only [Act.put, List.setIfInBounds_toArray, List.set_cons_zero, List.set_cons_succ]
                refine BigFrame.wpQuiet_want (by rfl) fun K hK => ⟨?_, fun w' hC => ?_, hK _ ?_⟩
                rotate_left
                · (obtain ⟨q0, q1⟩ := HSK.out _ hC; go_simp; first | done | with_reducible rfl | exact ⟨rfl, hC⟩)
                clear hK K
                simp only [Act.put, List.setIfInBounds_toArray, List.set_cons_zero, List.set_cons_succ]
                refine BigFrame.wpQuiet_want (by rfl) fun K hK => ⟨?_, fun w' hC => ?_, hK _ ?_⟩
                rotate_left
                · (obtain ⟨q0, q1⟩ := HSK.out _ hC; go_simp; first | done | with_reducible rfl | exact ⟨rfl, hC⟩)
                clear hK K
                simp only [Act.put, List.setIfInBounds_toArray, List.set_cons_zero, List.set_cons_succ]
                refine BigFrame.wpQuiet_want (by rfl) fun K hK => ⟨?_, fun w' hC => ?_, hK _ ?_⟩
                rotate_left
                · (obtain ⟨q0, q1⟩ := HSK.out _ hC; go_simp; first | done | with_reducible rfl | exact ⟨rfl, hC⟩)
                clear hK K
                simp only [Act.put, List.setIfInBounds_toArray, List.set_cons_zero, List.set_cons_succ]
                refine BigFrame.wpQuiet_want (by rfl) fun K hK => ⟨?_, fun w' hC => ?_, hK _ ?_⟩
                rotate_left
                · (obtain ⟨q0, q1⟩ := HSK.out _ hC; go_simp; first | done | with_reducible rfl | exact ⟨rfl, hC⟩)
                clear hK K
                simp only [Act.put, List.setIfInBounds_toArray, List.set_cons_zero, List.set_cons_succ]
                refine BigFrame.wpQuiet_want (by rfl) fun K hK => ⟨?_, fun w' hC => ?_, hK _ ?_⟩
                rotate_left
                · (obtain ⟨q0, q1⟩ := HSK.out _ hC; go_simp; first | done | with_reducible rfl | exact ⟨rfl, hC⟩)
                clear hK K
                simp only [Act.put, List.setIfInBounds_toArray, List.set_cons_zero, List.set_cons_succ]
                refine BigFrame.wpQuiet_want (by rfl) fun K hK => ⟨?_, fun w' hC => ?_, hK _ ?_⟩
                rotate_left
                · (obtain ⟨q0, q1⟩ := HSK.out _ hC; go_simp; first | done | with_reducible rfl | exact ⟨rfl, hC⟩)
                clear hK K
                simp only [Act.put, List.setIfInBounds_toArray, List.set_cons_zero, List.set_cons_succ]
                refine BigFrame.wpQuiet_want (by rfl) fun K hK => ⟨?_, fun w' hC => ?_, hK _ ?_⟩
                rotate_left
                · (obtain ⟨q0, q1⟩ := HSK.out _ hC; go_simp; first | done | with_reducible rfl | exact ⟨rfl, hC⟩)
                clear hK K
                simp only [Act.put, List.setIfInBounds_toArray, List.set_cons_zero, List.set_cons_succ]
                refine BigFrame.wpQuiet_want (by rfl) fun K hK => ⟨.bool false, fun w' hC => (by go_simp; refine ((HQ.out w' hC)).mono ?_; rintro e w2 ⟨rfl, hb⟩; exact ⟨rfl, hC.trans hb⟩), hK _ ?_⟩
                clear hK K
                simp only [Act.put, List.setIfInBounds_toArray, List.set_cons_zero, List.set_cons_succ]
                refine BigFrame.wpQuiet_want (by rfl) fun K hK => ⟨?_, fun w' hC => ?_, hK _ ?_⟩
                rotate_left
                · (obtain ⟨q0, q1⟩ := HSK.out _ hC; go_simp; first | done | with_reducible rfl | exact ⟨rfl, hC⟩)
                clear hK K
                simp only [Act.put, List.setIfInBounds_toArray, List.set_cons_zero, List.set_cons_succ]
                refine wpQuiet_nil ?_
                intro w2 hC2
                have HC2 := Lib.hid hC2
                clear hC2
                have HX2 := Lib.hid ((Ex.refl wr).drew.trans HC2.out)
                have HB2 := Lib.hid (HB.out.ex HX2.out)
                have cj : w2.cell? ⟨b, k + j, none⟩ = some (.slice (A (k + j)) (R (k + j)).length (C (k + j))) := (HSK.out w2 HC2.out).1
                obtain ⟨u, hu⟩ : ∃ u, cs'[kk]? = some u := ⟨_, Array.getElem?_eq_getElem (by have := (Array.getElem?_eq_some_iff.1 (HL2.out (k + j) (by omega) hlt3)).1; omega)⟩
                have ck : w2.cell? ⟨b, kk, none⟩ = some u := (HB2.out.cell kk).trans hu
                have fk := HB2.out.free kk
                clear hu
                go_wp2_with fail
                go_roundw
                case rel => exact ⟨j + 1, kk + 1, fun q => if q = kk then k + j else pos q, cs'.setIfInBounds kk (encR A R C (k + j)), by omega, by omega, by omega, by go_num, by go_num, Lib.hid ((HO.out.trans (Only.of_ex HX2.out (Nat.le_of_lt hblt) (b + 1)) (Nat.le_refl _) (Nat.le_refl _)).trans (Only.set w2 b kk _) (Nat.le_refl _) (Nat.le_refl _)), Lib.hid (HB2.out.put kk _), Lib.hid (HP.out.keep (by rw [HKP.out]; exact hd)), Lib.hid fun q hq => by
                  show (cs'.setIfInBounds kk (encR A R C (k + j)))[q]? = some (encR A R C (if q = kk then k + j else pos q))
                  by_cases hqk : q = kk
                  · subst hqk
                    rw [if_pos rfl]
                    have h := (Array.getElem?_eq_some_iff.1 (HL2.out (k + j) (by omega) hlt3)).1
                    rw [Array.getElem?_setIfInBounds_self_of_lt (by omega)]
                  · rw [if_neg hqk, Array.getElem?_setIfInBounds_ne (by omega)]
                    exact HL1.out q (by omega), Lib.hid fun q h1 h2 => by
                  rw [Array.getElem?_setIfInBounds_ne (by omega)]
                  exact HL2.out q (by omega) h2⟩
                case measure => simp [intOf]; omega
            · have hend : k + j = n := by omega
              have hnj : ¬ (j : Int) < ((n - k : Nat) : Int) := by omega
              have hkc2 : (kk : Int) ≤ (cap : Int) := by omega
              have hkn3 : (kk : Int) ≤ (n : Int) := by omega
              have hck2 : ¬ cap = kk := by omega
              have hsz := (Array.getElem?_eq_some_iff.1 (HL2.out (n - 1) (by omega) (by omega))).1
              have hclr : ∀ ty, (Builtin.clear_ #[22] ty #[.slice (some ⟨b, kk, none⟩) (n - kk) (cap - kk)]).run Try.prog wr = .ok (.tuple #[]) (wr.setCells b kk (List.replicate (n - kk) (.slice none 0 0))) := fun ty =>
                Lib.run_clear_slice wr 22 25 ty (.slice none 0 0) Try.underlying22 (fun W => by kernel_rfl) rfl rfl b kk (n - kk) (cap - kk) (by omega) (fun q hq => by
                  rw [HB.out.cell, Array.getElem?_eq_getElem (by omega)]
                  rfl) (fun q _ => HB.out.free _)
              obtain ⟨cs2, hB2, hc2⟩ := Has.rowCells (List.replicate (n - kk) (.slice none 0 0)) kk wr cs' HB.out
              have HB2 := Lib.hid hB2
              have HC3 := Lib.hid hc2
              have HO2 := Lib.hid (HO.out.trans (Only.rowCells (List.replicate (n - kk) (.slice none 0 0)) kk wr) (Nat.le_refl _) (Nat.le_refl _))
              have HEND := Lib.hid hend
              clear hB2 hc2 hsz hend
              go_wp2_with fail
              go_ret
              exact ⟨kk, by rfl, HO2.out, pos, cs2, HB2.out, by rw [← HEND.out]; exact HP.out, fun q hq => by rw [HC3.out q hq]; exact HL1.out q hq⟩
        · have HDV : Hid (decide (R k = R m) = false) := Lib.hid (by simpa using hd)
          simp only [HDV.out] at HQ
          refine wp_region_quiet (C := fun w' => Ex wr.drew w') (by kernel_rfl) (by kernel_rfl) (Ex.refl _) ?_
          refine BigFrame.wpQuiet_want (by rfl) fun K hK => ⟨?_, fun w' hC => ?_, hK _ ?_⟩
          rotate_left
          · (obtain ⟨q0, q1⟩ := HSK.out _ hC; go_simp; first | done | with_reducible rfl | exact ⟨rfl, hC⟩)
          clear hK K
          simp only [Act.put, List.setIfInBounds_toArray, List.set_cons_zero, List.set_cons_succ]
          refine BigFrame.wpQuiet_want (by rfl) fun K hK => ⟨?_, fun w' hC => ?_, hK _ ?_⟩
          rotate_left
          · (obtain ⟨q0, q1⟩ := HSK.out _ hC; go_simp; first | done | with_reducible rfl | exact ⟨rfl, hC⟩)
          clear hK K
          simp only [Act.put, List.setIfInBounds_toArray, List.set_cons_zero, List.set_cons_succ]
          refine BigFrame.wpQuiet_want (by rfl) fun K hK => ⟨?_, fun w' hC => ?_, hK _ ?_⟩
          rotate_left
          · (obtain ⟨q0, q1⟩ := HSK.out _ hC; go_simp; first | done | with_reducible rfl | exact ⟨rfl, hC⟩)
          clear hK K
          simp only [Act.put, List.setIfInBounds_toArray, List.set_cons_zero, List.set_cons_succ]
          refine BigFrame.wpQuiet_want (by rfl) fun K hK => ⟨?_, fun w' hC => ?_, hK _ ?_⟩
          rotate_left
          · (obtain ⟨q0, q1⟩ := HSK.out _ hC; go_simp; first | done | with_reducible rfl | exact ⟨rfl, hC⟩)
          clear hK K
          simp only [Act.put, List.setIfInBounds_toArray, List.set_cons_zero, List.set_cons_succ]
          refine BigFrame.wpQuiet_want (by rfl) fun K hK => ⟨?_, fun w' hC => ?_, hK _ ?_⟩
          rotate_left
          · (obtain ⟨q0, q1⟩ := HSK.out _ hC; go_simp; first | done | with_reducible rfl | exact ⟨rfl, hC⟩)
          clear hK K
          simp only [Act.put, List.setIfInBounds_toArray, List.set_cons_zero, List.set_cons_succ]
          refine BigFrame.wpQuiet_want (by rfl) fun K hK => ⟨?_, fun w' hC => ?_, hK _ ?_⟩
          rotate_left
          · (obtain ⟨q0, q1⟩ := HSK.out _ hC; go_simp; first | done | with_reducible rfl | exact ⟨rfl, hC⟩)
          clear hK K
          simp only [Act.put, List.setIfInBounds_toArray, List.set_cons_zero, List.set_cons_succ]
          refine BigFrame.wpQuiet_want (by rfl) fun K hK => ⟨?_, fun w' hC => ?_, hK _ ?_⟩
          rotate_left
          · (obtain ⟨q0, q1⟩ := HSK.out _ hC; go_simp; first | done | with_reducible rfl | exact ⟨rfl, hC⟩)
          clear hK K
          simp only [Act.put, List.setIfInBounds_toArray, List.set_cons_zero, List.set_cons_succ]
          refine BigFrame.wpQuiet_want (by rfl) fun K hK => ⟨?_, fun w' hC => ?_, hK _ ?_⟩
          rotate_left
          · (obtain ⟨q0, q1⟩ := HSK.out _ hC; go_simp; first | done | with_reducible rfl | exact ⟨rfl, hC⟩)
          clear hK K
          simp only [Act.put, List.setIfInBounds_toArray, List.set_cons_zero, List.set_cons_succ]
          refine BigFrame.wpQuiet_want (by rfl) fun K hK => ⟨?_, fun w' hC => ?_, hK _ ?_⟩
          rotate_left
          · (obtain ⟨q0, q1⟩ := HSK.out _ hC; go_simp; first | done | with_reducible rfl | exact ⟨rfl, hC⟩)
          clear hK K
          simp only [Act.put, List.setIfInBounds_toArray, List.set_cons_zero, List.set_cons_succ]
          refine BigFrame.wpQuiet_want (by rfl) fun K hK => ⟨?_, fun w' hC => ?_, hK _ ?_⟩
          rotate_left
          · (obtain ⟨q0, q1⟩ := HSK.out _ hC; go_simp; first | done | with_reducible rfl | exact ⟨rfl, hC⟩)
          clear hK K
          simp only [Act.put, List.setIfInBounds_toArray, List.set_cons_zero, List.set_cons_succ]
          refine BigFrame.wpQuiet_want (by rfl) fun K hK => ⟨.bool false, fun w' hC => (by go_simp; refine ((HQ.out w' hC)).mono ?_; rintro e w2 ⟨rfl, hb⟩; exact ⟨rfl, hC.trans hb⟩), hK _ ?_⟩
          clear hK K
          simp only [Act.put, List.setIfInBounds_toArray, List.set_cons_zero, List.set_cons_succ]
          refine wpQuiet_nil ?_
          intro w2 hC2
          have HC2 := Lib.hid hC2
          clear hC2
          go_wp2_with fail
          go_roundw
          case rel => exact ⟨k + 1, by omega, by omega, by go_num, Lib.hid (HX.out.trans ((Ex.refl wr).drew.trans HC2.out)), Lib.hid fun l hl => by
            rcases Nat.lt_or_ge (l + 1) k with h | h
            · exact HS.out l h
            · obtain rfl : l = m := by have := HM.out; omega
              rw [← HM.out]
              exact fun h => hd h.symm⟩
          case measure => simp [intOf]; omega
      · obtain rfl : k = n := by omega
        go_wp2_with fail
        go_ret
        exact ⟨k, id, cs, rfl, Only.of_ex HX.out (Nat.le_of_lt hlt) _, HB0.out.ex HX.out, CompI.start hk1 HS.out, HCS.out⟩

end Go.Proofs.Ytfafccldngekgaa
