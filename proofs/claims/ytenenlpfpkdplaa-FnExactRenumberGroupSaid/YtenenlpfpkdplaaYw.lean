/- The renumbered table, by the specification. -/
import Derived.Test.YtenenlpfpkdplaaYv
namespace Go.Proofs.Ytenenlpfpkdplaa
open Go.RowKit Go.Shelf

attribute [local go_sem] Oper.semAt_some

/-- A table of rows in blocks of their own, with its places. -/
def GT (w : World) (lo : Nat) (v : Value) (N : Nat) (V : Nat → Nat → Int) (G CC : Nat → Nat) : Prop := w.ownsRow lo 26 1 v N (rowVs N N G CC) ∧ RowsO w lo N V N G
section
variable {w w' : World} {lo b N g cap i j : Nat} {v : Value} {V V' : Nat → Nat → Int} {G CC : Nat → Nat} {T : TypeId} {cs : Array Value}
theorem GT.low {lo' : Nat} (h : GT w lo v N V G CC) (hl : lo' ≤ lo) : GT w lo' v N V G CC := by
  refine ⟨⟨h.1.1, ?_⟩, fun i hi => Nat.le_trans hl (h.2.lo_le i hi), h.2.has, h.2.apart⟩
  rcases h.1.2 with h0 | ⟨g, cap, cur, e, hg, hrest⟩
  · exact .inl h0
  · exact .inr ⟨g, cap, cur, e, Nat.le_trans hl hg, hrest⟩
theorem GT.ex (h : GT w lo v N V G CC) (he : Ex w w') : GT w' lo v N V G CC := ⟨own_below h.1 he, h.2.ex he⟩
theorem GT.grow (h : GT w lo v N V G CC) : GrowT w lo v N N V := ⟨G, CC, h.1, h.2⟩
theorem GT.row (h : GT w lo (.slice (some ⟨g, 0, none⟩) N cap) N V G CC) (hi : i < N) : w.cell? ⟨g, i, none⟩ = some (.slice (some ⟨G i, 0, none⟩) N (CC i)) := by
  obtain ⟨g', c, cs, e, _, _, hh, hget⟩ := row_block h.1 (by omega)
  cases e
  rw [hh.cell, hget i hi, rowVs_get hi]
theorem GT.ent (h : GT w lo v N V G CC) (hi : i < N) (hj : j < N) : w.cell? ⟨G i, j, none⟩ = some (.int .i64 (V i j)) ∧ w.frozen? ⟨G i, j, none⟩ = false := by
  obtain ⟨cs, h1, h2⟩ := h.2.has i hi
  exact ⟨by rw [h1.cell, h2 j hj], h1.free j⟩
theorem GT.put (h : GT w lo v N V G CC) (hi : i < N) (hj : j < N) (z : Int) : GT (w.setCell ⟨G i, j, none⟩ (.int .i64 z)) lo v N (fun a b => if a = i ∧ b = j then z else V a b) G CC := by
  obtain ⟨cs, h1, h2⟩ := h.2.has i hi
  refine ⟨h.1.kept (grownBy_set w (G i) j _) (.inr fun e => h1.off_row (by decide) h.1 e.symm), h.2.lo_le, fun a ha => ?_, h.2.apart⟩
  by_cases hai : a = i
  · subst hai
    refine ⟨cs.setIfInBounds j (.int .i64 z), h1.put j (.int .i64 z), fun b hb => ?_⟩
    have hjc : j < cs.size := (Array.getElem?_eq_some_iff.1 (h2 j hj)).1
    by_cases hbj : b = j
    · subst hbj
      rw [if_pos ⟨rfl, rfl⟩]
      simp [hjc]
    · rw [if_neg (fun e => hbj e.2), Array.getElem?_setIfInBounds, if_neg (fun e => hbj e.symm)]
      exact h2 b hb
  · obtain ⟨cs', h3, h4⟩ := h.2.has a ha
    exact ⟨cs', h3.far (p := ⟨G i, j, none⟩) (fun e => h.2.apart a i ha hi hai e) _, fun b hb => by rw [if_neg (fun e => hai e.1)]; exact h4 b hb⟩
theorem GT.congr (h : GT w lo v N V G CC) (hv : ∀ a, a < N → ∀ b, b < N → V a b = V' a b) : GT w lo v N V' G CC :=
  ⟨h.1, h.2.lo_le, fun a ha => let ⟨cs, h1, h2⟩ := h.2.has a ha; ⟨cs, h1, fun b hb => by rw [h2 b hb, hv a ha b hb]⟩, h.2.apart⟩
theorem GT.far (h : GT w lo v N V G CC) (hi : i < N) (hb : Has w b T cs) (hT : T ≠ 2) (u : Value) : Has (w.setCell ⟨G i, j, none⟩ u) b T cs := by
  obtain ⟨cs', h1, _⟩ := h.2.has i hi
  refine hb.far (p := ⟨G i, j, none⟩) (fun e => hT ?_) u
  have e' : b = G i := e
  rw [e'] at hb
  have h5 := (show w.heap[G i]? = _ from hb).symm.trans (show w.heap[G i]? = _ from h1)
  simp at h5
  exact h5.2
end
open Classical in
/-- The table behind some rounds: renumbered where it was met. -/
noncomputable def renW (t : List (List Int)) (xs : List Int) (k j : Nat) (a b : Nat) : Int := if pn t.length xs a < k ∨ (pn t.length xs a = k ∧ pn t.length xs b < j) then renV t xs a b else nth (row t a) b
theorem renW_zero (t : List (List Int)) (xs : List Int) (a b : Nat) : renW t xs 0 0 a b = nth (row t a) b := by rw [renW, if_neg (by omega)]
theorem renW_all {t : List (List Int)} {xs : List Int} (h : RenP t.length xs) {a b : Nat} (ha : a < t.length) : renW t xs t.length 0 a b = renV t xs a b := by rw [renW, if_pos (.inl (pn_spec h ha).1)]
theorem renW_row {t : List (List Int)} {xs : List Int} (h : RenP t.length xs) (k : Nat) {a b : Nat} (hb : b < t.length) : renW t xs k t.length a b = renW t xs (k + 1) 0 a b := by
  have := (pn_spec h hb).1
  unfold renW
  by_cases hc : pn t.length xs a < k + 1
  · rw [if_pos (by omega), if_pos (.inl hc)]
  · rw [if_neg (by omega), if_neg (by omega)]
theorem renW_put {t : List (List Int)} {xs : List Int} (h : RenP t.length xs) {k j x y : Nat} (hk : k < t.length) (hj : j < t.length) (hx : nth xs k = (x : Int)) (hy : nth xs j = (y : Int)) {a b : Nat} (ha : a < t.length) (hb : b < t.length) :
    (if a = x ∧ b = y then nth xs (mul t k j) else renW t xs k j a b) = renW t xs k (j + 1) a b := by
  have h1 := pn_im h hk
  have h2 := pn_im h hj
  rw [hx, Int.toNat_natCast] at h1
  rw [hy, Int.toNat_natCast] at h2
  by_cases he : a = x ∧ b = y
  · obtain ⟨rfl, rfl⟩ := he
    rw [if_pos ⟨rfl, rfl⟩, renW, if_pos (.inr ⟨h1, by omega⟩), renV, h1, h2]
  · rw [if_neg he]
    have hn : ¬ (pn t.length xs a = k ∧ pn t.length xs b = j) := fun ⟨e1, e2⟩ => he ⟨by have := (pn_spec h ha).2; rw [e1, hx] at this; omega, by have := (pn_spec h hb).2; rw [e2, hy] at this; omega⟩
    unfold renW
    by_cases hc : pn t.length xs a < k ∨ (pn t.length xs a = k ∧ pn t.length xs b < j)
    · rw [if_pos hc, if_pos (by omega)]
    · rw [if_neg hc, if_neg (by omega)]

set_option maxRecDepth 100000 in
set_option maxHeartbeats 8000000 in
theorem l01Renumbered_any (A L : Option Addr) (t : List (List Int)) (xs : List Int) (c c' : Nat) (w : World) (hR : RwsW w A t) (hX : IntsW w L xs) (hg : IsGrp t) (hren : RenP t.length xs) :
    Calls Try.prog 43 #[.agg #[.slice A t.length c], .slice L xs.length c'] w fun e w' => ∃ (C : Option Addr) (k : Nat), e = .returned (.agg #[.slice C t.length k]) ∧ Ex w w' ∧ GrowT w' w.heap.size (.slice C t.length k) t.length t.length (renV t xs) := by
  have hn8 := hg.n8
  have hn1 := hg.n1
  have hl := hren.len
  have HCP := Lib.hid (fun W (he : Ex w W) => l01Copy_any A t c W (hR.ex he) hg)
  obtain ⟨b, o, bb, oo, C, rfl, hQ⟩ := hR.sq hg
  obtain ⟨bl, ol, rfl, -, -⟩ := hX.ints.at_ (j := 0) (by omega)
  have HEN := Lib.hid (fun x y (hx : x < t.length) (hy : y < t.length) W (he : Ex w W) => (⟨(hQ.ex he).row_ hx, by rw [(hQ.ex he).ent_ hx hy, hg.ent hx hy], hg.mul_lt hx hy⟩ : W.cell? ⟨b, o + x, none⟩ = some (.slice (some ⟨bb x, oo x, none⟩) t.length (C x)) ∧ W.cell? ⟨bb x, oo x + y, none⟩ = some (.int .i64 (mul t x y : Int)) ∧ mul t x y < t.length))
  have HXE := Lib.hid (fun i (hi : i < t.length) W (he : Ex w W) => (by
    obtain ⟨b', o', e, hb, hc⟩ := (hX.ex he).ints.at_ (j := i) (by omega)
    cases e
    exact hc : W.cell? ⟨bl, ol + i, none⟩ = some (.int .i64 (nth xs i))))
  have HRG := Lib.hid (fun i (hi : i < t.length) => (by have := hren.rng i hi; exact ⟨by omega, by omega⟩ : nth xs i = ((nth xs i).toNat : Int) ∧ (nth xs i).toNat < t.length))
  have HRE := Lib.hid hren
  have e0 : Ex w ((w.alloc (.cells #[.slice (some ⟨b, o, none⟩) t.length c] 29)).alloc (.cells #[.slice none 0 0] 29)) := ((Ex.refl w).alloc _).alloc _
  have b0 : Has ((w.alloc (.cells #[.slice (some ⟨b, o, none⟩) t.length c] 29)).alloc (.cells #[.slice none 0 0] 29)) (w.heap.size) 29 #[.slice (some ⟨b, o, none⟩) t.length c] := ((Has.newAt (w := w) (e := 29) (cs := #[.slice (some ⟨b, o, none⟩) t.length c]) (k := w.heap.size) (by simp)).alloc _)
  have b1 : Has ((w.alloc (.cells #[.slice (some ⟨b, o, none⟩) t.length c] 29)).alloc (.cells #[.slice none 0 0] 29)) (w.heap.size + 1) 29 #[.slice none 0 0] := (Has.newAt (w := (w.alloc (.cells #[.slice (some ⟨b, o, none⟩) t.length c] 29))) (e := 29) (cs := #[.slice none 0 0]) (k := w.heap.size + 1) (by simp))
  have HE0 := Lib.hid e0
  have HB0 := Lib.hid b0
  have HB1 := Lib.hid b1
  have c0 := b0.cell 0
  clear hR hX hg hren hQ
  go_enter Try.func43, Try.ntmps43
  go_wp2_with fail
  generalize ((w.alloc (.cells #[.slice (some ⟨b, o, none⟩) t.length c] 29)).alloc (.cells #[.slice none 0 0] 29)) = W0 at *
  refine (HCP.out _ HE0.out).mono ?_
  rintro e W1 ⟨C1, k1, rfl, he1, hG1⟩
  obtain ⟨G, CC, ho1, hr1⟩ := hG1
  obtain ⟨g, cg, cs, e, hlo, hnc, hhas, hget⟩ := row_block ho1 hn1
  obtain ⟨rfl, rfl⟩ : C1 = some ⟨g, 0, none⟩ ∧ k1 = cg := by simpa using e
  obtain ⟨D, hD⟩ : ∃ D, W1.heap.size = D := ⟨_, rfl⟩
  obtain ⟨p, hp⟩ : ∃ p, w.heap.size = p := ⟨_, rfl⟩
  have HP := Lib.hid hp
  have hpD : p + 1 < D := by have := (b1.ex he1).lt; omega
  have hzp : W0.heap.size ≥ p := by have := e0.size; omega
  rw [hp] at b0 b1 ⊢
  have ea := Ex.new W1 (.cells #[.slice (some ⟨g, 0, none⟩) t.length k1] 29)
  have HX1 := Lib.hid ((e0.trans he1).trans ea)
  have HA1 := Lib.hid ((b0.ex he1).ex ea)
  have HR1 := Lib.hid ((b1.ex he1).ex ea)
  have HC1 : Hid (Has (W1.alloc (.cells #[.slice (some ⟨g, 0, none⟩) t.length k1] 29)) D 29 #[.slice (some ⟨g, 0, none⟩) t.length k1]) := Lib.hid (Has.newAt hD)
  have HG1 := Lib.hid ((GT.congr (V' := renW t xs 0 0) ⟨ho1, hr1⟩ fun a _ b _ => (renW_zero t xs a b).symm).ex ea)
  have HZ := Lib.hid hzp
  clear hp c0 b0 b1 e0 he1 ea ho1 hr1 hhas hget hlo e
  go_wp2_with fail
  generalize W1.alloc (.cells #[.slice (some ⟨g, 0, none⟩) t.length k1] 29) = W2 at *
  go_loopw [6] (fun i wr => ∃ k : Nat, k ≤ t.length ∧ i = .int .i64 (k : Int) ∧ Hid (Ex w wr) ∧ Hid (Has wr p 29 #[.slice (some ⟨b, o, none⟩) t.length c]) ∧ Hid (Has wr (p + 1) 29 #[.slice none 0 0]) ∧ Hid (Has wr D 29 #[.slice (some ⟨g, 0, none⟩) t.length k1]) ∧ Hid (GT wr W0.heap.size (.slice (some ⟨g, 0, none⟩) t.length k1) t.length (renW t xs k 0) G CC)) (fun i _ => t.length - (intOf i).toNat)
  case atStart => exact ⟨0, Nat.zero_le _, rfl, HX1, HA1, HR1, hD ▸ HC1, HG1⟩
  case round =>
    clear HX1 HA1 HR1 HC1 HG1
    obtain ⟨k, hk, rfl, HXr, HAr, HRr, HCr, HGr⟩ := hrel
    obtain ⟨wo, rfl⟩ : ∃ x : World, x = wr := ⟨_, rfl⟩
    have c0 := HAr.out.cell 0
    go_wp2_with fail
    refine (l01N_ex (some ⟨b, o, none⟩) t.length c wo (by omega)).mono ?_
    rintro e wn ⟨rfl, hen⟩
    have HXn := Lib.hid (HXr.out.trans hen)
    have HAn := Lib.hid (HAr.out.ex hen)
    have HRn := Lib.hid (HRr.out.ex hen)
    have HCn := Lib.hid (HCr.out.ex hen)
    have HGn := Lib.hid (HGr.out.ex hen)
    clear c0 hen HXr HAr HRr HCr HGr
    by_cases hlt : k < t.length
    · obtain ⟨hxe, hxN⟩ := HRG.out k hlt
      obtain ⟨x, hx⟩ : ∃ x, (nth xs k).toNat = x := ⟨_, rfl⟩
      rw [hx] at hxe hxN
      have HXX := Lib.hid hxe
      have HSK := Lib.hid (fun W (he : Ex wn W) => (⟨(HCn.out.ex he).cell 0, by rw [HXE.out k hlt W (HXn.out.trans he), hxe], (HGn.out.ex he).row hxN⟩ : W.cell? ⟨D, 0, none⟩ = some (.slice (some ⟨g, 0, none⟩) t.length k1) ∧ W.cell? ⟨bl, ol + k, none⟩ = some (.int .i64 (x : Int)) ∧ W.cell? ⟨g, x, none⟩ = some (.slice (some ⟨G x, 0, none⟩) t.length (CC x))))
      clear hx hxe
      go_wp2_with fail
      refine wp_region_quiet (C := fun w' => Ex wn w') (by kernel_rfl) (by kernel_rfl) (Ex.refl wn).drew ?_
      refine BigFrame.wpQuiet_want (by rfl) fun K hK => ⟨?_, fun w' hC => ?_, hK _ ?_⟩
      rotate_left
      · (obtain ⟨q0, q1, q2⟩ := HSK.out _ hC; go_simp; first | done | with_reducible rfl | exact ⟨rfl, hC⟩)
      clear hK K
      simp only [Act.put, List.setIfInBounds_toArray, List.set_cons_zero, List.set_cons_succ]
      refine BigFrame.wpQuiet_want (by rfl) fun K hK => ⟨?_, fun w' hC => ?_, hK _ ?_⟩
      rotate_left
      · (obtain ⟨q0, q1, q2⟩ := HSK.out _ hC; go_simp; first | done | with_reducible rfl | exact ⟨rfl, hC⟩)
      clear hK K
      simp only [Act.put, List.setIfInBounds_toArray, List.set_cons_zero, List.set_cons_succ]
      refine BigFrame.wpQuiet_want (by rfl) fun K hK => ⟨?_, fun w' hC => ?_, hK _ ?_⟩
      rotate_left
      · (obtain ⟨q0, q1, q2⟩ := HSK.out _ hC; go_simp; first | done | with_reducible rfl | exact ⟨rfl, hC⟩)
      clear hK K
      simp only [Act.put, List.setIfInBounds_toArray, List.set_cons_zero, List.set_cons_succ]
      refine BigFrame.wpQuiet_want (by rfl) fun K hK => ⟨?_, fun w' hC => ?_, hK _ ?_⟩
      rotate_left
      · (obtain ⟨q0, q1, q2⟩ := HSK.out _ hC; go_simp; first | done | with_reducible rfl | exact ⟨rfl, hC⟩)
      clear hK K
      simp only [Act.put, List.setIfInBounds_toArray, List.set_cons_zero, List.set_cons_succ]
      refine BigFrame.wpQuiet_want (by rfl) fun K hK => ⟨?_, fun w' hC => ?_, hK _ ?_⟩
      rotate_left
      · (obtain ⟨q0, q1, q2⟩ := HSK.out _ hC; go_simp; first | done | with_reducible rfl | exact ⟨rfl, hC⟩)
      clear hK K
      simp only [Act.put, List.setIfInBounds_toArray, List.set_cons_zero, List.set_cons_succ]
      refine BigFrame.wpQuiet_want (by rfl) fun K hK => ⟨?_, fun w' hC => ?_, hK _ ?_⟩
      rotate_left
      · (obtain ⟨q0, q1, q2⟩ := HSK.out _ hC; go_simp; first | done | with_reducible rfl | exact ⟨rfl, hC⟩)
      clear hK K
      simp only [Act.put, List.setIfInBounds_toArray, List.set_cons_zero, List.set_cons_succ]
      refine BigFrame.wpQuiet_want (by rfl) fun K hK => ⟨?_, fun w' hC => ?_, hK _ ?_⟩
      rotate_left
      · (obtain ⟨q0, q1, q2⟩ := HSK.out _ hC; go_simp; first | done | with_reducible rfl | exact ⟨rfl, hC⟩)
      clear hK K
      simp only [Act.put, List.setIfInBounds_toArray, List.set_cons_zero, List.set_cons_succ]
      refine BigFrame.wpQuiet_want (by rfl) fun K hK => ⟨?_, fun w' hC => ?_, hK _ ?_⟩
      rotate_left
      · (obtain ⟨q0, q1, q2⟩ := HSK.out _ hC; go_simp; first | done | with_reducible rfl | exact ⟨rfl, hC⟩)
      clear hK K
      simp only [Act.put, List.setIfInBounds_toArray, List.set_cons_zero, List.set_cons_succ]
      refine BigFrame.wpQuiet_want (by rfl) fun K hK => ⟨?_, fun w' hC => ?_, hK _ ?_⟩
      rotate_left
      · (obtain ⟨q0, q1, q2⟩ := HSK.out _ hC; go_simp; first | done | with_reducible rfl | exact ⟨rfl, hC⟩)
      clear hK K
      simp only [Act.put, List.setIfInBounds_toArray, List.set_cons_zero, List.set_cons_succ]
      refine wpQuiet_nil ?_
      intro wa hCa
      have HXa := Lib.hid (HXn.out.trans hCa)
      have HAa := Lib.hid (HAn.out.ex hCa)
      have HRa := Lib.hid (HRn.out.ex hCa)
      have HCa := Lib.hid (HCn.out.ex hCa)
      have HGa := Lib.hid (HGn.out.ex hCa)
      clear hCa HSK HXn HAn HRn HCn HGn
      go_wp2_with fail
      go_loopw [8] (fun i wr => ∃ j : Nat, j ≤ t.length ∧ i = .int .i64 (j : Int) ∧ Hid (Ex w wr) ∧ Hid (Has wr p 29 #[.slice (some ⟨b, o, none⟩) t.length c]) ∧ Hid (Has wr (p + 1) 29 #[.slice none 0 0]) ∧ Hid (Has wr D 29 #[.slice (some ⟨g, 0, none⟩) t.length k1]) ∧ Hid (GT wr W0.heap.size (.slice (some ⟨g, 0, none⟩) t.length k1) t.length (renW t xs k j) G CC)) (fun i _ => t.length - (intOf i).toNat)
      case atStart => exact ⟨0, Nat.zero_le _, rfl, HXa, HAa, HRa, HCa, HGa⟩
      case round =>
        clear HXa HAa HRa HCa HGa
        obtain ⟨j, hj, rfl, HXj, HAj, HRj, HCj, HGj⟩ := hrel
        have c0 := HAj.out.cell 0
        go_wp2_with fail
        refine (l01N_ex (some ⟨b, o, none⟩) t.length c wr (by omega)).mono ?_
        rintro e wm ⟨rfl, hem⟩
        have HXm := Lib.hid (HXj.out.trans hem)
        have HAm := Lib.hid (HAj.out.ex hem)
        have HRm := Lib.hid (HRj.out.ex hem)
        have HCm := Lib.hid (HCj.out.ex hem)
        have HGm := Lib.hid (HGj.out.ex hem)
        clear c0 hem HXj HAj HRj HCj HGj
        by_cases hjl : j < t.length
        · obtain ⟨hye, hyN⟩ := HRG.out j hjl
          obtain ⟨y, hy⟩ : ∃ y, (nth xs j).toNat = y := ⟨_, rfl⟩
          rw [hy] at hye hyN
          obtain ⟨m, hm⟩ : ∃ m, mul t k j = m := ⟨_, rfl⟩
          have hmN : m < t.length := by rw [← hm]; exact (HEN.out k j hlt hjl w (Ex.refl w)).2.2
          obtain ⟨z, hz⟩ : ∃ z, nth xs m = z := ⟨_, rfl⟩
          have HPU : Hid (∀ a, a < t.length → ∀ b, b < t.length → (if a = x ∧ b = y then z else renW t xs k j a b) = renW t xs k (j + 1) a b) := Lib.hid (fun a ha b hb => by
            have h := renW_put HRE.out hlt hjl HXX.out hye ha hb
            rw [hm, hz] at h
            exact h)
          have HSK := Lib.hid (fun W (he : Ex wm W) => (⟨(HAm.out.ex he).cell 0, by rw [HXE.out j hjl W (HXm.out.trans he), hye], (HEN.out k j hlt hjl W (HXm.out.trans he)).1, by rw [(HEN.out k j hlt hjl W (HXm.out.trans he)).2.1, hm], by rw [HXE.out m hmN W (HXm.out.trans he), hz]⟩ :
            W.cell? ⟨p, 0, none⟩ = some (.slice (some ⟨b, o, none⟩) t.length c) ∧ W.cell? ⟨bl, ol + j, none⟩ = some (.int .i64 (y : Int)) ∧ W.cell? ⟨b, o + k, none⟩ = some (.slice (some ⟨bb k, oo k, none⟩) t.length (C k)) ∧ W.cell? ⟨bb k, oo k + j, none⟩ = some (.int .i64 (m : Int)) ∧ W.cell? ⟨bl, ol + m, none⟩ = some (.int .i64 z)))
          clear hy hye hm hz
          go_wp2_with fail
          have hx := (Ex.refl wm).drew
          have hC0 := HSK.out _ hx
          refine Late.region (C := fun W => W.cell? ⟨p, 0, none⟩ = some (.slice (some ⟨b, o, none⟩) t.length c) ∧ W.cell? ⟨bl, ol + j, none⟩ = some (.int .i64 (y : Int)) ∧ W.cell? ⟨b, o + k, none⟩ = some (.slice (some ⟨bb k, oo k, none⟩) t.length (C k)) ∧ W.cell? ⟨bb k, oo k + j, none⟩ = some (.int .i64 (m : Int)) ∧ W.cell? ⟨bl, ol + m, none⟩ = some (.int .i64 z)) (fun j => decide (j < 17)) (by kernel_rfl) hC0 (fun hC => ?_)
          refine Late.take (i := 0) (oi := ⟨_, _, _, _, _, _⟩) (v := ?_) rfl (by kernel_rfl) (by kernel_rfl) (by kernel_rfl) (by kernel_rfl) (fun _ _ _ h => h) (Or.inl ⟨by rfl, ?_⟩) hC ?_
          rotate_left
          · (intro w hSw; (try dsimp only at hSw); go_simp; first | done | with_reducible rfl)
          simp only [Act.put]
          refine Late.take (i := 1) (oi := ⟨_, _, _, _, _, _⟩) (v := ?_) rfl (by kernel_rfl) (by kernel_rfl) (by kernel_rfl) (by kernel_rfl) (fun _ _ _ h => h) (Or.inl ⟨by rfl, ?_⟩) hC ?_
          rotate_left
          · (intro w hSw; (try dsimp only at hSw); go_simp; first | done | with_reducible rfl)
          simp only [Act.put]
          refine Late.take (i := 2) (oi := ⟨_, _, _, _, _, _⟩) (v := ?_) rfl (by kernel_rfl) (by kernel_rfl) (by kernel_rfl) (by kernel_rfl) (fun _ _ _ h => h) (Or.inl ⟨by rfl, ?_⟩) hC ?_
          rotate_left
          · (intro w hSw; (try dsimp only at hSw); go_simp; first | done | with_reducible rfl)
          simp only [Act.put]
          refine Late.take (i := 3) (oi := ⟨_, _, _, _, _, _⟩) (v := ?_) rfl (by kernel_rfl) (by kernel_rfl) (by kernel_rfl) (by kernel_rfl) (fun _ _ _ h => h) (Or.inl ⟨by rfl, ?_⟩) hC ?_
          rotate_left
          · (intro w hSw; (try dsimp only at hSw); go_simp; first | done | with_reducible rfl)
          simp only [Act.put]
          refine Late.take (i := 4) (oi := ⟨_, _, _, _, _, _⟩) (v := ?_) rfl (by kernel_rfl) (by kernel_rfl) (by kernel_rfl) (by kernel_rfl) (fun _ _ _ h => h) (Or.inl ⟨by rfl, ?_⟩) hC ?_
          rotate_left
          · (intro w hSw; (try dsimp only at hSw); go_simp; first | done | with_reducible rfl)
          simp only [Act.put]
          refine Late.take (i := 5) (oi := ⟨_, _, _, _, _, _⟩) (v := ?_) rfl (by kernel_rfl) (by kernel_rfl) (by kernel_rfl) (by kernel_rfl) (fun _ _ _ h => h) (Or.inl ⟨by rfl, ?_⟩) hC ?_
          rotate_left
          · (intro w hSw; (try dsimp only at hSw); go_simp; first | done | with_reducible rfl)
          simp only [Act.put]
          refine Late.take (i := 6) (oi := ⟨_, _, _, _, _, _⟩) (v := ?_) rfl (by kernel_rfl) (by kernel_rfl) (by kernel_rfl) (by kernel_rfl) (fun _ _ _ h => h) (Or.inl ⟨by rfl, ?_⟩) hC ?_
          rotate_left
          · (intro w hSw; (try dsimp only at hSw); go_simp; first | done | with_reducible rfl)
          simp only [Act.put]
          refine Late.take (i := 7) (oi := ⟨_, _, _, _, _, _⟩) (v := ?_) rfl (by kernel_rfl) (by kernel_rfl) (by kernel_rfl) (by kernel_rfl) (fun _ _ _ h => h) (Or.inl ⟨by rfl, ?_⟩) hC ?_
          rotate_left
          · (intro w hSw; (try dsimp only at hSw); go_simp; first | done | with_reducible rfl)
          simp only [Act.put]
          refine Late.take (i := 8) (oi := ⟨_, _, _, _, _, _⟩) (v := ?_) rfl (by kernel_rfl) (by kernel_rfl) (by kernel_rfl) (by kernel_rfl) (fun _ _ _ h => h) (Or.inl ⟨by rfl, ?_⟩) hC ?_
          rotate_left
          · (intro w hSw; (try dsimp only at hSw); go_simp; first | done | with_reducible rfl)
          simp only [Act.put]
          refine Late.take (i := 9) (oi := ⟨_, _, _, _, _, _⟩) (v := ?_) rfl (by kernel_rfl) (by kernel_rfl) (by kernel_rfl) (by kernel_rfl) (fun _ _ _ h => h) (Or.inl ⟨by rfl, ?_⟩) hC ?_
          rotate_left
          · (intro w hSw; (try dsimp only at hSw); go_simp; first | done | with_reducible rfl)
          simp only [Act.put]
          refine Late.take (i := 10) (oi := ⟨_, _, _, _, _, _⟩) (v := ?_) rfl (by kernel_rfl) (by kernel_rfl) (by kernel_rfl) (by kernel_rfl) (fun _ _ _ h => h) (Or.inl ⟨by rfl, ?_⟩) hC ?_
          rotate_left
          · (intro w hSw; (try dsimp only at hSw); go_simp; first | done | with_reducible rfl)
          simp only [Act.put]
          refine Late.take (i := 11) (oi := ⟨_, _, _, _, _, _⟩) (v := ?_) rfl (by kernel_rfl) (by kernel_rfl) (by kernel_rfl) (by kernel_rfl) (fun _ _ _ h => h) (Or.inl ⟨by rfl, ?_⟩) hC ?_
          rotate_left
          · (intro w hSw; (try dsimp only at hSw); go_simp; first | done | with_reducible rfl)
          simp only [Act.put]
          refine Late.take (i := 12) (oi := ⟨_, _, _, _, _, _⟩) (v := ?_) rfl (by kernel_rfl) (by kernel_rfl) (by kernel_rfl) (by kernel_rfl) (fun _ _ _ h => h) (Or.inl ⟨by rfl, ?_⟩) hC ?_
          rotate_left
          · (intro w hSw; (try dsimp only at hSw); go_simp; first | done | with_reducible rfl)
          simp only [Act.put]
          refine Late.take (i := 13) (oi := ⟨_, _, _, _, _, _⟩) (v := ?_) rfl (by kernel_rfl) (by kernel_rfl) (by kernel_rfl) (by kernel_rfl) (fun _ _ _ h => h) (Or.inl ⟨by rfl, ?_⟩) hC ?_
          rotate_left
          · (intro w hSw; (try dsimp only at hSw); go_simp; first | done | with_reducible rfl)
          simp only [Act.put]
          refine Late.take (i := 14) (oi := ⟨_, _, _, _, _, _⟩) (v := ?_) rfl (by kernel_rfl) (by kernel_rfl) (by kernel_rfl) (by kernel_rfl) (fun _ _ _ h => h) (Or.inl ⟨by rfl, ?_⟩) hC ?_
          rotate_left
          · (intro w hSw; (try dsimp only at hSw); go_simp; first | done | with_reducible rfl)
          simp only [Act.put]
          refine Late.take (i := 15) (oi := ⟨_, _, _, _, _, _⟩) (v := ?_) rfl (by kernel_rfl) (by kernel_rfl) (by kernel_rfl) (by kernel_rfl) (fun _ _ _ h => h) (Or.inl ⟨by rfl, ?_⟩) hC ?_
          rotate_left
          · (intro w hSw; (try dsimp only at hSw); go_simp; first | done | with_reducible rfl)
          simp only [Act.put]
          refine Late.take (i := 16) (oi := ⟨_, _, _, _, _, _⟩) (v := ?_) rfl (by kernel_rfl) (by kernel_rfl) (by kernel_rfl) (by kernel_rfl) (fun _ _ _ h => h) (Or.inl ⟨by rfl, ?_⟩) hC ?_
          rotate_left
          · (intro w hSw; (try dsimp only at hSw); go_simp; first | done | with_reducible rfl)
          simp only [Act.put]
          obtain ⟨cg0, fg0⟩ := (HGm.out.ex hx).ent hxN hyN
          refine Late.one (i := 17) (o := _) (by kernel_rfl) rfl (fun K' hK' => ?_)
          go_simp
          refine hK'.out _ _ (fun h => by cases h) (fun _ => ?_)
          clear hK' K'
          refine Late.done (by kernel_rfl) ?_ _
          clear hx hC hC0 cg0 fg0
          go_wp2_with fail
          go_roundw
          case rel =>
            have e9 := (Ex.refl (wm.setCell ⟨G x, y, none⟩ (.int .i64 z))).drew
            have h1 := HGm.out.2.lo_le x hxN
            exact ⟨j + 1, by omega, by go_num, Lib.hid ((HXm.out.setCell (p := ⟨G x, y, none⟩) (by have h2 := HZ.out; have h3 := HP.out; show w.heap.size ≤ G x; omega) _).trans e9), Lib.hid ((HGm.out.far hxN HAm.out (by decide) _).ex e9), Lib.hid ((HGm.out.far hxN HRm.out (by decide) _).ex e9), Lib.hid ((HGm.out.far hxN HCm.out (by decide) _).ex e9), Lib.hid (((HGm.out.put hxN hyN z).congr HPU.out).ex e9)⟩
          case measure => simp [intOf]; omega
        · obtain rfl : j = t.length := by omega
          have HGw := Lib.hid (HGm.out.congr (V' := renW t xs (k + 1) 0) fun a _ b hb => renW_row HRE.out k hb)
          go_wp2_with fail
          go_roundw
          case rel => exact ⟨k + 1, by omega, by go_num, HXm, HAm, HRm, HCm, HGw⟩
          case measure => simp [intOf]; omega
    · obtain rfl : k = t.length := by omega
      have cc := HCn.out.cell 0
      have cr := HRn.out.cell 0
      have fr := HRn.out.free 0
      go_wp2_with fail
      have H4 := HRn.out.put1 (v := .slice (some ⟨g, 0, none⟩) t.length k1)
      have c4 := H4.cell 0
      have hg := ((HGn.out.congr (V' := renV t xs) fun a ha b _ => renW_all HRE.out ha).low (lo' := w.heap.size) (by have := HP.out; have := HZ.out; omega)).grow
      exact bodyPost_ret (v := .agg #[.slice (some ⟨g, 0, none⟩) t.length k1]) (by simp [results, Try.results43, go_sem, c4]) rfl ⟨some ⟨g, 0, none⟩, k1, rfl, HXn.out.setCell (p := ⟨p + 1, 0, none⟩) (by have := HP.out; show w.heap.size ≤ p + 1; omega) _, hg.set HRn.out (by decide) (by decide) 0 _⟩

end Go.Proofs.Ytenenlpfpkdplaa
