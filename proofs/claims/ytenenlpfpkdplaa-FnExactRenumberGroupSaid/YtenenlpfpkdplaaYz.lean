/- RenumberGroup: the program's walk. -/
import Derived.Test.YtenenlpfpkdplaaYx
import Derived.Test.YtenenlpfpkdplaaYr
import Derived.Test.YtenenlpfpkdplaaGw
namespace Go.Proofs.Ytenenlpfpkdplaa
open Go.RowKit Go.Shelf

attribute [local go_sem] Oper.semAt_some

/-- The place that a place of the renumbered table comes from. -/
noncomputable def phi (N : Nat) (xs : List Int) (q : Nat) : Nat := pn N xs (q / N) * N + pn N xs (q % N)
section
variable {N : Nat} {xs : List Int} {q a b x y : Nat}
theorem phi_lt (h : RenP N xs) (hq : q < N * N) : phi N xs q < N * N := by
  have h1 : q / N < N := Nat.div_lt_of_lt_mul hq
  have h2 : q % N < N := Nat.mod_lt _ (Nat.pos_of_ne_zero (by rintro rfl; simp at hq))
  exact cell_ltT (pn_spec h h1).1 (pn_spec h h2).1
theorem phi_iff (h : RenP N xs) (hq : q < N * N) (ha : a < N) (hb : b < N) (hx : nth xs a = (x : Int)) (hy : nth xs b = (y : Int)) : phi N xs q = a * N + b ↔ q = x * N + y := by
  have hxN : x < N := by have := h.rng a ha; omega
  have hyN : y < N := by have := h.rng b hb; omega
  have h1 : q / N < N := Nat.div_lt_of_lt_mul hq
  have h2 : q % N < N := Nat.mod_lt _ (by omega)
  have p1 := pn_spec h h1
  have p2 := pn_spec h h2
  have hx' := pn_im h ha
  have hy' := pn_im h hb
  rw [hx, Int.toNat_natCast] at hx'
  rw [hy, Int.toNat_natCast] at hy'
  constructor
  · intro e
    have e1 : phi N xs q / N = a := by rw [e, div_of hb]
    have e2 : phi N xs q % N = b := by rw [e, mod_of hb]
    unfold phi at e1 e2
    rw [div_of p2.1] at e1
    rw [mod_of p2.1] at e2
    rw [e1, hx] at p1
    rw [e2, hy] at p2
    have := Nat.div_add_mod q N
    have p1' := p1.2
    have p2' := p2.2
    have e3 : q / N = x := by omega
    have e4 : q % N = y := by omega
    rw [e3, e4, Nat.mul_comm] at this
    exact this.symm
  · rintro rfl
    unfold phi
    rw [div_of hyN, mod_of hyN, hx', hy']
end

set_option maxRecDepth 100000 in
set_option maxHeartbeats 8000000 in
theorem implRenumberGroup_ex (t0 : List (List Int)) (t1 : List Int) : ∀ (B0 : Option Addr) (d0 : Nat) (B1 : Option Addr) (d1 : Nat) (W : World), RwsW W B0 t0 → IntsW W B1 t1 → SmallT t0 → t1.length ≤ 1048576 →
    Calls Try.prog 21 #[.agg #[.slice B0 t0.length d0], .slice B1 t1.length d1] W fun e W' => ∃ (C0 : Option Addr) (e0 : Nat), e = .returned (.tuple #[.agg #[.slice C0 (yRenumberGroup0 t0 t1).length e0], .int .i64 (qRenumberGroup1 t0 t1)]) ∧ Ex W W' ∧ OwnT W' W.heap.size W'.heap.size C0 (yRenumberGroup0 t0 t1) := by
  intro B0 d0 B1 d1 w hR hX hs hu
  have e0 : Ex w (((w.alloc (.cells #[.slice B0 t0.length d0] 29)).alloc (.cells #[.slice B1 t1.length d1] 26)).alloc (.cells #[.slice none 0 0] 29)) := (((Ex.refl w).alloc _).alloc _).alloc _
  have b0 : Has (((w.alloc (.cells #[.slice B0 t0.length d0] 29)).alloc (.cells #[.slice B1 t1.length d1] 26)).alloc (.cells #[.slice none 0 0] 29)) (w.heap.size) 29 #[.slice B0 t0.length d0] := (((Has.newAt (w := w) (e := 29) (cs := #[.slice B0 t0.length d0]) (k := w.heap.size) (by simp)).alloc _).alloc _)
  have b1 : Has (((w.alloc (.cells #[.slice B0 t0.length d0] 29)).alloc (.cells #[.slice B1 t1.length d1] 26)).alloc (.cells #[.slice none 0 0] 29)) (w.heap.size + 1) 26 #[.slice B1 t1.length d1] := ((Has.newAt (w := (w.alloc (.cells #[.slice B0 t0.length d0] 29))) (e := 26) (cs := #[.slice B1 t1.length d1]) (k := w.heap.size + 1) (by simp)).alloc _)
  have b2 : Has (((w.alloc (.cells #[.slice B0 t0.length d0] 29)).alloc (.cells #[.slice B1 t1.length d1] 26)).alloc (.cells #[.slice none 0 0] 29)) (w.heap.size + 1 + 1) 29 #[.slice none 0 0] := (Has.newAt (w := ((w.alloc (.cells #[.slice B0 t0.length d0] 29)).alloc (.cells #[.slice B1 t1.length d1] 26))) (e := 29) (cs := #[.slice none 0 0]) (k := w.heap.size + 1 + 1) (by simp))
  obtain ⟨W0, hW0⟩ : ∃ W0, (((w.alloc (.cells #[.slice B0 t0.length d0] 29)).alloc (.cells #[.slice B1 t1.length d1] 26)).alloc (.cells #[.slice none 0 0] 29)) = W0 := ⟨_, rfl⟩
  rw [hW0] at e0 b0 b1 b2
  have HW0 := Lib.hid hW0
  have HC := Lib.hid (fun W (he : Ex w W) => implIsGroup_ex B0 t0 d0 W (hR.ex he) hs)
  obtain ⟨p, hp⟩ : ∃ p, w.heap.size = p := ⟨_, rfl⟩
  have HP := Lib.hid hp
  rw [hp] at b0 b1 b2
  have HE0 := Lib.hid e0
  have HB0 := Lib.hid b0
  have HB1 := Lib.hid b1
  have HB2 := Lib.hid b2
  have c0 := b0.cell 0
  cases hg : grpB t0 with
  | false =>
    rw [hg] at HC
    have HQ := Lib.hid (rn_no (xs := t1) hg)
    clear hg hR hX hs hu hW0 hp b0 b1 b2 e0
    go_enter Try.func21, Try.ntmps21
    go_wp2_with fail
    rw [HW0.out, HP.out]
    refine (HC.out _ HE0.out).mono ?_
    rintro e W1 ⟨rfl, he1⟩
    have HBR := Lib.hid (HB2.out.ex he1)
    have cr := HBR.out.cell 0
    have fr := HBR.out.free 0
    have HE1 := Lib.hid (HE0.out.trans he1)
    clear he1 c0
    go_wp2_with fail
    have H4 := HBR.out.put1 (v := .slice none 0 0)
    have c4 := H4.cell 0
    have hE := HE1.out.setCell (p := ⟨p + 1 + 1, 0, none⟩) (by have := HP.out; show w.heap.size ≤ p + 1 + 1; omega) (.slice none 0 0)
    exact bodyPost_ret (v := .tuple #[.agg #[.slice none 0 0], .int .i64 1]) (by simp [results, Try.results21, go_sem, c4]) rfl ⟨none, 0, by rw [HQ.out.1, HQ.out.2]; rfl, hE, by rw [HQ.out.1]; exact OwnT.nil _ _ _ (Nat.le_refl _)⟩
  | true =>
    rw [hg] at HC
    have hgr := grpB_iff.1 hg
    have hn8 := hgr.n8
    have hn1 := hgr.n1
    have HIR := Lib.hid (fun W (he : Ex w W) => isRenumbering_any B0 B1 t1 d0 d1 t0.length W (hX.ex he) hu hn1 hn8)
    cases hr : renB t0.length t1 with
    | false =>
      rw [hr] at HIR
      have HQ := Lib.hid (rn_out hg hr)
      clear hg hr hgr hR hX hs hu hW0 hp b0 b2 e0
      go_enter Try.func21, Try.ntmps21
      go_wp2_with fail
      rw [HW0.out, HP.out]
      refine (HC.out _ HE0.out).mono ?_
      rintro e W1 ⟨rfl, he1⟩
      have c1 := (HB0.out.ex he1).cell 0
      have c1' := (HB1.out.ex he1).cell 0
      have HB21 := Lib.hid (HB2.out.ex he1)
      have HE1 := Lib.hid (HE0.out.trans he1)
      clear he1 c0 b1
      go_wp2_with fail
      refine (HIR.out _ HE1.out).mono ?_
      rintro e W2 ⟨rfl, he2⟩
      have HBR := Lib.hid (HB21.out.ex he2)
      have cr := HBR.out.cell 0
      have fr := HBR.out.free 0
      have HE2 := Lib.hid (HE1.out.trans he2)
      clear he2 c1 c1'
      go_wp2_with fail
      have H4 := HBR.out.put1 (v := .slice none 0 0)
      have c4 := H4.cell 0
      have hE := HE2.out.setCell (p := ⟨p + 1 + 1, 0, none⟩) (by have := HP.out; show w.heap.size ≤ p + 1 + 1; omega) (.slice none 0 0)
      exact bodyPost_ret (v := .tuple #[.agg #[.slice none 0 0], .int .i64 2]) (by simp [results, Try.results21, go_sem, c4]) rfl ⟨none, 0, by rw [HQ.out.1, HQ.out.2]; rfl, hE, by rw [HQ.out.1]; exact OwnT.nil _ _ _ (Nat.le_refl _)⟩
    | true =>
      rw [hr] at HIR
      have HQ := Lib.hid (rn_yes hg hr)
      have hren := renB_iff.1 hr
      have hl1 := hren.len
      obtain ⟨b, o, bb, oo, C, rfl, hQ⟩ := hR.sq hgr
      obtain ⟨bl, ol, rfl, -, -⟩ := hX.ints.at_ (j := 0) (by omega)
      have HEN := Lib.hid (fun x y (hx : x < t0.length) (hy : y < t0.length) W (he : Ex w W) => (⟨(hQ.ex he).row_ hx, by rw [(hQ.ex he).ent_ hx hy, hgr.ent hx hy], hgr.mul_lt hx hy⟩ : W.cell? ⟨b, o + x, none⟩ = some (.slice (some ⟨bb x, oo x, none⟩) t0.length (C x)) ∧ W.cell? ⟨bb x, oo x + y, none⟩ = some (.int .i64 (mul t0 x y : Int)) ∧ mul t0 x y < t0.length))
      have HXE := Lib.hid (fun i (hi : i < t0.length) W (he : Ex w W) => (by
        obtain ⟨b', o', e, hb, hc⟩ := (hX.ex he).ints.at_ (j := i) (by omega)
        cases e
        exact hc : W.cell? ⟨bl, ol + i, none⟩ = some (.int .i64 (nth t1 i))))
      have HRG := Lib.hid (fun i (hi : i < t0.length) => (by have := hren.rng i hi; exact ⟨by omega, by omega⟩ : nth t1 i = ((nth t1 i).toNat : Int) ∧ (nth t1 i).toNat < t0.length))
      have HRE := Lib.hid hren
      have HL1 := Lib.hid hl1
      have hNp : t0.length * t0.length ≤ 64 := Nat.mul_le_mul hn8 hn8
      clear hg hr hgr hR hX hs hu hW0 hp b0 b1 b2 e0 hren hQ hl1
      refine (callsIn_wide (n := 20)).1 ?_
      refine callsIn_of_wp_marks Try.func21 rfl trivial ?_ rfl
      simp only [Try.ntmps21, List.size_toArray, List.length_cons, List.length_nil, Nat.reduceAdd, Nat.reduceSub, Array.replicate_succ, Array.replicate_zero, List.push_toArray, List.append_toArray, List.nil_append, List.cons_append]
      refine wpIn_wide.2 ?_
      go_wp2_with fail
      rw [HW0.out, HP.out]
      refine (HC.out _ HE0.out).mono ?_
      rintro e W1 ⟨rfl, he1⟩
      have c1 := (HB0.out.ex he1).cell 0
      have c1' := (HB1.out.ex he1).cell 0
      have HB01 := Lib.hid (HB0.out.ex he1)
      have HB11 := Lib.hid (HB1.out.ex he1)
      have HB21 := Lib.hid (HB2.out.ex he1)
      have HE1 := Lib.hid (HE0.out.trans he1)
      clear he1 c0
      go_wp2_with fail
      refine (HIR.out _ HE1.out).mono ?_
      rintro e W2 ⟨rfl, he2⟩
      have c2 := (HB01.out.ex he2).cell 0
      have HB02 := Lib.hid (HB01.out.ex he2)
      have HB12 := Lib.hid (HB11.out.ex he2)
      have HB22 := Lib.hid (HB21.out.ex he2)
      have HE2 := Lib.hid (HE1.out.trans he2)
      clear he2 c1 c1'
      go_wp2_with fail
      refine (groupOrder_ex (some ⟨b, o, none⟩) t0.length d0 W2 (by omega)).mono ?_
      rintro e W3 ⟨rfl, he3⟩
      have HB03 := Lib.hid (HB02.out.ex he3)
      have HB13 := Lib.hid (HB12.out.ex he3)
      have HB23 := Lib.hid (HB22.out.ex he3)
      have HE3 := Lib.hid (HE2.out.trans he3)
      clear he3 c2
      go_wp2_with fail
      refine (newTable_any t0.length (by omega) W3).mono ?_
      rintro e W4 ⟨rfl, he4, hG, hR⟩
      obtain ⟨D, hD⟩ : ∃ D, W3.heap.size = D := ⟨_, rfl⟩
      rw [hD] at hG hR ⊢
      have hpD : p + 1 + 1 < D := by have := HB23.out.lt; omega
      obtain ⟨z, hz⟩ : ∃ z, W4.heap.size = z := ⟨_, rfl⟩
      have hDz : D + 1 < z := by have := hR.lt; omega
      have hRD : W4.heap.size = z := hz
      have ea := (Ex.new W4 (.cells #[.slice (some ⟨D + 1, 0, none⟩) t0.length t0.length] 29))
      have bA := (HB03.out.ex he4).ex ea
      have bP := (HB13.out.ex he4).ex ea
      have bR := (HB23.out.ex he4).ex ea
      have bC := hG.ex ea
      have bT := hR.ex ea
      have bg : Has (W4.alloc (.cells #[.slice (some ⟨D + 1, 0, none⟩) t0.length t0.length] 29)) z 29 #[.slice (some ⟨D + 1, 0, none⟩) t0.length t0.length] := Has.newAt hz
      have HE5 := Lib.hid ((HE3.out.trans he4).trans ea)
      have hsz5 : (W4.alloc (.cells #[.slice (some ⟨D + 1, 0, none⟩) t0.length t0.length] 29)).heap.size = z + 1 := by simp [hz]
      have cA := bA.cell 0
      clear he4 hG hR ea hRD
      go_wp2_with fail
      refine (elementsOf_any (some ⟨b, o, none⟩) t0.length d0 _).mono ?_
      rintro e w' ⟨rfl, rfl⟩
      rw [hsz5]
      generalize W4.alloc (.cells #[.slice (some ⟨D + 1, 0, none⟩) t0.length t0.length] 29) = W5 at *
      have e6 := Ex.new W5 (.cells #[.slice (some ⟨b, o, none⟩) t0.length d0] 29)
      obtain ⟨W6, hW6⟩ : ∃ W6, W5.alloc (.cells #[.slice (some ⟨b, o, none⟩) t0.length d0] 29) = W6 := ⟨_, rfl⟩
      have be : Has (W5.alloc (.cells #[.slice (some ⟨b, o, none⟩) t0.length d0] 29)) (z + 1) 29 #[.slice (some ⟨b, o, none⟩) t0.length d0] := Has.newAt hsz5
      have hsz6 : (W5.alloc (.cells #[.slice (some ⟨b, o, none⟩) t0.length d0] 29)).heap.size = z + 1 + 1 := by simp [hsz5]
      have bA := bA.ex e6
      have bP := bP.ex e6
      have bR := bR.ex e6
      have bC := bC.ex e6
      have bT := bT.ex e6
      have bg := bg.ex e6
      have HE6 := Lib.hid (HE5.out.trans e6)
      rw [hW6] at be hsz6 bA bP bR bC bT bg HE6 ⊢
      clear e6 hW6 hsz5 hz cA
      go_wp2_with fail
      have HBR := Lib.hid bR
      clear bR
      refine (wpIn_wide (n := 20)).1 ?_
      refine range_topB (n := 20) (n₀ := D) (by omega) (gf := 62) (lb := #[.pointer (some ⟨z + 1, 0, none⟩)]) rfl (enters_of Try.func62 (by kernel_rfl) rfl)
        (elements_stops 19 (by omega) (z + 1) D t0.length d0 _ W6 (by omega) (be.cell 0) (by omega)) (by omega) (fun _ => rfl) 2 (fun x => .int .i64 (x.1 : Int))
        (fun pre W => Has W D 2 (tabP (t0.length * t0.length) (fun q => metR pre (phi t0.length t1 q)) fun q => renV t0 t1 (q / t0.length) (q % t0.length)) ∧ Has W (D + 1) 26 (rowsV D t0.length) ∧ Has W z 29 #[.slice (some ⟨D + 1, 0, none⟩) t0.length t0.length])
        (fun c' _ W => False)
        (OwnFrom.and (Own.from (has_own _ _ _) _) (OwnFrom.and (Own.from (has_own _ _ _) _) (Own.from (has_own _ _ _) _)))
        (fun _ => ownFrom_pure _ _)
        ⟨by rw [tabP_none (fun q _ => metR_nil _)]; exact bC, bT, bg⟩ ?round ?done ?stop
      case stop =>
        rintro D' c' pre W hD' hpre h
        exact h.elim
      case done =>
        rintro D' xs W hD' hxs ⟨hA, hT, hg⟩ hKW hK
        rw [hxs, tabP_all (fun q hq => metR_all (phi_lt HRE.out hq))] at hA
        have hB2 : Has W (p + 1 + 1) 29 #[.slice none 0 0] := HBR.out.below hKW.1 (by omega)
        have hord := hg.cell 0
        have cr := hB2.cell 0
        have fr := hB2.free 0
        have HKW := Lib.hid hKW
        have HB2' := Lib.hid hB2
        have HA := Lib.hid hA
        have HT := Lib.hid hT
        have HKD := Lib.hid hK
        have hszw : w.heap.size ≤ D := by have := HP.out; omega
        clear bC bT bg be hA hT hg hKW hB2 hK bA bP
        simp only [Exit.inBlock, Exit.then]
        go_wp2_with fail
        have hne : p + 1 + 1 ≠ D' := by intro e; have h1 := HB2'.out; have h2 := HKD.out; rw [← e, show W.heap[p + 1 + 1]? = _ from h1] at h2; cases h2
        have hK' : (W.setCell ⟨p + 1 + 1, 0, none⟩ (.slice (some ⟨D + 1, 0, none⟩) t0.length t0.length)).heap[D']? = some (.deferred (some [])) := (Below.heap_setCell _ _ _ D' (fun e => hne e.symm)).trans HKD.out
        refine ⟨by simp, .inl ⟨_, _, rfl, run_takeDeferred hK', ?_⟩⟩
        have hRs : Has (W.setCell ⟨p + 1 + 1, 0, none⟩ (.slice (some ⟨D + 1, 0, none⟩) t0.length t0.length)) (p + 1 + 1) 29 #[.slice (some ⟨D + 1, 0, none⟩) t0.length t0.length] := HB2'.out.put1
        have hAs := HA.out.far (p := ⟨p + 1 + 1, 0, none⟩) (by show D ≠ p + 1 + 1; omega) (.slice (some ⟨D + 1, 0, none⟩) t0.length t0.length)
        have hTs := HT.out.far (p := ⟨p + 1 + 1, 0, none⟩) (by show D + 1 ≠ p + 1 + 1; omega) (.slice (some ⟨D + 1, 0, none⟩) t0.length t0.length)
        have hEs : Ex w (W.setCell ⟨p + 1 + 1, 0, none⟩ (.slice (some ⟨D + 1, 0, none⟩) t0.length t0.length)) := (HE6.out.trans' HKW.out.1 hszw).setCell (by have := HP.out; show w.heap.size ≤ p + 1 + 1; omega) _
        generalize (W.setCell ⟨p + 1 + 1, 0, none⟩ (.slice (some ⟨D + 1, 0, none⟩) t0.length t0.length)) = Ws at *
        have hg8 := grownBy_putObj' Ws D' (.deferred none)
        have hr8 : ∀ r, some D' = some r → ∃ o : Obj, Ws.heap[r]? = some o ∧ o.isCells = false := fun r e => by cases e; exact ⟨_, hK', rfl⟩
        have c8 := (hRs.grownR hg8 hr8).cell 0
        exact ⟨.tuple #[.agg #[.slice (some ⟨D + 1, 0, none⟩) t0.length t0.length], .int .i64 0], by simp [results, Try.results21, go_sem, c8], some ⟨D + 1, 0, none⟩, t0.length, by rw [HQ.out.1, HQ.out.2, renT, mkT_len], Below.grown hEs hg8 hEs.size (fun k hk => by cases hk; omega), by rw [HQ.out.1]; exact OwnT.of_block (hAs.grownR hg8 hr8) (hTs.grownR hg8 hr8) (by omega) (by omega)⟩
      case round =>
        clear bC bT bg be
        have HBA := Lib.hid bA
        have HBP := Lib.hid bP
        clear bA bP
        intro l x W K hK
        have HK := Lib.hid hK
        clear hK
        gi_wp2
        refine HK.out _ ?_
        clear HK
        rintro l B1 pre W1 hB1 hle1 hr ⟨hA, hT, hg⟩ hKW bX _
        rw [hB1]
        clear hB1
        obtain ⟨a, ha⟩ := x
        dsimp only at bX
        have hcg := (HBA.out.below hKW.1 (by omega)).cell 0
        have HKW := Lib.hid hKW
        have HR := Lib.hid hr
        clear hKW hr
        gi_wp2_with (refine ⟨trivial, ?_⟩; gi_at_call 46; refine (CallsIn.inRound l (callsIn_wide.2 (elementsOf_any _ t0.length d0 _))).mono ?_; rintro e w' ⟨rfl, rfl⟩)
        clear hcg
        have eA := Ex.new W1 (.cells #[.slice (some ⟨b, o, none⟩) t0.length d0] 29)
        have bA := hA.ex eA
        have bT := hT.ex eA
        have bg := hg.ex eA
        have bX2 : Has (W1.alloc (.cells #[.slice (some ⟨b, o, none⟩) t0.length d0] 29)) B1 2 #[.int .i64 (a : Int)] := Has.alloc bX _
        have bE := Has.new W1 29 #[.slice (some ⟨b, o, none⟩) t0.length d0]
        have hK1 : Keeps D W1 (W1.alloc (.cells #[.slice (some ⟨b, o, none⟩) t0.length d0] 29)) := (Keeps.refl _ _).alloc (by have := hA.lt; omega) _
        have hszA : (W1.alloc (.cells #[.slice (some ⟨b, o, none⟩) t0.length d0] 29)).heap.size = W1.heap.size + 1 := by simp
        have hrA : ∃ r, (W1.alloc (.cells #[.slice (some ⟨b, o, none⟩) t0.length d0] 29)).heap[l]? = some (.loop r) := by
          obtain ⟨r, hr⟩ := HR.out
          exact ⟨r, (Below.heap_alloc W1 _ l (Array.getElem?_eq_some_iff.1 hr).1).trans hr⟩
        have hltA := hA.lt
        have hneT : B1 ≠ D + 1 := by omega
        have hneg : B1 ≠ z := by omega
        have hneD : B1 ≠ D := by omega
        clear hA hT hg bX eA
        obtain ⟨W2, hW2⟩ : ∃ W2, W1.alloc (.cells #[.slice (some ⟨b, o, none⟩) t0.length d0] 29) = W2 := ⟨_, rfl⟩
        rw [hW2] at bA bT bg bX2 bE hK1 hszA hrA ⊢
        clear hW2
        have HK1 := Lib.hid hK1
        have hE2 : Ex w W2 := HE6.out.trans' (HKW.out.1.trans hK1.1) (by have := HP.out; omega)
        refine range_in (n := 20 - 1 - 1) (n₀ := D) (by omega) hrA (gf := 62) (lb := #[.pointer (some ⟨W1.heap.size, 0, none⟩)]) rfl (enters_of Try.func62 (by kernel_rfl) rfl)
          (elements_stops (20 - 1 - 1 - 1) (by omega) W1.heap.size D t0.length d0 _ W2 (by omega) (bE.cell 0) (by omega)) (by omega) (fun _ => rfl)
          (fun pre2 W => Has W D 2 (tabP (t0.length * t0.length) (fun q => metC pre a pre2 (phi t0.length t1 q)) fun q => renV t0 t1 (q / t0.length) (q % t0.length)) ∧ Has W (D + 1) 26 (rowsV D t0.length) ∧ Has W z 29 #[.slice (some ⟨D + 1, 0, none⟩) t0.length t0.length] ∧ Has W B1 2 #[.int .i64 (a : Int)])
          (fun c' _ W => False)
          (OwnFrom.and (Own.from (has_own _ _ _) _) (OwnFrom.and (Own.from (has_own _ _ _) _) (OwnFrom.and (Own.from (has_own _ _ _) _) (Own.from (has_own _ _ _) _))))
          (fun _ => ownFrom_pure _ _)
          ⟨by rw [tabP_congr (fun q _ => metC_nil pre a _)]; exact bA, bT, bg, bX2⟩ ?round2 ?done2 ?stop2
        case done2 =>
          rintro ys W hys ⟨bM2, bT2, bg2, _⟩ hKW2
          rw [hys, tabP_congr (fun q _ => metC_all pre a ha _)] at bM2
          gi_wp2
          exact ⟨HK1.out.trans hKW2, bM2, bT2, bg2⟩
        case stop2 =>
          rintro c' pre' W hpre h
          exact h.elim
        case round2 =>
          clear bA bT bg bX2 bE hK1 hszA hrA
          have HE2 := Lib.hid hE2
          clear hE2
          intro l2 y W K hK
          have HK := Lib.hid hK
          clear hK
          gi_wp2
          refine HK.out _ ?_
          clear HK
          rintro l2 pre2 W3 hr2 ⟨bM2, bT2, bg2, bX3⟩ hKW2 _
          obtain ⟨j, hj⟩ := y
          dsimp only
          have hE3 : Ex w W3 := HE2.out.trans' hKW2.1 (by have := HP.out; omega)
          have hA3 : Has W3 p 29 #[.slice (some ⟨b, o, none⟩) t0.length d0] := (HBA.out.below HKW.out.1 (by omega)).below (HK1.out.1.trans hKW2.1) (by omega)
          have hP3 : Has W3 (p + 1) 26 #[.slice (some ⟨bl, ol, none⟩) t1.length d1] := (HBP.out.below HKW.out.1 (by omega)).below (HK1.out.1.trans hKW2.1) (by omega)
          obtain ⟨hxe, hxN⟩ := HRG.out a ha
          obtain ⟨hye, hyN⟩ := HRG.out j hj
          obtain ⟨x, hx⟩ : ∃ x, (nth t1 a).toNat = x := ⟨_, rfl⟩
          obtain ⟨y, hy⟩ : ∃ y, (nth t1 j).toNat = y := ⟨_, rfl⟩
          rw [hx] at hxe hxN
          rw [hy] at hye hyN
          obtain ⟨m, hm⟩ : ∃ m, mul t0 a j = m := ⟨_, rfl⟩
          have hmN : m < t0.length := by rw [← hm]; exact (HEN.out a j ha hj w (Ex.refl w)).2.2
          obtain ⟨zv, hzv⟩ : ∃ zv, nth t1 m = zv := ⟨_, rfl⟩
          obtain ⟨s, hs⟩ : ∃ s, x * t0.length = s := ⟨_, rfl⟩
          have hplace : s + y < t0.length * t0.length := by rw [← hs]; exact cell_ltT hxN hyN
          have hfu : renV t0 t1 ((s + y) / t0.length) ((s + y) % t0.length) = zv := by
            have h1 := pn_im HRE.out ha
            have h2 := pn_im HRE.out hj
            rw [hx] at h1
            rw [hy] at h2
            rw [← hs, div_of hyN, mod_of hyN, renV, h1, h2, hm, hzv]
          have HPT := Lib.hid (tabP_put (S := fun q => metC pre a pre2 (phi t0.length t1 q)) (f := fun q => renV t0 t1 (q / t0.length) (q % t0.length)) hplace)
          have HCG := Lib.hid (tabP_congr (n := t0.length * t0.length) (S := fun q => metC pre a pre2 (phi t0.length t1 q) ∨ q = s + y) (S' := fun q => metC pre a (pre2 ++ [⟨j, hj⟩]) (phi t0.length t1 q)) (f := fun q => renV t0 t1 (q / t0.length) (q % t0.length)) (fun q hq => by rw [← metC_snoc, phi_iff HRE.out hq ha hj hxe hye, hs]))
          rw [hfu, HCG.out] at HPT
          obtain ⟨v0, hv0⟩ := tabP_get (S := fun q => metC pre a pre2 (phi t0.length t1 q)) (f := fun q => renV t0 t1 (q / t0.length) (q % t0.length)) hplace
          have hex := (Ex.refl W3).drew
          have hcell := (bM2.ex hex).cell (s + y)
          rw [hv0] at hcell
          have hfree := (bM2.ex hex).free (s + y)
          have hC0 : (fun w' : World => w'.cell? ⟨z, 0, none⟩ = some (.slice (some ⟨D + 1, 0, none⟩) t0.length t0.length) ∧ w'.cell? ⟨p + 1, 0, none⟩ = some (.slice (some ⟨bl, ol, none⟩) t1.length d1) ∧ w'.cell? ⟨B1, 0, none⟩ = some (.int .i64 (a : Int)) ∧ w'.cell? ⟨bl, ol + a, none⟩ = some (.int .i64 (x : Int)) ∧ w'.cell? ⟨bl, ol + j, none⟩ = some (.int .i64 (y : Int)) ∧ w'.cell? ⟨D + 1, x, none⟩ = some (.slice (some ⟨D, s, none⟩) t0.length t0.length) ∧ w'.cell? ⟨p, 0, none⟩ = some (.slice (some ⟨b, o, none⟩) t0.length d0) ∧ w'.cell? ⟨b, o + a, none⟩ = some (.slice (some ⟨bb a, oo a, none⟩) t0.length (C a)) ∧ w'.cell? ⟨bb a, oo a + j, none⟩ = some (.int .i64 (m : Int)) ∧ w'.cell? ⟨bl, ol + m, none⟩ = some (.int .i64 zv)) W3.drew :=
            ⟨(bg2.ex hex).cell 0, (hP3.ex hex).cell 0, (Has.ex bX3 hex).cell 0, by rw [HXE.out a ha _ (hE3.trans hex), hxe], by rw [HXE.out j hj _ (hE3.trans hex), hye], by rw [(bT2.ex hex).cell, rowsV, tab_get hxN, hs], (hA3.ex hex).cell 0, (HEN.out a j ha hj _ (hE3.trans hex)).1, by rw [(HEN.out a j ha hj _ (hE3.trans hex)).2.1, hm], by rw [HXE.out m hmN _ (hE3.trans hex), hzv]⟩
          have ha0 : (0 : Int) ≤ (a : Int) := by omega
          have haN : (a : Int) < (t1.length : Int) := by have := HL1.out; omega
          have haN0 : (a : Int) < (t0.length : Int) := by omega
          have hj0 : (0 : Int) ≤ (j : Int) := by omega
          have hjN : (j : Int) < (t1.length : Int) := by have := HL1.out; omega
          have hjN0 : (j : Int) < (t0.length : Int) := by omega
          have hmL : (m : Int) < (t1.length : Int) := by have := HL1.out; omega
          have hxN0 : (x : Int) < (t0.length : Int) := by omega
          have hyN0 : (y : Int) < (t0.length : Int) := by omega
          have HM2 := Lib.hid bM2
          have HT2 := Lib.hid bT2
          have Hg2 := Lib.hid bg2
          have HX3 := Lib.hid bX3
          have hZ : D ≤ W3.heap.size := by have := HM2.out.lt; omega
          clear bM2 bT2 bg2 bX3 hKW2 hE3 hA3 hP3 hx hy hxe hye hm hzv hs hfu HCG hv0 hex hplace
          gi_wp2_with fail
          refine Late.round (C := fun w' : World => w'.cell? ⟨z, 0, none⟩ = some (.slice (some ⟨D + 1, 0, none⟩) t0.length t0.length) ∧ w'.cell? ⟨p + 1, 0, none⟩ = some (.slice (some ⟨bl, ol, none⟩) t1.length d1) ∧ w'.cell? ⟨B1, 0, none⟩ = some (.int .i64 (a : Int)) ∧ w'.cell? ⟨bl, ol + a, none⟩ = some (.int .i64 (x : Int)) ∧ w'.cell? ⟨bl, ol + j, none⟩ = some (.int .i64 (y : Int)) ∧ w'.cell? ⟨D + 1, x, none⟩ = some (.slice (some ⟨D, s, none⟩) t0.length t0.length) ∧ w'.cell? ⟨p, 0, none⟩ = some (.slice (some ⟨b, o, none⟩) t0.length d0) ∧ w'.cell? ⟨b, o + a, none⟩ = some (.slice (some ⟨bb a, oo a, none⟩) t0.length (C a)) ∧ w'.cell? ⟨bb a, oo a + j, none⟩ = some (.int .i64 (m : Int)) ∧ w'.cell? ⟨bl, ol + m, none⟩ = some (.int .i64 zv))
            (fun j => decide (j < 24)) (by kernel_rfl) (by rfl) (by rintro ⟨_, _, h⟩; exact h) hC0 ?_
          intro hS
          refine Late.take (i := 0) (oi := ⟨_, _, _, _, _, _⟩) (v := ?_) rfl (by kernel_rfl) (by kernel_rfl) (by kernel_rfl) (by kernel_rfl) (fun _ _ _ h => h) (Or.inl ⟨by rfl, ?_⟩) hS ?_
          rotate_left
          · (intro w hSw; (try dsimp only at hSw); go_simp; first | done | with_reducible rfl)
          simp only [Act.put]
          refine Late.take (i := 1) (oi := ⟨_, _, _, _, _, _⟩) (v := ?_) rfl (by kernel_rfl) (by kernel_rfl) (by kernel_rfl) (by kernel_rfl) (fun _ _ _ h => h) (Or.inl ⟨by rfl, ?_⟩) hS ?_
          rotate_left
          · (intro w hSw; (try dsimp only at hSw); go_simp; first | done | with_reducible rfl)
          simp only [Act.put]
          refine Late.take (i := 2) (oi := ⟨_, _, _, _, _, _⟩) (v := ?_) rfl (by kernel_rfl) (by kernel_rfl) (by kernel_rfl) (by kernel_rfl) (fun _ _ _ h => h) (Or.inl ⟨by rfl, ?_⟩) hS ?_
          rotate_left
          · (intro w hSw; (try dsimp only at hSw); go_simp; first | done | with_reducible rfl)
          simp only [Act.put]
          refine Late.take (i := 3) (oi := ⟨_, _, _, _, _, _⟩) (v := ?_) rfl (by kernel_rfl) (by kernel_rfl) (by kernel_rfl) (by kernel_rfl) (fun _ _ _ h => h) (Or.inl ⟨by rfl, ?_⟩) hS ?_
          rotate_left
          · (intro w hSw; (try dsimp only at hSw); go_simp; first | done | with_reducible rfl)
          simp only [Act.put]
          refine Late.take (i := 4) (oi := ⟨_, _, _, _, _, _⟩) (v := ?_) rfl (by kernel_rfl) (by kernel_rfl) (by kernel_rfl) (by kernel_rfl) (fun _ _ _ h => h) (Or.inl ⟨by rfl, ?_⟩) hS ?_
          rotate_left
          · (intro w hSw; (try dsimp only at hSw); go_simp; first | done | with_reducible rfl)
          simp only [Act.put]
          refine Late.take (i := 5) (oi := ⟨_, _, _, _, _, _⟩) (v := ?_) rfl (by kernel_rfl) (by kernel_rfl) (by kernel_rfl) (by kernel_rfl) (fun _ _ _ h => h) (Or.inl ⟨by rfl, ?_⟩) hS ?_
          rotate_left
          · (intro w hSw; (try dsimp only at hSw); go_simp; first | done | with_reducible rfl)
          simp only [Act.put]
          refine Late.take (i := 6) (oi := ⟨_, _, _, _, _, _⟩) (v := ?_) rfl (by kernel_rfl) (by kernel_rfl) (by kernel_rfl) (by kernel_rfl) (fun _ _ _ h => h) (Or.inl ⟨by rfl, ?_⟩) hS ?_
          rotate_left
          · (intro w hSw; (try dsimp only at hSw); go_simp; first | done | with_reducible rfl)
          simp only [Act.put]
          refine Late.take (i := 7) (oi := ⟨_, _, _, _, _, _⟩) (v := ?_) rfl (by kernel_rfl) (by kernel_rfl) (by kernel_rfl) (by kernel_rfl) (fun _ _ _ h => h) (Or.inl ⟨by rfl, ?_⟩) hS ?_
          rotate_left
          · (intro w hSw; (try dsimp only at hSw); go_simp; first | done | with_reducible rfl)
          simp only [Act.put]
          refine Late.take (i := 8) (oi := ⟨_, _, _, _, _, _⟩) (v := ?_) rfl (by kernel_rfl) (by kernel_rfl) (by kernel_rfl) (by kernel_rfl) (fun _ _ _ h => h) (Or.inl ⟨by rfl, ?_⟩) hS ?_
          rotate_left
          · (intro w hSw; (try dsimp only at hSw); go_simp; first | done | with_reducible rfl)
          simp only [Act.put]
          refine Late.take (i := 9) (oi := ⟨_, _, _, _, _, _⟩) (v := ?_) rfl (by kernel_rfl) (by kernel_rfl) (by kernel_rfl) (by kernel_rfl) (fun _ _ _ h => h) (Or.inl ⟨by rfl, ?_⟩) hS ?_
          rotate_left
          · (intro w hSw; (try dsimp only at hSw); go_simp; first | done | with_reducible rfl)
          simp only [Act.put]
          refine Late.take (i := 10) (oi := ⟨_, _, _, _, _, _⟩) (v := ?_) rfl (by kernel_rfl) (by kernel_rfl) (by kernel_rfl) (by kernel_rfl) (fun _ _ _ h => h) (Or.inl ⟨by rfl, ?_⟩) hS ?_
          rotate_left
          · (intro w hSw; (try dsimp only at hSw); go_simp; first | done | with_reducible rfl)
          simp only [Act.put]
          refine Late.take (i := 11) (oi := ⟨_, _, _, _, _, _⟩) (v := ?_) rfl (by kernel_rfl) (by kernel_rfl) (by kernel_rfl) (by kernel_rfl) (fun _ _ _ h => h) (Or.inl ⟨by rfl, ?_⟩) hS ?_
          rotate_left
          · (intro w hSw; (try dsimp only at hSw); go_simp; first | done | with_reducible rfl)
          simp only [Act.put]
          refine Late.take (i := 12) (oi := ⟨_, _, _, _, _, _⟩) (v := ?_) rfl (by kernel_rfl) (by kernel_rfl) (by kernel_rfl) (by kernel_rfl) (fun _ _ _ h => h) (Or.inl ⟨by rfl, ?_⟩) hS ?_
          rotate_left
          · (intro w hSw; (try dsimp only at hSw); go_simp; first | done | with_reducible rfl)
          simp only [Act.put]
          refine Late.take (i := 13) (oi := ⟨_, _, _, _, _, _⟩) (v := ?_) rfl (by kernel_rfl) (by kernel_rfl) (by kernel_rfl) (by kernel_rfl) (fun _ _ _ h => h) (Or.inl ⟨by rfl, ?_⟩) hS ?_
          rotate_left
          · (intro w hSw; (try dsimp only at hSw); go_simp; first | done | with_reducible rfl)
          simp only [Act.put]
          refine Late.take (i := 14) (oi := ⟨_, _, _, _, _, _⟩) (v := ?_) rfl (by kernel_rfl) (by kernel_rfl) (by kernel_rfl) (by kernel_rfl) (fun _ _ _ h => h) (Or.inl ⟨by rfl, ?_⟩) hS ?_
          rotate_left
          · (intro w hSw; (try dsimp only at hSw); go_simp; first | done | with_reducible rfl)
          simp only [Act.put]
          refine Late.take (i := 15) (oi := ⟨_, _, _, _, _, _⟩) (v := ?_) rfl (by kernel_rfl) (by kernel_rfl) (by kernel_rfl) (by kernel_rfl) (fun _ _ _ h => h) (Or.inl ⟨by rfl, ?_⟩) hS ?_
          rotate_left
          · (intro w hSw; (try dsimp only at hSw); go_simp; first | done | with_reducible rfl)
          simp only [Act.put]
          refine Late.take (i := 16) (oi := ⟨_, _, _, _, _, _⟩) (v := ?_) rfl (by kernel_rfl) (by kernel_rfl) (by kernel_rfl) (by kernel_rfl) (fun _ _ _ h => h) (Or.inl ⟨by rfl, ?_⟩) hS ?_
          rotate_left
          · (intro w hSw; (try dsimp only at hSw); go_simp; first | done | with_reducible rfl)
          simp only [Act.put]
          refine Late.take (i := 17) (oi := ⟨_, _, _, _, _, _⟩) (v := ?_) rfl (by kernel_rfl) (by kernel_rfl) (by kernel_rfl) (by kernel_rfl) (fun _ _ _ h => h) (Or.inl ⟨by rfl, ?_⟩) hS ?_
          rotate_left
          · (intro w hSw; (try dsimp only at hSw); go_simp; first | done | with_reducible rfl)
          simp only [Act.put]
          refine Late.take (i := 18) (oi := ⟨_, _, _, _, _, _⟩) (v := ?_) rfl (by kernel_rfl) (by kernel_rfl) (by kernel_rfl) (by kernel_rfl) (fun _ _ _ h => h) (Or.inl ⟨by rfl, ?_⟩) hS ?_
          rotate_left
          · (intro w hSw; (try dsimp only at hSw); go_simp; first | done | with_reducible rfl)
          simp only [Act.put]
          refine Late.take (i := 19) (oi := ⟨_, _, _, _, _, _⟩) (v := ?_) rfl (by kernel_rfl) (by kernel_rfl) (by kernel_rfl) (by kernel_rfl) (fun _ _ _ h => h) (Or.inl ⟨by rfl, ?_⟩) hS ?_
          rotate_left
          · (intro w hSw; (try dsimp only at hSw); go_simp; first | done | with_reducible rfl)
          simp only [Act.put]
          refine Late.take (i := 20) (oi := ⟨_, _, _, _, _, _⟩) (v := ?_) rfl (by kernel_rfl) (by kernel_rfl) (by kernel_rfl) (by kernel_rfl) (fun _ _ _ h => h) (Or.inl ⟨by rfl, ?_⟩) hS ?_
          rotate_left
          · (intro w hSw; (try dsimp only at hSw); go_simp; first | done | with_reducible rfl)
          simp only [Act.put]
          refine Late.take (i := 21) (oi := ⟨_, _, _, _, _, _⟩) (v := ?_) rfl (by kernel_rfl) (by kernel_rfl) (by kernel_rfl) (by kernel_rfl) (fun _ _ _ h => h) (Or.inl ⟨by rfl, ?_⟩) hS ?_
          rotate_left
          · (intro w hSw; (try dsimp only at hSw); go_simp; first | done | with_reducible rfl)
          simp only [Act.put]
          refine Late.take (i := 22) (oi := ⟨_, _, _, _, _, _⟩) (v := ?_) rfl (by kernel_rfl) (by kernel_rfl) (by kernel_rfl) (by kernel_rfl) (fun _ _ _ h => h) (Or.inl ⟨by rfl, ?_⟩) hS ?_
          rotate_left
          · (intro w hSw; (try dsimp only at hSw); go_simp; first | done | with_reducible rfl)
          simp only [Act.put]
          refine Late.take (i := 23) (oi := ⟨_, _, _, _, _, _⟩) (v := ?_) rfl (by kernel_rfl) (by kernel_rfl) (by kernel_rfl) (by kernel_rfl) (fun _ _ _ h => h) (Or.inl ⟨by rfl, ?_⟩) hS ?_
          rotate_left
          · (intro w hSw; (try dsimp only at hSw); go_simp; first | done | with_reducible rfl)
          simp only [Act.put]
          refine Late.one (i := 24) (o := _) (by kernel_rfl) rfl (fun K' hK' => ?_)
          go_simp
          refine hK'.out _ _ (fun h => by cases h) (fun _ => ?_)
          clear hK' K'
          refine Late.done (by kernel_rfl) ?_ _
          have hex := (Ex.refl W3).drew
          have hM7 := (HM2.out.ex hex).put (s + y) (.int .i64 zv)
          rw [HPT.out] at hM7
          exact ⟨(Keeps.of_below hex hZ).setCell (p := ⟨D, s + y, none⟩) (Nat.le_refl _) _, hM7, (HT2.out.ex hex).far (p := ⟨D, s + y, none⟩) (by show D + 1 ≠ D; omega) _, (Hg2.out.ex hex).far (p := ⟨D, s + y, none⟩) (by show z ≠ D; omega) _, (Has.ex HX3.out hex).far (p := ⟨D, s + y, none⟩) hneD _⟩

end Go.Proofs.Ytenenlpfpkdplaa
