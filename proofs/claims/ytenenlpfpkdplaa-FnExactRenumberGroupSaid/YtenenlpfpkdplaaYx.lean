/- RenumberGroup: the model, and the specification's walk. -/
import Derived.Test.YtenenlpfpkdplaaYw
import Derived.Test.YtenenlpfpkdplaaRo
namespace Go.Proofs.Ytenenlpfpkdplaa
open Go.RowKit Go.Shelf

attribute [local go_sem] Oper.semAt_some

noncomputable def rnC (t : List (List Int)) (xs : List Int) : Int := if grpB t = true then (if renB t.length xs = true then 0 else 2) else 1
noncomputable def yRenumberGroup0 (t : List (List Int)) (xs : List Int) : List (List Int) := if rnC t xs = 0 then renT t xs else []
noncomputable def qRenumberGroup1 (t : List (List Int)) (xs : List Int) : Int := rnC t xs
section
variable {t : List (List Int)} {xs : List Int}
theorem rn_no (h : grpB t = false) : yRenumberGroup0 t xs = [] ∧ qRenumberGroup1 t xs = 1 := by simp [yRenumberGroup0, qRenumberGroup1, rnC, h]
theorem rn_out (h : grpB t = true) (h2 : renB t.length xs = false) : yRenumberGroup0 t xs = [] ∧ qRenumberGroup1 t xs = 2 := by simp [yRenumberGroup0, qRenumberGroup1, rnC, h, h2]
theorem rn_yes (h : grpB t = true) (h2 : renB t.length xs = true) : yRenumberGroup0 t xs = renT t xs ∧ qRenumberGroup1 t xs = 0 := by simp [yRenumberGroup0, qRenumberGroup1, rnC, h, h2]
end
theorem renumberGroup_small0 (t : List (List Int)) (xs : List Int) : SmallT (yRenumberGroup0 t xs) := by
  cases hg : grpB t with
  | false =>
    rw [(rn_no hg).1]
    exact ⟨by simp, fun i hi => by simp at hi⟩
  | true =>
    have h8 := (grpB_iff.1 hg).n8
    cases hr : renB t.length xs with
    | false =>
      rw [(rn_out hg hr).1]
      exact ⟨by simp, fun i hi => by simp at hi⟩
    | true =>
      rw [(rn_yes hg hr).1]
      exact mkT_small (by omega) (by omega)

set_option maxRecDepth 100000 in
set_option maxHeartbeats 8000000 in
theorem specRenumberGroup_ex (t0 : List (List Int)) (t1 : List Int) : ∀ (B0 : Option Addr) (d0 : Nat) (B1 : Option Addr) (d1 : Nat) (W : World), RwsW W B0 t0 → IntsW W B1 t1 → SmallT t0 → t1.length ≤ 1048576 →
    Calls Try.prog 19 #[.agg #[.slice B0 t0.length d0], .slice B1 t1.length d1] W fun e W' => ∃ (C0 : Option Addr) (e0 : Nat), e = .returned (.tuple #[.agg #[.slice C0 (yRenumberGroup0 t0 t1).length e0], .int .i64 (qRenumberGroup1 t0 t1)]) ∧ Ex W W' ∧ OwnT W' W.heap.size W'.heap.size C0 (yRenumberGroup0 t0 t1) := by
  intro B0 d0 B1 d1 w hR hX hs hu
  have e0 : Ex w ((w.alloc (.cells #[.slice B0 t0.length d0] 29)).alloc (.cells #[.slice none 0 0] 29)) := ((Ex.refl w).alloc _).alloc _
  have b0 : Has ((w.alloc (.cells #[.slice B0 t0.length d0] 29)).alloc (.cells #[.slice none 0 0] 29)) (w.heap.size) 29 #[.slice B0 t0.length d0] := ((Has.newAt (w := w) (e := 29) (cs := #[.slice B0 t0.length d0]) (k := w.heap.size) (by simp)).alloc _)
  have b1 : Has ((w.alloc (.cells #[.slice B0 t0.length d0] 29)).alloc (.cells #[.slice none 0 0] 29)) (w.heap.size + 1) 29 #[.slice none 0 0] := (Has.newAt (w := (w.alloc (.cells #[.slice B0 t0.length d0] 29))) (e := 29) (cs := #[.slice none 0 0]) (k := w.heap.size + 1) (by simp))
  have HC := Lib.hid (l01Is_ex B0 t0 d0 _ (hR.ex e0) hs)
  cases hg : grpB t0 with
  | false =>
    rw [hg] at HC
    have HQ := Lib.hid (rn_no (xs := t1) hg)
    clear hg hR hX hs hu
    go_enter Try.func19, Try.ntmps19
    go_wp2_with fail
    generalize ((w.alloc (.cells #[.slice B0 t0.length d0] 29)).alloc (.cells #[.slice none 0 0] 29)) = W0 at *
    refine HC.out.mono ?_
    rintro e W1 ⟨rfl, he1⟩
    have HBR := Lib.hid (b1.ex he1)
    have cr := HBR.out.cell 0
    have fr := HBR.out.free 0
    have HE1 := Lib.hid (e0.trans he1)
    clear b0 b1 e0 he1
    go_wp2_with fail
    have H4 := HBR.out.put1 (v := .slice none 0 0)
    have c4 := H4.cell 0
    have hE := HE1.out.setCell (p := ⟨w.heap.size + 1, 0, none⟩) (by show w.heap.size ≤ w.heap.size + 1; omega) (.slice none 0 0)
    exact bodyPost_ret (v := .tuple #[.agg #[.slice none 0 0], .int .i64 1]) (by simp [results, Try.results19, go_sem, c4]) rfl ⟨none, 0, by rw [HQ.out.1, HQ.out.2]; rfl, hE, by rw [HQ.out.1]; exact OwnT.nil _ _ _ (Nat.le_refl _)⟩
  | true =>
    rw [hg] at HC
    have hgr := grpB_iff.1 hg
    have hn8 := hgr.n8
    have hn1 := hgr.n1
    have HNU := Lib.hid (fun W (he : Ex ((w.alloc (.cells #[.slice B0 t0.length d0] 29)).alloc (.cells #[.slice none 0 0] 29)) W) => l01Numbers_any B1 t1 d1 t0.length W (hX.ex (e0.trans he)) hu hn1 hn8)
    cases hr : renB t0.length t1 with
    | false =>
      rw [hr] at HNU
      have HQ := Lib.hid (rn_out hg hr)
      clear hg hr hgr hR hX hs hu
      go_enter Try.func19, Try.ntmps19
      go_wp2_with fail
      generalize ((w.alloc (.cells #[.slice B0 t0.length d0] 29)).alloc (.cells #[.slice none 0 0] 29)) = W0 at *
      refine HC.out.mono ?_
      rintro e W1 ⟨rfl, he1⟩
      have c1 := (b0.ex he1).cell 0
      have HE01 := Lib.hid he1
      have HB1 := Lib.hid (b1.ex he1)
      have HE0 := Lib.hid e0
      clear b0 b1 e0 he1
      go_wp2_with fail
      refine (l01N_ex B0 t0.length d0 W1 (by omega)).mono ?_
      rintro e W2 ⟨rfl, he2⟩
      have HE02 := Lib.hid (HE01.out.trans he2)
      have HB2 := Lib.hid (HB1.out.ex he2)
      clear c1 he2
      go_wp2_with fail
      refine (HNU.out W2 HE02.out).mono ?_
      rintro e W3 ⟨rfl, he3⟩
      have HBR := Lib.hid (HB2.out.ex he3)
      have cr := HBR.out.cell 0
      have fr := HBR.out.free 0
      have HE3 := Lib.hid (HE0.out.trans (HE02.out.trans he3))
      clear he3
      go_wp2_with fail
      have H4 := HBR.out.put1 (v := .slice none 0 0)
      have c4 := H4.cell 0
      have hE := HE3.out.setCell (p := ⟨w.heap.size + 1, 0, none⟩) (by show w.heap.size ≤ w.heap.size + 1; omega) (.slice none 0 0)
      exact bodyPost_ret (v := .tuple #[.agg #[.slice none 0 0], .int .i64 2]) (by simp [results, Try.results19, go_sem, c4]) rfl ⟨none, 0, by rw [HQ.out.1, HQ.out.2]; rfl, hE, by rw [HQ.out.1]; exact OwnT.nil _ _ _ (Nat.le_refl _)⟩
    | true =>
      rw [hr] at HNU
      have HQ := Lib.hid (rn_yes hg hr)
      have HRE := Lib.hid (fun W (he : Ex ((w.alloc (.cells #[.slice B0 t0.length d0] 29)).alloc (.cells #[.slice none 0 0] 29)) W) => l01Renumbered_any B0 B1 t0 t1 d0 d1 W (hR.ex (e0.trans he)) (hX.ex (e0.trans he)) hgr (renB_iff.1 hr))
      clear hg hr hgr hR hX hs hu
      go_enter Try.func19, Try.ntmps19
      go_wp2_with fail
      generalize ((w.alloc (.cells #[.slice B0 t0.length d0] 29)).alloc (.cells #[.slice none 0 0] 29)) = W0 at *
      refine HC.out.mono ?_
      rintro e W1 ⟨rfl, he1⟩
      have c1 := (b0.ex he1).cell 0
      have HE01 := Lib.hid he1
      have HB1 := Lib.hid (b1.ex he1)
      have HB0 := Lib.hid (b0.ex he1)
      have HE0 := Lib.hid e0
      clear b0 b1 e0 he1
      go_wp2_with fail
      refine (l01N_ex B0 t0.length d0 W1 (by omega)).mono ?_
      rintro e W2 ⟨rfl, he2⟩
      have HE02 := Lib.hid (HE01.out.trans he2)
      have HB2 := Lib.hid (HB1.out.ex he2)
      have HB02 := Lib.hid (HB0.out.ex he2)
      clear c1 he2
      go_wp2_with fail
      refine (HNU.out W2 HE02.out).mono ?_
      rintro e W3 ⟨rfl, he3⟩
      have HE03 := Lib.hid (HE02.out.trans he3)
      have HB3 := Lib.hid (HB2.out.ex he3)
      have c3 := (HB02.out.ex he3).cell 0
      clear he3
      go_wp2_with fail
      refine (HRE.out W3 HE03.out).mono ?_
      rintro e W4 ⟨C, k, rfl, he4, hG⟩
      have HBR := Lib.hid (HB3.out.ex he4)
      have cr := HBR.out.cell 0
      have fr := HBR.out.free 0
      have HE4 := Lib.hid (HE0.out.trans (HE03.out.trans he4))
      have HG := Lib.hid (hG.set HBR.out (by decide) (by decide) 0 (.slice C t0.length k))
      have hlw : w.heap.size ≤ W3.heap.size := (HE0.out.trans HE03.out).size
      clear he4 hG c3
      go_wp2_with fail
      have H4 := HBR.out.put1 (v := .slice C t0.length k)
      have c4 := H4.cell 0
      have hE := HE4.out.setCell (p := ⟨w.heap.size + 1, 0, none⟩) (by show w.heap.size ≤ w.heap.size + 1; omega) (.slice C t0.length k)
      obtain ⟨C', k', e', hO⟩ := HG.out.own
      simp only [Value.slice.injEq] at e'
      obtain ⟨rfl, _, rfl⟩ := e'
      exact bodyPost_ret (v := .tuple #[.agg #[.slice C t0.length k], .int .i64 0]) (by simp [results, Try.results19, go_sem, c4]) rfl ⟨C, k, by rw [HQ.out.1, HQ.out.2, renT, mkT_len], hE, by rw [HQ.out.1]; exact hO.mono hlw (Nat.le_refl _) (Nat.le_refl _)⟩

end Go.Proofs.Ytenenlpfpkdplaa
