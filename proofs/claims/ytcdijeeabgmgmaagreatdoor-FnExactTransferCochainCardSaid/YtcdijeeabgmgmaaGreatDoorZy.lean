/- Ic Zc in one text. -/
import Derived.Test.YtcdijeeabgmgmaaGreatDoorFif
/- IsCochain: both contracts. -/
namespace Go.Proofs.YtcdijeeabgmgmaaGreatDoor
open Go.RowKit

/-- The code where no cochain is asked for. -/
theorem coC_nil (t : List (List Int)) (m : Int) (us : List Int) (ns : Nat → Int) (fss : Nat → List Int) : coC t m us 0 ns fss = gmC t m us := by
  simp [coC, gmC, cocsB]
theorem l03Code_none (B0 B1 : Option Addr) (t0 : List (List Int)) (m : Int) (us : List Int) (d0 d1 : Nat) (w : World) (hR : RwsW w B0 t0) (hX : IntsW w B1 us) (hs : SmallT t0) (hu : us.length ≤ 1048576) :
    Calls Tryz.prog 68 #[.agg #[.slice B0 t0.length d0], .agg #[.int .i64 m, .slice B1 us.length d1], .slice none 0 0] w fun e w' => e = .returned (.int .i64 (gmC t0 m us)) ∧ Ex w w' := by
  rw [← coC_nil t0 m us (fun _ => 0) (fun _ => [])]
  exact l03Code_any B0 B1 none t0 m us 0 0 0 _ _ (fun _ => none) (fun _ => 0) d0 d1 w hR hX hs hu (by omega) (fun h => absurd h (by omega))

noncomputable def qIsCochain0 (t : List (List Int)) (m : Int) (us : List Int) (n : Int) (fs : List Int) : Bool := gmB t m us && cocB t.length m n fs
noncomputable def qIsCochain1 (t : List (List Int)) (m : Int) (us : List Int) (_ : Int) (_ : List Int) : Int := gmC t m us

end Go.Proofs.YtcdijeeabgmgmaaGreatDoor

/- ZeroCochain: both contracts. -/
namespace Go.Proofs.YtcdijeeabgmgmaaGreatDoor
open Go.RowKit

theorem OwnL.zeros {w : World} {g n lo : Nat} {e : TypeId} (h : Has w g e (tab n fun _ => .int .i64 0)) (hl : lo ≤ g) : OwnL w lo w.heap.size (some ⟨g, 0, none⟩) (List.replicate n 0) :=
  OwnL.of_has (n := n) (by rw [tab_congr (g := fun _ => .int .i64 0) (fun j hj => by simp [nth, hj])]; exact h) (by simp) hl

set_option maxHeartbeats 1000000 in
theorem l03Zero_any (A : Option Addr) (N c n : Nat) (w : World) (hN : N ≤ 8) (hN1 : 1 ≤ N) (hn : n ≤ 3) :
    Calls Tryz.prog 52 #[.agg #[.slice A N c], .int .i64 (n : Int)] w fun e w' => ∃ A' n', e = .returned (.agg #[.int .i64 (n : Int), .slice A' (List.replicate (cellsN N n) (0 : Int)).length n']) ∧ Ex w w' ∧ OwnL w' w.heap.size w'.heap.size A' (List.replicate (cellsN N n) 0) := by
  have e0 : Ex w ((w.alloc (.cells #[.slice A N c] 32)).alloc (.cells #[.int .i64 0, .slice none 0 0] 34)) := ((Ex.refl w).alloc _).alloc _
  have b0 : Has ((w.alloc (.cells #[.slice A N c] 32)).alloc (.cells #[.int .i64 0, .slice none 0 0] 34)) (w.heap.size) 32 #[.slice A N c] := ((Has.newAt (w := w) (e := 32) (cs := #[.slice A N c]) (k := w.heap.size) (by simp)).alloc _)
  have b1 : Has ((w.alloc (.cells #[.slice A N c] 32)).alloc (.cells #[.int .i64 0, .slice none 0 0] 34)) (w.heap.size + 1) 34 #[.int .i64 0, .slice none 0 0] := (Has.newAt (w := (w.alloc (.cells #[.slice A N c] 32))) (e := 34) (cs := #[.int .i64 0, .slice none 0 0]) (k := w.heap.size + 1) (by simp))
  have hcl := cellsN_le hN (show n ≤ 4 by omega)
  have hcon := l03Cells_any A N c n ((w.alloc (.cells #[.slice A N c] 32)).alloc (.cells #[.int .i64 0, .slice none 0 0] 34)) hN hN1 (by omega)
  obtain ⟨cn, hcn⟩ : ∃ cn, cellsN N n = cn := ⟨_, rfl⟩
  have HCN := Lib.hid hcn
  rw [hcn] at hcon hcl
  have HC := Lib.hid hcon
  clear hcn hcon
  have hmk := makeI cn (by omega)
  go_enter Tryz.func52, Tryz.ntmps52
  go_wp2_with fail
  generalize ((w.alloc (.cells #[.slice A N c] 32)).alloc (.cells #[.int .i64 0, .slice none 0 0] 34)) = W0 at *
  refine HC.out.mono ?_
  rintro e W1 ⟨rfl, he1⟩
  have HB1 := Lib.hid (b1.ex he1)
  have c1 := HB1.out.cell 0
  have c1' := HB1.out.cell 1
  have f1 := HB1.out.free 0
  have f1' := HB1.out.free 1
  have hz1 := (b1.ex he1).lt
  go_wp2_with fail
  have H4 := (HB1.out.put2 (u := .int .i64 (n : Int)) (v := .slice (some ⟨W1.heap.size, 0, none⟩) cn cn)).alloc (.cells (tab cn fun _ => .int .i64 0) 2)
  have c4 := H4.cell 0
  have c4' := H4.cell 1
  refine bodyPost_ret (v := .agg #[.int .i64 (n : Int), .slice (some ⟨W1.heap.size, 0, none⟩) cn cn]) (by simp [results, Tryz.results52, go_sem, c4, c4']) rfl ⟨some ⟨W1.heap.size, 0, none⟩, cn, by rw [HCN.out]; simp, (((e0.trans he1).setCell (by show w.heap.size ≤ w.heap.size + 1; omega) _).setCell (by show w.heap.size ≤ w.heap.size + 1; omega) _).alloc _, ?_⟩
  rw [HCN.out]
  exact OwnL.zeros (e := 2) (Has.newAt (by simp)) (e0.trans he1).size

noncomputable def qZeroCochain0 (t : List (List Int)) (m : Int) (us : List Int) (n : Int) : Int := if gmB t m us = true ∧ inB n 0 3 = true then n else 0
noncomputable def yZeroCochain0 (t : List (List Int)) (m : Int) (us : List Int) (n : Int) : List Int := if gmB t m us = true ∧ inB n 0 3 = true then List.replicate (cellsN t.length n.toNat) 0 else []
noncomputable def qZeroCochain1 (t : List (List Int)) (m : Int) (us : List Int) (n : Int) : Int := if gmB t m us = true then (if inB n 0 3 = true then 0 else 2) else 1
section
variable {t : List (List Int)} {m n : Int} {us : List Int}
theorem zc_none (h : gmB t m us = false) : qZeroCochain0 t m us n = 0 ∧ yZeroCochain0 t m us n = [] ∧ qZeroCochain1 t m us n = 1 := by simp [qZeroCochain0, yZeroCochain0, qZeroCochain1, h]
theorem zc_no (h : gmB t m us = true) (hr : inB n 0 3 = false) : qZeroCochain0 t m us n = 0 ∧ yZeroCochain0 t m us n = [] ∧ qZeroCochain1 t m us n = 2 := by simp [qZeroCochain0, yZeroCochain0, qZeroCochain1, h, hr]
theorem zc_yes {k : Nat} (h : gmB t m us = true) (hr : inB (k : Int) 0 3 = true) : qZeroCochain0 t m us (k : Int) = (k : Int) ∧ yZeroCochain0 t m us (k : Int) = List.replicate (cellsN t.length k) 0 ∧ qZeroCochain1 t m us (k : Int) = 0 := by simp [qZeroCochain0, yZeroCochain0, qZeroCochain1, h, hr]
theorem zeroCochain_small0 (t : List (List Int)) (m : Int) (us : List Int) (n : Int) : (yZeroCochain0 t m us n).length ≤ 1048576 := by
  unfold yZeroCochain0
  split
  · rename_i h
    obtain ⟨M, _, hF⟩ := gmB_f h.1
    have := inB_true h.2
    have := cellsN_le hF.g.n8 (show n.toNat ≤ 4 by omega)
    simp
    omega
  · simp
end

end Go.Proofs.YtcdijeeabgmgmaaGreatDoor
