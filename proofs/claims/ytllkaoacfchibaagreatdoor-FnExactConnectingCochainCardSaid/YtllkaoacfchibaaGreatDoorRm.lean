/- ReduceModule: both contracts. -/
import Derived.Test.YtllkaoacfchibaaGreatDoorWa
import Derived.Test.YtllkaoacfchibaaGreatDoorMw
import Derived.Test.YtllkaoacfchibaaGreatDoorMnm
namespace Go.Proofs.YtllkaoacfchibaaGreatDoor
open Go.RowKit

/-- May a module with m be reduced to k? -/
def redB (m k : Int) : Bool := decide (2 ≤ k) && (m.toNat % k.toNat == 0)
noncomputable def qReduceModule0 (t : List (List Int)) (m : Int) (us : List Int) (k : Int) : Int := if gmB t m us = true ∧ redB m k = true then k else 0
noncomputable def yReduceModule0 (t : List (List Int)) (m : Int) (us : List Int) (k : Int) : List Int := if gmB t m us = true ∧ redB m k = true then (List.range us.length).map fun i => ((im us i % k.toNat : Nat) : Int) else []
noncomputable def qReduceModule1 (t : List (List Int)) (m : Int) (us : List Int) (k : Int) : Int := if gmB t m us = true then (if redB m k = true then 0 else 2) else 1

theorem redB_yes {M K : Nat} (h2 : 2 ≤ K) (h : M % K = 0) : redB (M : Int) (K : Int) = true := by simp [redB, h]; omega
theorem redB_mod {M K : Nat} (h : ¬ M % K = 0) : redB (M : Int) (K : Int) = false := by simp [redB, h]
theorem redB_low {M : Nat} {k : Int} (h : k < 2) : redB (M : Int) k = false := by simp [redB]; omega
theorem mod_high {M K : Nat} (hM : 0 < M) (h : M < K) : ¬ M % K = 0 := by rw [Nat.mod_eq_of_lt h]; omega
section
variable {t : List (List Int)} {m k : Int} {us : List Int}
theorem red_none (h : gmB t m us = false) : qReduceModule0 t m us k = 0 ∧ yReduceModule0 t m us k = [] ∧ qReduceModule1 t m us k = 1 := by simp [qReduceModule0, yReduceModule0, qReduceModule1, h]
theorem red_no (h : gmB t m us = true) (hr : redB m k = false) : qReduceModule0 t m us k = 0 ∧ yReduceModule0 t m us k = [] ∧ qReduceModule1 t m us k = 2 := by simp [qReduceModule0, yReduceModule0, qReduceModule1, h, hr]
theorem red_yes {K : Nat} (h : gmB t m us = true) (hr : redB m (K : Int) = true) : qReduceModule0 t m us (K : Int) = (K : Int) ∧ yReduceModule0 t m us (K : Int) = (List.range us.length).map (fun i => ((im us i % K : Nat) : Int)) ∧ qReduceModule1 t m us (K : Int) = 0 := by simp [qReduceModule0, yReduceModule0, qReduceModule1, h, hr]
theorem reduceModule_small0 (t : List (List Int)) (m : Int) (us : List Int) (k : Int) : (yReduceModule0 t m us k).length ≤ 1048576 := by
  unfold yReduceModule0
  split
  · rename_i h
    obtain ⟨M, _, hF⟩ := gmB_f h.1
    have := hF.len
    have := hF.g.n8
    simp
    omega
  · simp
end

set_option maxRecDepth 100000 in
set_option maxHeartbeats 1000000 in
theorem reduceUnit_ex (x K b o l c Ba Bk : Nat) (us : List Int) (w : World) (ha : w.cell? ⟨Ba, 1, none⟩ = some (.slice (some ⟨b, o, none⟩) l c)) (hk : w.cell? ⟨Bk, 0, none⟩ = some (.int .i64 (K : Int))) (hx : x < l) (hc : w.cell? ⟨b, o + x, none⟩ = some (.int .i64 (im us x : Int))) (_ : im us x ≤ 12) (hK : 0 < K) (_ : l ≤ 8) :
    Calls Tryz.prog 183 #[.int .i64 (x : Int), .pointer (some ⟨Ba, 0, none⟩), .pointer (some ⟨Bk, 0, none⟩)] w fun e w' => e = .returned (.int .i64 ((im us x % K : Nat) : Int)) ∧ Ex w w' := by
  have ht := tmod_nat (im us x) K
  have hne : ((K : Int) != 0) = true := by simp; omega
  have hm : im us x % K < K := Nat.mod_lt _ hK
  have hm2 : im us x % K ≤ im us x := Nat.mod_le _ _
  obtain ⟨z, hz⟩ : ∃ z, im us x % K = z := ⟨_, rfl⟩
  have HZ := Lib.hid hz
  rw [hz] at ht hm hm2
  clear hz
  generalize im us x = u at *
  go_enter Tryz.func183, Tryz.ntmps183
  go_wp2_with fail
  go_quiet (fail)
  go_wp2_with fail
  go_ret
  exact ⟨by rw [HZ.out]; rfl, Ex.drewN (Ex.refl w) _⟩

set_option maxRecDepth 100000 in
set_option maxHeartbeats 2000000 in
theorem reducedModule_any (B0 B1 : Option Addr) (N : Nat) (m : Int) (us : List Int) (K d0 d1 : Nat) (w : World) (hX : IntsW w B1 us) (hl : us.length = N) (hN : N ≤ 8) (hpos : 0 < N) (hu : InR 12 us) (hK : 0 < K) (_ : K ≤ 12) :
    Calls Tryz.prog 119 #[.agg #[.slice B0 N d0], .agg #[.int .i64 m, .slice B1 us.length d1], .int .i64 (K : Int)] w fun e w' => ∃ A' n', e = .returned (.agg #[.int .i64 (K : Int), .slice A' N n']) ∧ Ex w w' ∧ OwnL w' w.heap.size w'.heap.size A' (rdL us K) := by
  have e0 : Ex w ((((w.alloc (.cells #[.slice B0 N d0] 36)).alloc (.cells #[.int .i64 m, .slice B1 us.length d1] 38)).alloc (.cells #[.int .i64 (K : Int)] 2)).alloc (.cells #[.int .i64 0, .slice none 0 0] 38)) := ((((Ex.refl w).alloc _).alloc _).alloc _).alloc _
  have b0 : Has ((((w.alloc (.cells #[.slice B0 N d0] 36)).alloc (.cells #[.int .i64 m, .slice B1 us.length d1] 38)).alloc (.cells #[.int .i64 (K : Int)] 2)).alloc (.cells #[.int .i64 0, .slice none 0 0] 38)) (w.heap.size) 36 #[.slice B0 N d0] := ((((Has.newAt (w := w) (e := 36) (cs := #[.slice B0 N d0]) (k := w.heap.size) (by simp)).alloc _).alloc _).alloc _)
  have b1 : Has ((((w.alloc (.cells #[.slice B0 N d0] 36)).alloc (.cells #[.int .i64 m, .slice B1 us.length d1] 38)).alloc (.cells #[.int .i64 (K : Int)] 2)).alloc (.cells #[.int .i64 0, .slice none 0 0] 38)) (w.heap.size + 1) 38 #[.int .i64 m, .slice B1 us.length d1] := (((Has.newAt (w := (w.alloc (.cells #[.slice B0 N d0] 36))) (e := 38) (cs := #[.int .i64 m, .slice B1 us.length d1]) (k := w.heap.size + 1) (by simp)).alloc _).alloc _)
  have b2 : Has ((((w.alloc (.cells #[.slice B0 N d0] 36)).alloc (.cells #[.int .i64 m, .slice B1 us.length d1] 38)).alloc (.cells #[.int .i64 (K : Int)] 2)).alloc (.cells #[.int .i64 0, .slice none 0 0] 38)) (w.heap.size + 1 + 1) 2 #[.int .i64 (K : Int)] := ((Has.newAt (w := ((w.alloc (.cells #[.slice B0 N d0] 36)).alloc (.cells #[.int .i64 m, .slice B1 us.length d1] 38))) (e := 2) (cs := #[.int .i64 (K : Int)]) (k := w.heap.size + 1 + 1) (by simp)).alloc _)
  have b3 : Has ((((w.alloc (.cells #[.slice B0 N d0] 36)).alloc (.cells #[.int .i64 m, .slice B1 us.length d1] 38)).alloc (.cells #[.int .i64 (K : Int)] 2)).alloc (.cells #[.int .i64 0, .slice none 0 0] 38)) (w.heap.size + 1 + 1 + 1) 38 #[.int .i64 0, .slice none 0 0] := (Has.newAt (w := (((w.alloc (.cells #[.slice B0 N d0] 36)).alloc (.cells #[.int .i64 m, .slice B1 us.length d1] 38)).alloc (.cells #[.int .i64 (K : Int)] 2))) (e := 38) (cs := #[.int .i64 0, .slice none 0 0]) (k := w.heap.size + 1 + 1 + 1) (by simp))
  have hmf : ∀ (fn : Fn) (first cap : Array Value) (w : World), (Instr.makeFunc fn first cap).run Tryz.prog w = .ok (.func fn first cap) w := fun _ _ _ _ => rfl
  obtain ⟨bx, ox, rfl, hbx, hcx⟩ : ∃ bx ox, B1 = some ⟨bx, ox, none⟩ ∧ bx < w.heap.size ∧ ∀ k, k < us.length → w.cell? ⟨bx, ox + k, none⟩ = some (.int .i64 (nth us k)) := by
    rcases hX.ints with h | ⟨bx, ox, rfl, h1, h2⟩
    · rw [h] at hl
      simp at hl
      omega
    · exact ⟨bx, ox, rfl, h1, h2⟩
  have HCX := Lib.hid (fun (W0 : World) (hb1 : Has W0 (w.heap.size + 1) 38 #[.int .i64 m, .slice (some ⟨bx, ox, none⟩) us.length d1]) (hb2 : Has W0 (w.heap.size + 1 + 1) 2 #[.int .i64 (K : Int)]) (he : Ex w W0) =>
    moduleWith_any B0 N d0 (K : Int) 183 #[.pointer (some ⟨w.heap.size + 1, 0, none⟩), .pointer (some ⟨w.heap.size + 1 + 1, 0, none⟩)] (fun x => ((im us x % K : Nat) : Int)) W0 hN (enters_of Tryz.func183 (by kernel_rfl) rfl) (fun W' hW' x hx => by
      have hx' : x < us.length := by rw [hl]; exact hx
      have h := hcx x hx'
      have hr := hu x hx'
      refine reduceUnit_ex x K bx ox us.length d1 _ _ us W' ((hb1.ex hW').cell 1) ((hb2.ex hW').cell 0) hx' ?_ (by simp only [im]; have := hr.2; omega) hK (by omega)
      rw [(he.trans hW').below.cell (p := ⟨bx, ox + x, none⟩) hbx, h]
      simp [im, Int.toNat_of_nonneg hr.1]))
  have HRD : Hid (rdL us K = (List.range N).map fun x => ((im us x % K : Nat) : Int)) := Lib.hid (by rw [rdL, hl])
  clear hX hcx hu hl
  go_enter Tryz.func119, Tryz.ntmps119
  go_wp2_with fail
  generalize ((((w.alloc (.cells #[.slice B0 N d0] 36)).alloc (.cells #[.int .i64 m, .slice (some ⟨bx, ox, none⟩) us.length d1] 38)).alloc (.cells #[.int .i64 (K : Int)] 2)).alloc (.cells #[.int .i64 0, .slice none 0 0] 38)) = W0 at *
  have c1 := b2.cell 0
  refine (HCX.out W0 b1 b2 e0).mono ?_
  rintro e W2 ⟨A2, n2, rfl, he2, ho2⟩
  have h2 := b3.ex he2
  have HB2 := Lib.hid h2
  have HE2 := Lib.hid (e0.trans he2)
  have HO2 := Lib.hid ho2
  have c2 := h2.cell 0
  have c2' := h2.cell 1
  have f2 := h2.free 0
  have f2' := h2.free 1
  have hzl := b3.lt
  have hzw := e0.size
  clear h2 ho2 b0 b1 b2 b3 e0 he2 c1
  go_wp2_with fail
  have H4 := HB2.out.put2 (u := .int .i64 (K : Int)) (v := .slice A2 N n2)
  have c4 := H4.cell 0
  have c4' := H4.cell 1
  refine bodyPost_ret (v := .agg #[.int .i64 (K : Int), .slice A2 N n2]) (by simp [results, Tryz.results119, go_sem, c4, c4']) rfl ⟨A2, n2, rfl, (HE2.out.setCell (by show w.heap.size ≤ w.heap.size + 1 + 1 + 1; omega) _).setCell (by show w.heap.size ≤ w.heap.size + 1 + 1 + 1; omega) _, ?_⟩
  rw [HRD.out]
  exact ((HO2.out.above (Only.set _ _ _ _) hzl).above (Only.set _ _ _ _) hzl).mono hzw (by simp) (Nat.le_refl _)

end Go.Proofs.YtllkaoacfchibaaGreatDoor
