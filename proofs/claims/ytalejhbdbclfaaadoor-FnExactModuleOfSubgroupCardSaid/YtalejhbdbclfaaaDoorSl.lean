/- Ranges over sets; their lists. -/
import Derived.Test.YtalejhbdbclfaaaDoorBa
import Derived.Test.YtalejhbdbclfaaaDoorSt
import Derived.OwnWalkIn
namespace Go.Proofs.YtalejhbdbclfaaaDoor
open Go.RowKit Go.Shelf

attribute [local go_sem] Oper.semAt_some

/-- The elements of a set, as numbers. -/
def elI (s : Nat) : List Int := (elN s).map fun a : Nat => (a : Int)
theorem elI_len (s : Nat) : (elI s).length = (elN s).length := by simp [elI]

set_option maxRecDepth 100000 in
set_option maxHeartbeats 1000000 in
theorem all1_in (n : Nat) (hn : 1 ≤ n) (l Bs n₀ s : Nat) (J Jx : List {a : Nat // a ∈ elN s} → World → Prop) (W : World) (hs : s < 256)
    (hY : ∀ pre x W, J pre W → pre.length < 8 → YieldAt Fence.wide (n - 1) Tryd.prog l #[.int .i64 (x.1 : Int)] W fun e W' =>
      (e = .returned (.bool true) ∧ J (pre ++ [x]) W' ∧ Below n₀ W W') ∨ (e = .returned (.bool false) ∧ Jx (pre ++ [x]) W'))
    (hBs : W.cell? ⟨Bs, 0, none⟩ = some (.int .u64 (s : Int))) (hT : TabL W) (hg : 1 < n₀) (h0 : J [] W) :
    CallsIn Fence.wide n Tryd.prog 202 #[.func (.yield l) #[] #[], .pointer (some ⟨Bs, 0, none⟩)] W fun e W' => (∃ v, e = .returned v) ∧
      ((∃ ys, ys.map (fun x => x.1) = elN s ∧ J ys W') ∨ (∃ pre, pre.map (fun x => x.1) <+: elN s ∧ Jx pre W')) := by
  have hlen := elN_len s hs
  refine callsIn_of_wp Tryd.func202 rfl trivial ?_ rfl
  simp only [Tryd.ntmps202, List.size_toArray, List.length_cons, List.length_nil, Nat.reduceAdd, Nat.reduceSub, Array.replicate_succ, Array.replicate_zero, List.push_toArray, List.append_toArray, List.nil_append, List.cons_append]
  gi_wp2_with fail
  gi_loopw [3] (fun i wr => ∃ (t : Nat) (pre : List {a : Nat // a ∈ elN s}), t < 256 ∧ i = .int .u64 (t : Int) ∧ Hid (elN s = pre.map (fun x => x.1) ++ elN t) ∧ J pre wr ∧ Hid (TabL wr)) (fun i _ => (intOf i).toNat)
  case atStart => exact ⟨s, [], hs, rfl, Lib.hid (by simp), h0, Lib.hid hT⟩
  case round =>
    obtain ⟨t, pre, ht, rfl, HEQ, hJs, HT⟩ := hrel
    by_cases hp : 0 < t
    · obtain ⟨h1, h2, h3⟩ := elN_step t ht hp
      have hmem : tzN t ∈ elN s := by rw [HEQ.out, h1]; simp
      have hpl : pre.length < 8 := by
        have h5 := congrArg List.length HEQ.out
        rw [h1] at h5
        simp at h5
        omega
      have hbd := bits_drop t ht hp
      have HEQ2 : Hid (elN s = (pre ++ [(⟨tzN t, hmem⟩ : {a : Nat // a ∈ elN s})]).map (fun x => x.1) ++ elN (dropN t)) := Lib.hid (HEQ.out.trans (by rw [h1]; simp))
      obtain ⟨fn, tmps, assign, body, hy, hR⟩ := hY pre ⟨tzN t, hmem⟩ wr hJs hpl
      have HTZ := Lib.hid (tz_any t wr ht hp HT.out)
      have hd256 : dropN t < 256 := by omega
      have hne : ((t : Int) != 0) = true := by simp; omega
      have HD2 := Lib.hid h2
      clear h1
      generalize dropN t = d at *
      dsimp only at hy
      gi_wp2_with (refine ⟨trivial, ?_⟩; gi_at_call 203; refine (callsIn_wide.2 HTZ.out).mono ?_; rintro e w' ⟨rfl, rfl⟩)
      refine hR.mono ?_
      rintro e W3 (⟨rfl, hJ3, hk3⟩ | ⟨rfl, hJx3⟩)
      · gi_wp2
        go_roundw
        case rel => exact ⟨d, _, hd256, rfl, HEQ2, hJ3, Lib.hid (HT.out.below hk3 hg)⟩
        case measure => simp [intOf]; have := HD2.out; omega
      · gi_wp2
        refine bodyPost_ret (results_none rfl _ _ _) rfl ?_
        exact ⟨⟨_, rfl⟩, .inr ⟨_, ⟨_, HEQ2.out.symm⟩, hJx3⟩⟩
    · obtain rfl : t = 0 := by omega
      gi_wp2
      go_end0
      refine ⟨⟨_, rfl⟩, .inl ⟨pre, ?_, hJs⟩⟩
      exact (HEQ.out.trans (by rw [elN_zero, List.append_nil])).symm

/-- 'for a := range s.all()': all elements in order, or a part of them. -/
theorem all_stops (n : Nat) (hn : 1 ≤ n) (Bs n₀ s : Nat) (w : World) (hs : s < 256) (hBs : Bs < w.heap.size) (hc : w.cell? ⟨Bs, 0, none⟩ = some (.int .u64 (s : Int))) (hT : TabL w) (hg : 1 < n₀) :
    SeqStopsK Fence.wide n Tryd.prog 202 #[.pointer (some ⟨Bs, 0, none⟩)] (fun x : {a : Nat // a ∈ elN s} => #[.int .i64 (x.1 : Int)]) (Below n₀) (fun ys => ys.map (fun x => x.1) = elN s) (fun pre => pre.map (fun x => x.1) <+: elN s) 8 w :=
  fun l J Jx W hW _ _ hY h0 => all1_in n hn l Bs n₀ s J Jx W hs hY ((hW.cell (p := ⟨Bs, 0, none⟩) hBs).trans hc) (hT.below hW hT.lt) hg h0

end Go.Proofs.YtalejhbdbclfaaaDoor
