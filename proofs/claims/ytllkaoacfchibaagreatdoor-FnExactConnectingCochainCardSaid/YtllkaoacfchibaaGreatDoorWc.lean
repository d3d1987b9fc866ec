/- Chapter 8: the sequence of a divisor, by the program: what is no divisor panics behind the door. -/
import Derived.WalkSmall
import Derived.Test.YtllkaoacfchibaaGreatDoorRm
import Derived.Test.YtllkaoacfchibaaGreatDoorVal
namespace Go.Proofs.YtllkaoacfchibaaGreatDoor
open Go.RowKit

/-- The program's error lies as its text lays it. -/
def ErrD (w : World) : Prop := ∃ a : Addr, w.cell? ⟨0, 0, none⟩ = some (.iface 229 (.pointer (some a)))
theorem ErrD.lt {w : World} (h : ErrD w) : 0 < w.heap.size := let ⟨_, h⟩ := h; World.block_lt_of_cell? _ _ h
theorem ErrD.ex {w w' : World} (h : ErrD w) (k : Ex w w') : ErrD w' := by
  obtain ⟨a, ha⟩ := h
  exact ⟨a, (k.below.cell (p := ⟨0, 0, none⟩) (ErrD.lt ⟨a, ha⟩)).trans ha⟩

theorem Has.put7 {w : World} {g : Nat} {e : TypeId} {x0 x1 x2 x3 x4 x5 x6 u0 u1 u2 u3 u4 u5 u6 : Value} (h : Has w g e #[x0, x1, x2, x3, x4, x5, x6]) : Has (((((((w.setCell ⟨g, 0, none⟩ u0).setCell ⟨g, 1, none⟩ u1).setCell ⟨g, 2, none⟩ u2).setCell ⟨g, 3, none⟩ u3).setCell ⟨g, 4, none⟩ u4).setCell ⟨g, 5, none⟩ u5).setCell ⟨g, 6, none⟩ u6) g e #[u0, u1, u2, u3, u4, u5, u6] := by
  simpa using ((((((h.put 0 u0).put 1 u1).put 2 u2).put 3 u3).put 4 u4).put 5 u5).put 6 u6
theorem Ex.put7 {a w : World} {g : Nat} {u0 u1 u2 u3 u4 u5 u6 : Value} (h : Ex a w) (hg : a.heap.size ≤ g) : Ex a (((((((w.setCell ⟨g, 0, none⟩ u0).setCell ⟨g, 1, none⟩ u1).setCell ⟨g, 2, none⟩ u2).setCell ⟨g, 3, none⟩ u3).setCell ⟨g, 4, none⟩ u4).setCell ⟨g, 5, none⟩ u5).setCell ⟨g, 6, none⟩ u6) :=
  ((((((h.setCell (p := ⟨g, 0, none⟩) hg _).setCell (p := ⟨g, 1, none⟩) hg _).setCell (p := ⟨g, 2, none⟩) hg _).setCell (p := ⟨g, 3, none⟩) hg _).setCell (p := ⟨g, 4, none⟩) hg _).setCell (p := ⟨g, 5, none⟩) hg _).setCell (p := ⟨g, 6, none⟩) hg _
theorem OwnL.put7 {w : World} {lo hi g : Nat} {A : Option Addr} {xs : List Int} {u0 u1 u2 u3 u4 u5 u6 : Value} (h : OwnL w lo hi A xs) (hg : g < lo) : OwnL (((((((w.setCell ⟨g, 0, none⟩ u0).setCell ⟨g, 1, none⟩ u1).setCell ⟨g, 2, none⟩ u2).setCell ⟨g, 3, none⟩ u3).setCell ⟨g, 4, none⟩ u4).setCell ⟨g, 5, none⟩ u5).setCell ⟨g, 6, none⟩ u6) lo hi A xs :=
  ((((((h.above (Only.set _ _ _ _) hg).above (Only.set _ _ _ _) hg).above (Only.set _ _ _ _) hg).above (Only.set _ _ _ _) hg).above (Only.set _ _ _ _) hg).above (Only.set _ _ _ _) hg).above (Only.set _ _ _ _) hg
theorem size_put7 {w : World} {g : Nat} {u0 u1 u2 u3 u4 u5 u6 : Value} : (((((((w.setCell ⟨g, 0, none⟩ u0).setCell ⟨g, 1, none⟩ u1).setCell ⟨g, 2, none⟩ u2).setCell ⟨g, 3, none⟩ u3).setCell ⟨g, 4, none⟩ u4).setCell ⟨g, 5, none⟩ u5).setCell ⟨g, 6, none⟩ u6).heap.size = w.heap.size := by simp

/-- The value of a sequence that is made behind W, and its world. -/
def SeqE (A U : Option Addr) (N c c1 M K Q : Nat) (us : List Int) (W : World) (v : Value) (W' : World) : Prop :=
  ∃ A1 n1 A2 n2 mid, v = .agg #[.slice A N c, .int .i64 (K : Int), .slice A1 N n1, .int .i64 (M : Int), .slice U us.length c1, .int .i64 (Q : Int), .slice A2 N n2] ∧ Ex W W' ∧ W.heap.size ≤ mid ∧ mid ≤ W'.heap.size ∧ OwnL W' W.heap.size mid A1 (rdL us K) ∧ OwnL W' mid W'.heap.size A2 (rdL us Q)

set_option maxHeartbeats 1000000 in
theorem otherPart_yes (M K Q : Nat) (w : World) (h : SeqF M K Q) (hM : M ≤ 12) :
    Calls Tryz.prog 118 #[.int .i64 (M : Int), .int .i64 (K : Int)] w fun e w' => e = .returned (.int .i64 (Q : Int)) ∧ Ex w w' := by
  have hk2 := h.k2
  have hlt := h.lt
  have ht := tmod_nat M K
  rw [h.dk] at ht
  have h1 : ¬ (K : Int) < 2 := by omega
  have h2 : ¬ (M : Int) ≤ (K : Int) := by omega
  have hne : ((K : Int) != 0) = true := by simp; omega
  have hne0 : ¬ K = 0 := by omega
  have hbz : ((0 : Int) != 0) = false := by decide
  have hdt : Int.tdiv (M : Int) (K : Int) = (Q : Int) := by rw [Int.tdiv_eq_ediv_of_nonneg (by omega), ← h.div]; rfl
  have hQ : Q ≤ 12 := by have := h.div; rw [← this]; exact Nat.le_trans (Nat.div_le_self _ _) hM
  have hdv : IntKind.i64.wrap ((M : Int) / (K : Int)) = (Q : Int) := by
    rw [show (M : Int) / (K : Int) = (Q : Int) by rw [← h.div]; rfl]
    exact IntWalk.i64_in _ (by omega)
  have hwQ : IntKind.i64.wrap (Q : Int) = (Q : Int) := IntWalk.i64_in _ (by omega)
  clear h
  go_enter Tryz.func118, Tryz.ntmps118
  go_wp2_with fail
  go_ret
  exact ⟨rfl, Ex.refl _⟩

set_option maxHeartbeats 1000000 in
theorem otherPart_no (M : Nat) (k : Int) (w : World) (h : seqB (M : Int) k = false) (_ : M ≤ 12) (hE : ErrD w) :
    Calls Tryz.prog 118 #[.int .i64 (M : Int), .int .i64 k] w fun e w' => (∃ a : Addr, e = .panicked [{ v := .iface 229 (.pointer (some a)), recovered := false }]) ∧ Ex w w' := by
  obtain ⟨a, hv⟩ := hE
  by_cases h1 : k < 2
  · clear h
    go_enter Tryz.func118, Tryz.ntmps118
    go_wp2_with fail
    exact ⟨rfl, ⟨a, rfl⟩, Ex.refl _⟩
  · by_cases h2 : (M : Int) ≤ k
    · clear h
      go_enter Tryz.func118, Tryz.ntmps118
      go_wp2_with fail
      exact ⟨rfl, ⟨a, rfl⟩, Ex.refl _⟩
    · obtain ⟨K, rfl⟩ : ∃ K : Nat, k = (K : Int) := ⟨k.toNat, by omega⟩
      have hz : ¬ M % K = 0 := fun h0 => by
        simp [seqB, h0] at h
        omega
      have ht := tmod_nat M K
      have hne : ((K : Int) != 0) = true := by simp; omega
      have hne0 : ¬ K = 0 := by omega
      have hml : M % K ≤ M := Nat.mod_le _ _
      obtain ⟨z, hz'⟩ : ∃ z, M % K = z := ⟨_, rfl⟩
      rw [hz'] at ht hz hml
      have hbz : ((z : Int) != 0) = true := by simp; omega
      clear h hz'
      go_enter Tryz.func118, Tryz.ntmps118
      go_wp2_with fail
      exact ⟨rfl, ⟨a, rfl⟩, Ex.refl _⟩

set_option maxRecDepth 100000 in
set_option maxHeartbeats 4000000 in
theorem seq1_yes (Ba Bk Bg N c c1 M K Q : Nat) (A U : Option Addr) (us : List Int) (w : World) (hA : Has w Ba 38 #[.int .i64 (M : Int), .slice U us.length c1]) (hB : Has w Bk 2 #[.int .i64 (K : Int)]) (hG : Has w Bg 36 #[.slice A N c])
    (hU : IntsW w U us) (hl : us.length = N) (hN : N ≤ 8) (hpos : 0 < N) (hu : InR 12 us) (h : SeqF M K Q) (hM : M ≤ 12) :
    Calls Tryz.prog 117 #[.pointer (some ⟨Ba, 0, none⟩), .pointer (some ⟨Bk, 0, none⟩), .pointer (some ⟨Bg, 0, none⟩)] w fun e w' => ∃ v, e = .returned v ∧ SeqE A U N c c1 M K Q us w v w' := by
  have e0 : Ex w (w.alloc (.cells #[.slice none 0 0, .int .i64 0, .slice none 0 0, .int .i64 0, .slice none 0 0, .int .i64 0, .slice none 0 0] 75)) := (Ex.refl w).alloc _
  have b3 : Has (w.alloc (.cells #[.slice none 0 0, .int .i64 0, .slice none 0 0, .int .i64 0, .slice none 0 0, .int .i64 0, .slice none 0 0] 75)) (w.heap.size) 75 #[.slice none 0 0, .int .i64 0, .slice none 0 0, .int .i64 0, .slice none 0 0, .int .i64 0, .slice none 0 0] := (Has.newAt (w := w) (e := 75) (cs := #[.slice none 0 0, .int .i64 0, .slice none 0 0, .int .i64 0, .slice none 0 0, .int .i64 0, .slice none 0 0]) (k := w.heap.size) (by simp))
  have hk2 := h.k2
  have hq2 := h.q2
  have hlt := h.lt
  have hQ : Q ≤ 12 := by have := h.div; rw [← this]; exact Nat.le_trans (Nat.div_le_self _ _) hM
  have HOP := Lib.hid (fun W => otherPart_yes M K Q W h hM)
  have HR1 := Lib.hid (fun W (he : Ex w W) => reducedModule_any A U N (M : Int) us K c c1 W (hU.ex he) hl hN hpos hu (by omega) (by omega))
  have HR2 := Lib.hid (fun W (he : Ex w W) => reducedModule_any A U N (M : Int) us Q c c1 W (hU.ex he) hl hN hpos hu (by omega) (by omega))
  have HCF := Lib.hid (fun (W : World) (he : Ex w W) => And.intro ((hG.ex he).cell 0) (And.intro ((hA.ex he).cell 0) (And.intro ((hA.ex he).cell 1) ((hB.ex he).cell 0))))
  have HE0 := Lib.hid e0
  have HB3 := Lib.hid b3
  have k1 := (HCF.out _ e0).2.1
  have k2 := (HCF.out _ e0).2.2.2
  clear hA hB hG hU hl hu h e0 b3
  go_enter Tryz.func117, Tryz.ntmps117
  go_wp2_with fail
  generalize (w.alloc (.cells #[.slice none 0 0, .int .i64 0, .slice none 0 0, .int .i64 0, .slice none 0 0, .int .i64 0, .slice none 0 0] 75)) = W0 at *
  refine (HOP.out W0).mono ?_
  rintro e W1 ⟨rfl, he1⟩
  have HE1 := Lib.hid (HE0.out.trans he1).drew
  have HB31 : Hid (Has W1.drew w.heap.size _ _) := Lib.hid (HB3.out.ex he1.drew)
  have hlt1 := HB31.out.lt
  have hC0 := HCF.out _ HE1.out
  clear he1 k1 k2
  go_wp2_with fail
  refine Late.region (C := fun w' => w'.cell? ⟨Bg, 0, none⟩ = some (.slice A N c) ∧ w'.cell? ⟨Ba, 0, none⟩ = some (.int .i64 (M : Int)) ∧ w'.cell? ⟨Ba, 1, none⟩ = some (.slice U us.length c1) ∧ w'.cell? ⟨Bk, 0, none⟩ = some (.int .i64 (K : Int))) (fun j => decide (j < 11)) (by kernel_rfl) hC0 (fun hC => ?_)
  refine Late.take (i := 0) (oi := _) (v := ?_) rfl (by kernel_rfl) (by kernel_rfl) (by kernel_rfl) (by kernel_rfl) (fun _ _ _ h => h) (Or.inl ⟨by rfl, ?_⟩) hC ?_
  rotate_left
  · (intro w hSw; (try dsimp only at hSw); go_simp; first | done | with_reducible rfl)
  simp only [Act.put]
  refine Late.take (i := 1) (oi := _) (v := ?_) rfl (by kernel_rfl) (by kernel_rfl) (by kernel_rfl) (by kernel_rfl) (fun _ _ _ h => h) (Or.inl ⟨by rfl, ?_⟩) hC ?_
  rotate_left
  · (intro w hSw; (try dsimp only at hSw); go_simp; first | done | with_reducible rfl)
  simp only [Act.put]
  refine Late.take (i := 2) (oi := _) (v := ?_) rfl (by kernel_rfl) (by kernel_rfl) (by kernel_rfl) (by kernel_rfl) (fun _ _ _ h => h) (Or.inl ⟨by rfl, ?_⟩) hC ?_
  rotate_left
  · (intro w hSw; (try dsimp only at hSw); go_simp; first | done | with_reducible rfl)
  simp only [Act.put]
  refine Late.take (i := 3) (oi := _) (v := ?_) rfl (by kernel_rfl) (by kernel_rfl) (by kernel_rfl) (by kernel_rfl) (fun _ _ _ h => h) (Or.inl ⟨by rfl, ?_⟩) hC ?_
  rotate_left
  · (intro w hSw; (try dsimp only at hSw); go_simp; first | done | with_reducible rfl)
  simp only [Act.put]
  refine Late.take (i := 5) (oi := _) (v := ?_) rfl (by kernel_rfl) (by kernel_rfl) (by kernel_rfl) (by kernel_rfl) (fun _ _ _ h => h) (Or.inl ⟨by rfl, ?_⟩) hC ?_
  rotate_left
  · (intro w hSw; (try dsimp only at hSw); go_simp; first | done | with_reducible rfl)
  simp only [Act.put]
  refine Late.take (i := 6) (oi := _) (v := ?_) rfl (by kernel_rfl) (by kernel_rfl) (by kernel_rfl) (by kernel_rfl) (fun _ _ _ h => h) (Or.inl ⟨by rfl, ?_⟩) hC ?_
  rotate_left
  · (intro w hSw; (try dsimp only at hSw); go_simp; first | done | with_reducible rfl)
  simp only [Act.put]
  refine Late.take (i := 7) (oi := _) (v := ?_) rfl (by kernel_rfl) (by kernel_rfl) (by kernel_rfl) (by kernel_rfl) (fun _ _ _ h => h) (Or.inl ⟨by rfl, ?_⟩) hC ?_
  rotate_left
  · (intro w hSw; (try dsimp only at hSw); go_simp; first | done | with_reducible rfl)
  simp only [Act.put]
  refine Late.take (i := 8) (oi := _) (v := ?_) rfl (by kernel_rfl) (by kernel_rfl) (by kernel_rfl) (by kernel_rfl) (fun _ _ _ h => h) (Or.inl ⟨by rfl, ?_⟩) hC ?_
  rotate_left
  · (intro w hSw; (try dsimp only at hSw); go_simp; first | done | with_reducible rfl)
  simp only [Act.put]
  refine Late.one (i := 4) (o := _) (by kernel_rfl) rfl (fun K' hK' => ?_)
  go_simp
  refine (HR1.out _ HE1.out).mono ?_
  rintro e W2 ⟨A1, n1, rfl, he2, ho2⟩
  have HE2 := Lib.hid (HE1.out.trans he2)
  have HB32 := Lib.hid (HB31.out.ex he2)
  have HO2 := Lib.hid ho2
  have hs01 := he2.size
  have hC2 := HCF.out _ HE2.out
  refine hK'.out _ _ (fun _ => hC2) (fun _ => ?_)
  clear hK' K' hC hC0 he2 ho2
  try simp only [Act.put]
  refine Late.one (i := 9) (o := _) (by kernel_rfl) rfl (fun K' hK' => ?_)
  go_simp
  refine (HR2.out _ HE2.out).mono ?_
  rintro e W3 ⟨A2, n2, rfl, he3, ho3⟩
  have HE3 := Lib.hid (HE2.out.trans he3)
  have HB33 := Lib.hid (HB32.out.ex he3)
  have HO3 := Lib.hid ho3
  have HO23 := Lib.hid (HO2.out.ex he3)
  have hs23 := he3.size
  have hC3 := HCF.out _ HE3.out
  refine hK'.out _ _ (fun _ => hC3) (fun _ => ?_)
  clear hK' K' hC2 he3 ho3
  try simp only [Act.put]
  refine Late.one (i := 10) (o := _) (by kernel_rfl) rfl (fun K' hK' => ?_)
  go_simp
  refine hK'.out _ _ (fun _ => hC3) (fun _ => ?_)
  clear hK' K'
  try simp only [Act.put]
  have f0 := HB33.out.free 0
  have d0 := HB33.out.cell 0
  have f1 := HB33.out.free 1
  have d1 := HB33.out.cell 1
  have f2 := HB33.out.free 2
  have d2 := HB33.out.cell 2
  have f3 := HB33.out.free 3
  have d3 := HB33.out.cell 3
  have f4 := HB33.out.free 4
  have d4 := HB33.out.cell 4
  have f5 := HB33.out.free 5
  have d5 := HB33.out.cell 5
  have f6 := HB33.out.free 6
  have d6 := HB33.out.cell 6
  refine Late.one (i := 11) (o := _) (by kernel_rfl) rfl (fun K' hK' => ?_)
  go_simp
  refine hK'.out _ _ (fun h => by cases h) (fun _ => ?_)
  clear hK' K' hC3
  try simp only [Act.put]
  refine Late.done (by kernel_rfl) ?_ _
  go_wp2_with fail
  have H4 := Has.put7 (u0 := .slice A N c) (u1 := .int .i64 (K : Int)) (u2 := .slice A1 N n1) (u3 := .int .i64 (M : Int)) (u4 := .slice U us.length c1) (u5 := .int .i64 (Q : Int)) (u6 := .slice A2 N n2) HB33.out
  have e0 := H4.cell 0
  have e1 := H4.cell 1
  have e2 := H4.cell 2
  have e3 := H4.cell 3
  have e4 := H4.cell 4
  have e5 := H4.cell 5
  have e6 := H4.cell 6
  refine bodyPost_ret (v := .agg #[.slice A N c, .int .i64 (K : Int), .slice A1 N n1, .int .i64 (M : Int), .slice U us.length c1, .int .i64 (Q : Int), .slice A2 N n2]) (by simp [results, Tryz.results117, go_sem, e0, e1, e2, e3, e4, e5, e6]) rfl ⟨_, rfl, A1, n1, A2, n2, W2.heap.size, rfl, HE3.out.put7 (Nat.le_refl _), HE2.out.size, by rw [size_put7]; exact hs23, ?_, ?_⟩
  · exact (HO23.out.put7 hlt1).mono HE1.out.size (Nat.le_refl _) (by rw [size_put7]; exact hs23)
  · rw [size_put7]
    exact HO3.out.put7 (by omega)

set_option maxHeartbeats 1000000 in
theorem seq1_no (Ba Bk Bg N c c1 l M : Nat) (k : Int) (A U : Option Addr) (w : World) (hA : Has w Ba 38 #[.int .i64 (M : Int), .slice U l c1]) (hB : Has w Bk 2 #[.int .i64 k]) (_hG : Has w Bg 36 #[.slice A N c])
    (h : seqB (M : Int) k = false) (hM : M ≤ 12) (hE : ErrD w) :
    Calls Tryz.prog 117 #[.pointer (some ⟨Ba, 0, none⟩), .pointer (some ⟨Bk, 0, none⟩), .pointer (some ⟨Bg, 0, none⟩)] w fun e w' => (∃ a : Addr, e = .panicked [{ v := .iface 229 (.pointer (some a)), recovered := false }]) ∧ Ex w w' := by
  have e0 : Ex w (w.alloc (.cells #[.slice none 0 0, .int .i64 0, .slice none 0 0, .int .i64 0, .slice none 0 0, .int .i64 0, .slice none 0 0] 75)) := (Ex.refl w).alloc _
  have b3 : Has (w.alloc (.cells #[.slice none 0 0, .int .i64 0, .slice none 0 0, .int .i64 0, .slice none 0 0, .int .i64 0, .slice none 0 0] 75)) (w.heap.size) 75 #[.slice none 0 0, .int .i64 0, .slice none 0 0, .int .i64 0, .slice none 0 0, .int .i64 0, .slice none 0 0] := (Has.newAt (w := w) (e := 75) (cs := #[.slice none 0 0, .int .i64 0, .slice none 0 0, .int .i64 0, .slice none 0 0, .int .i64 0, .slice none 0 0]) (k := w.heap.size) (by simp))
  have HOP := Lib.hid (otherPart_no M k _ h hM (hE.ex e0))
  have k1 := (hA.ex e0).cell 0
  have k2 := (hB.ex e0).cell 0
  have HE0 := Lib.hid e0
  clear hA hB h hE b3 e0
  go_enter Tryz.func117, Tryz.ntmps117
  go_wp2_with fail
  refine HOP.out.mono ?_
  rintro e' w' ⟨⟨a, rfl⟩, he⟩
  have HE := Lib.hid (HE0.out.trans he)
  clear he k1 k2
  go_wp2_with fail
  exact ⟨rfl, ⟨a, rfl⟩, HE.out⟩

theorem taS_err (b : Addr) (xT : TypeId) (w : World) : (Instr.typeAssert (.iface 229 (.pointer (some b))) xT 201 true).run Tryz.prog w = .ok (.tuple #[.iface 229 (.pointer (some b)), .bool true]) w := by kernel_rfl
theorem taS_nil (xT : TypeId) (w : World) : (Instr.typeAssert .nilIface xT 201 true).run Tryz.prog w = .ok (.tuple #[.nilIface, .bool false]) w := by kernel_rfl

set_option maxRecDepth 100000 in
set_option maxHeartbeats 1000000 in
theorem catchS_panicking (p : Addr) (x : Int) (b : Addr) (older : List PanicEntry) (w : World) (hc : w.cell? p = some (.int .i64 x)) (hz : w.frozen? p = false) :
    CallsD Tryz.prog 182 #[.pointer (some p)] (.panicking ({ v := .iface 229 (.pointer (some b)), recovered := false } :: older)) w fun e u' w' =>
      e = .returned (.tuple #[]) ∧ u' = .panicking ({ v := .iface 229 (.pointer (some b)), recovered := true } :: older) ∧ w' = w.setCell p (.int .i64 2) := by
  refine callsD_of_wpS Tryz.func182 rfl fun c₀ cs hu => ?_
  apply wpS_seq
  apply wpS_region
  simp [wpOpsS, go_sem, recoverD, hu, Tryz.ntmps182, Exit.thenS, taS_err]
  apply wpS_seq
  apply wpS_region
  simp [wpOpsS, go_sem, Exit.thenS]
  refine wpS_cond (t := true) (by simp [Act.eval]) ?_
  simp only [if_true]
  apply wpS_region
  simp [wpOpsS, go_sem, hc, hz, bodyPostS, results, Tryz.results182]

set_option maxRecDepth 100000 in
set_option maxHeartbeats 1000000 in
theorem catchS_idle (p : Addr) (w : World) :
    CallsD Tryz.prog 182 #[.pointer (some p)] .returning w fun e u' w' => e = .returned (.tuple #[]) ∧ u' = .returning ∧ w' = w := by
  refine callsD_of_wpS Tryz.func182 rfl fun c₀ cs hu => ?_
  apply wpS_seq
  apply wpS_region
  simp [wpOpsS, go_sem, recoverD, hu, Tryz.ntmps182, Exit.thenS, taS_nil]
  apply wpS_seq
  apply wpS_region
  simp [wpOpsS, go_sem, Exit.thenS]
  refine wpS_cond (t := false) (by simp [Act.eval]) ?_
  simp only [Bool.false_eq_true, if_false]
  refine wpS_of_wp (wp_skip ?_)
  cases c₀
  simp_all [bodyPostS, results, Tryz.results182]

set_option maxRecDepth 100000 in
set_option maxHeartbeats 4000000 in
theorem doorS_yes (cap : Array Value) (A U : Option Addr) (N c c1 M K Q : Nat) (us : List Int) (w : World) (hF : ∀ W, Ex w W → Calls Tryz.prog 117 cap W fun e w' => ∃ v, e = .returned v ∧ SeqE A U N c c1 M K Q us W v w') :
    Calls Tryz.prog 116 #[.func (.func 117) #[] cap] w fun e w' => ∃ v, e = .returned (.tuple #[v, .int .i64 0]) ∧ SeqE A U N c c1 M K Q us w v w' := by
  have hmf : ∀ (fn : Fn) (first cap : Array Value) (w : World), (Instr.makeFunc fn first cap).run Tryz.prog w = .ok (.func fn first cap) w := fun _ _ _ _ => rfl
  have e0 : Ex w ((w.alloc (.cells #[.slice none 0 0, .int .i64 0, .slice none 0 0, .int .i64 0, .slice none 0 0, .int .i64 0, .slice none 0 0] 75)).alloc (.cells #[.int .i64 0] 2)) := ((Ex.refl w).alloc _).alloc _
  have b0 : Has ((w.alloc (.cells #[.slice none 0 0, .int .i64 0, .slice none 0 0, .int .i64 0, .slice none 0 0, .int .i64 0, .slice none 0 0] 75)).alloc (.cells #[.int .i64 0] 2)) (w.heap.size) 75 #[.slice none 0 0, .int .i64 0, .slice none 0 0, .int .i64 0, .slice none 0 0, .int .i64 0, .slice none 0 0] := ((Has.newAt (w := w) (e := 75) (cs := #[.slice none 0 0, .int .i64 0, .slice none 0 0, .int .i64 0, .slice none 0 0, .int .i64 0, .slice none 0 0]) (k := w.heap.size) (by simp)).alloc _)
  have b1 : Has ((w.alloc (.cells #[.slice none 0 0, .int .i64 0, .slice none 0 0, .int .i64 0, .slice none 0 0, .int .i64 0, .slice none 0 0] 75)).alloc (.cells #[.int .i64 0] 2)) (w.heap.size + 1) 2 #[.int .i64 0] := (Has.newAt (w := (w.alloc (.cells #[.slice none 0 0, .int .i64 0, .slice none 0 0, .int .i64 0, .slice none 0 0, .int .i64 0, .slice none 0 0] 75))) (e := 2) (cs := #[.int .i64 0]) (k := w.heap.size + 1) (by simp))
  have HF := Lib.hid hF
  have HE0 := Lib.hid e0
  have HB0 := Lib.hid b0
  have HB1 := Lib.hid b1
  clear hF e0 b0 b1
  go_enter_defers Tryz.func116, Tryz.ntmps116
  go_wp2_with fail
  refine (HF.out _ HE0.out).mono ?_
  rintro e w1 ⟨v, rfl, A1, n1, A2, n2, mid, rfl, he1, hm1, hm2, ho1, ho2⟩
  have HE1 := Lib.hid (HE0.out.trans he1)
  have HB01 := Lib.hid (HB0.out.ex he1)
  have HB11 := Lib.hid (HB1.out.ex he1)
  have HO1 := Lib.hid ho1
  have HO2 := Lib.hid ho2
  have hsz := HE0.out.size
  have hb0 := HB0.out.lt
  have hb1 := HB1.out.lt
  have k0 := HB11.out.cell 0
  have k1 := HB11.out.free 0
  have f0 := HB01.out.free 0
  have d0 := HB01.out.cell 0
  have f1 := HB01.out.free 1
  have d1 := HB01.out.cell 1
  have f2 := HB01.out.free 2
  have d2 := HB01.out.cell 2
  have f3 := HB01.out.free 3
  have d3 := HB01.out.cell 3
  have f4 := HB01.out.free 4
  have d4 := HB01.out.cell 4
  have f5 := HB01.out.free 5
  have d5 := HB01.out.cell 5
  have f6 := HB01.out.free 6
  have d6 := HB01.out.cell 6
  have H4 := (Has.put7 (u0 := .slice A N c) (u1 := .int .i64 (K : Int)) (u2 := .slice A1 N n1) (u3 := .int .i64 (M : Int)) (u4 := .slice U us.length c1) (u5 := .int .i64 (Q : Int)) (u6 := .slice A2 N n2) HB01.out).far (p := ⟨w.heap.size + 1, 0, none⟩) (by show w.heap.size ≠ w.heap.size + 1; omega) (.int .i64 0)
  have H5 := Has.put1 (v := .int .i64 0) (show Has _ (w.heap.size + 1) 2 #[.int .i64 0] from ((((((((HB11.out.far (p := ⟨w.heap.size, 0, none⟩) (by show w.heap.size + 1 ≠ w.heap.size; omega) (.slice A N c)).far (p := ⟨w.heap.size, 1, none⟩) (by show w.heap.size + 1 ≠ w.heap.size; omega) (.int .i64 (K : Int))).far (p := ⟨w.heap.size, 2, none⟩) (by show w.heap.size + 1 ≠ w.heap.size; omega) (.slice A1 N n1)).far (p := ⟨w.heap.size, 3, none⟩) (by show w.heap.size + 1 ≠ w.heap.size; omega) (.int .i64 (M : Int))).far (p := ⟨w.heap.size, 4, none⟩) (by show w.heap.size + 1 ≠ w.heap.size; omega) (.slice U us.length c1)).far (p := ⟨w.heap.size, 5, none⟩) (by show w.heap.size + 1 ≠ w.heap.size; omega) (.int .i64 (Q : Int))).far (p := ⟨w.heap.size, 6, none⟩) (by show w.heap.size + 1 ≠ w.heap.size; omega) (.slice A2 N n2))))
  have e0 := H4.cell 0
  have e1 := H4.cell 1
  have e2 := H4.cell 2
  have e3 := H4.cell 3
  have e4 := H4.cell 4
  have e5 := H4.cell 5
  have e6 := H4.cell 6
  have e7 := H5.cell 0
  clear he1 ho1 ho2 HF
  go_wp2_with fail
  refine leaves_cons (f := 182) (args := #[.pointer (some ⟨w.heap.size + 1, 0, none⟩)]) (by simp) (by simp [go_sem]) ?_
  refine (catchS_idle ⟨w.heap.size + 1, 0, none⟩ _).mono ?_
  rintro e u' w'' ⟨rfl, rfl, rfl⟩
  simp [Leaves, settle, results, Tryz.results116, go_sem, e0, e1, e2, e3, e4, e5, e6, e7]
  refine ⟨A1, n1, A2, n2, mid, rfl, (HE1.out.put7 (Nat.le_refl _)).setCell (p := ⟨w.heap.size + 1, 0, none⟩) (by show w.heap.size ≤ w.heap.size + 1; omega) _, by omega, by simpa using hm2, ?_, ?_⟩
  · exact ((HO1.out.put7 (by omega)).above (Only.set _ _ _ _) (by omega)).mono hsz (Nat.le_refl _) (by simpa using hm2)
  · have h := (HO2.out.put7 (u0 := .slice A N c) (u1 := .int .i64 (K : Int)) (u2 := .slice A1 N n1) (u3 := .int .i64 (M : Int)) (u4 := .slice U us.length c1) (u5 := .int .i64 (Q : Int)) (u6 := .slice A2 N n2) (g := w.heap.size) (by omega)).above (Only.set _ (w.heap.size + 1) 0 (.int .i64 0)) (by omega)
    exact h.mono (Nat.le_refl _) (by simp) (by simp)

set_option maxRecDepth 100000 in
set_option maxHeartbeats 1000000 in
theorem doorS_no (cap : Array Value) (w : World) (hF : ∀ W, Ex w W → Calls Tryz.prog 117 cap W fun e w' => (∃ a : Addr, e = .panicked [{ v := .iface 229 (.pointer (some a)), recovered := false }]) ∧ Ex W w') :
    Calls Tryz.prog 116 #[.func (.func 117) #[] cap] w fun e w' => e = .returned (.tuple #[.agg #[.slice none 0 0, .int .i64 0, .slice none 0 0, .int .i64 0, .slice none 0 0, .int .i64 0, .slice none 0 0], .int .i64 2]) ∧ Ex w w' := by
  have hmf : ∀ (fn : Fn) (first cap : Array Value) (w : World), (Instr.makeFunc fn first cap).run Tryz.prog w = .ok (.func fn first cap) w := fun _ _ _ _ => rfl
  have e0 : Ex w ((w.alloc (.cells #[.slice none 0 0, .int .i64 0, .slice none 0 0, .int .i64 0, .slice none 0 0, .int .i64 0, .slice none 0 0] 75)).alloc (.cells #[.int .i64 0] 2)) := ((Ex.refl w).alloc _).alloc _
  have b0 : Has ((w.alloc (.cells #[.slice none 0 0, .int .i64 0, .slice none 0 0, .int .i64 0, .slice none 0 0, .int .i64 0, .slice none 0 0] 75)).alloc (.cells #[.int .i64 0] 2)) (w.heap.size) 75 #[.slice none 0 0, .int .i64 0, .slice none 0 0, .int .i64 0, .slice none 0 0, .int .i64 0, .slice none 0 0] := ((Has.newAt (w := w) (e := 75) (cs := #[.slice none 0 0, .int .i64 0, .slice none 0 0, .int .i64 0, .slice none 0 0, .int .i64 0, .slice none 0 0]) (k := w.heap.size) (by simp)).alloc _)
  have b1 : Has ((w.alloc (.cells #[.slice none 0 0, .int .i64 0, .slice none 0 0, .int .i64 0, .slice none 0 0, .int .i64 0, .slice none 0 0] 75)).alloc (.cells #[.int .i64 0] 2)) (w.heap.size + 1) 2 #[.int .i64 0] := (Has.newAt (w := (w.alloc (.cells #[.slice none 0 0, .int .i64 0, .slice none 0 0, .int .i64 0, .slice none 0 0, .int .i64 0, .slice none 0 0] 75))) (e := 2) (cs := #[.int .i64 0]) (k := w.heap.size + 1) (by simp))
  have HF := Lib.hid hF
  have HE0 := Lib.hid e0
  have HB0 := Lib.hid b0
  have HB1 := Lib.hid b1
  clear hF e0 b0 b1
  go_enter_defers Tryz.func116, Tryz.ntmps116
  go_wp2_with fail
  refine (HF.out _ HE0.out).mono ?_
  rintro e w1 ⟨⟨a, rfl⟩, he1⟩
  have HE1 := Lib.hid (HE0.out.trans he1)
  have H4 := (HB0.out.ex he1).far (p := ⟨w.heap.size + 1, 0, none⟩) (by show w.heap.size ≠ w.heap.size + 1; omega) (.int .i64 2)
  have HB11 := Lib.hid (HB1.out.ex he1)
  have hc9 : (w1.setCell ⟨w.heap.size + 1, 0, none⟩ (.int .i64 2)).cell? ⟨w.heap.size + 1, 0, none⟩ = some (.int .i64 2) := (HB11.out.put1 (v := .int .i64 2)).cell 0
  have e0 := H4.cell 0
  have e1 := H4.cell 1
  have e2 := H4.cell 2
  have e3 := H4.cell 3
  have e4 := H4.cell 4
  have e5 := H4.cell 5
  have e6 := H4.cell 6
  clear he1
  go_wp2_with fail
  refine leaves_cons (f := 182) (args := #[.pointer (some ⟨w.heap.size + 1, 0, none⟩)]) (by simp) (by simp [go_sem]) ?_
  refine (catchS_panicking ⟨w.heap.size + 1, 0, none⟩ 0 a [] _ (HB11.out.cell 0) (HB11.out.free 0)).mono ?_
  rintro e u' w'' ⟨rfl, rfl, rfl⟩
  have hE9 := HE1.out.setCell (p := ⟨w.heap.size + 1, 0, none⟩) (by show w.heap.size ≤ w.heap.size + 1; omega) (.int .i64 2)
  simp [Leaves, settle, results, Tryz.results116, go_sem, hc9, e0, e1, e2, e3, e4, e5, e6]
  exact hE9

/-- What is asked of the end of sequenceOf. -/
def SeqS (t : List (List Int)) (A U : Option Addr) (c c1 : Nat) (m : Int) (us : List Int) (k : Int) (W : World) (e : Ending) (W' : World) : Prop :=
  (∃ M K Q : Nat, m = (M : Int) ∧ k = (K : Int) ∧ ModF t M us ∧ SeqF M K Q ∧ gmB t (M : Int) us = true ∧ sqC t m us k = 0 ∧ ∃ v, e = .returned (.tuple #[v, .int .i64 0]) ∧ SeqE A U t.length c c1 M K Q us W v W')
  ∨ (sqC t m us k ≠ 0 ∧ e = .returned (.tuple #[.agg #[.slice none 0 0, .int .i64 0, .slice none 0 0, .int .i64 0, .slice none 0 0, .int .i64 0, .slice none 0 0], .int .i64 (sqC t m us k)]) ∧ Ex W W')

set_option maxRecDepth 100000 in
set_option maxHeartbeats 4000000 in
theorem sequenceOf_any (A U : Option Addr) (t : List (List Int)) (m : Int) (us : List Int) (k : Int) (c c1 : Nat) (w : World) (hR : RwsW w A t) (hU : IntsW w U us) (hs : SmallT t) (hu : us.length ≤ 1048576) (hE : ErrD w) :
    Calls Tryz.prog 58 #[.agg #[.slice A t.length c], .agg #[.int .i64 m, .slice U us.length c1], .int .i64 k] w (SeqS t A U c c1 m us k w) := by
  have hmf : ∀ (fn : Fn) (first cap : Array Value) (w : World), (Instr.makeFunc fn first cap).run Tryz.prog w = .ok (.func fn first cap) w := fun _ _ _ _ => rfl
  have e0 : Ex w ((((w.alloc (.cells #[.slice A t.length c] 36)).alloc (.cells #[.int .i64 m, .slice U us.length c1] 38)).alloc (.cells #[.int .i64 k] 2)).alloc (.cells #[.slice none 0 0, .int .i64 0, .slice none 0 0, .int .i64 0, .slice none 0 0, .int .i64 0, .slice none 0 0] 75)) := ((((Ex.refl w).alloc _).alloc _).alloc _).alloc _
  have b0 : Has ((((w.alloc (.cells #[.slice A t.length c] 36)).alloc (.cells #[.int .i64 m, .slice U us.length c1] 38)).alloc (.cells #[.int .i64 k] 2)).alloc (.cells #[.slice none 0 0, .int .i64 0, .slice none 0 0, .int .i64 0, .slice none 0 0, .int .i64 0, .slice none 0 0] 75)) (w.heap.size) 36 #[.slice A t.length c] := ((((Has.newAt (w := w) (e := 36) (cs := #[.slice A t.length c]) (k := w.heap.size) (by simp)).alloc _).alloc _).alloc _)
  have b1 : Has ((((w.alloc (.cells #[.slice A t.length c] 36)).alloc (.cells #[.int .i64 m, .slice U us.length c1] 38)).alloc (.cells #[.int .i64 k] 2)).alloc (.cells #[.slice none 0 0, .int .i64 0, .slice none 0 0, .int .i64 0, .slice none 0 0, .int .i64 0, .slice none 0 0] 75)) (w.heap.size + 1) 38 #[.int .i64 m, .slice U us.length c1] := (((Has.newAt (w := (w.alloc (.cells #[.slice A t.length c] 36))) (e := 38) (cs := #[.int .i64 m, .slice U us.length c1]) (k := w.heap.size + 1) (by simp)).alloc _).alloc _)
  have b2 : Has ((((w.alloc (.cells #[.slice A t.length c] 36)).alloc (.cells #[.int .i64 m, .slice U us.length c1] 38)).alloc (.cells #[.int .i64 k] 2)).alloc (.cells #[.slice none 0 0, .int .i64 0, .slice none 0 0, .int .i64 0, .slice none 0 0, .int .i64 0, .slice none 0 0] 75)) (w.heap.size + 1 + 1) 2 #[.int .i64 k] := ((Has.newAt (w := ((w.alloc (.cells #[.slice A t.length c] 36)).alloc (.cells #[.int .i64 m, .slice U us.length c1] 38))) (e := 2) (cs := #[.int .i64 k]) (k := w.heap.size + 1 + 1) (by simp)).alloc _)
  have b3 : Has ((((w.alloc (.cells #[.slice A t.length c] 36)).alloc (.cells #[.int .i64 m, .slice U us.length c1] 38)).alloc (.cells #[.int .i64 k] 2)).alloc (.cells #[.slice none 0 0, .int .i64 0, .slice none 0 0, .int .i64 0, .slice none 0 0, .int .i64 0, .slice none 0 0] 75)) (w.heap.size + 1 + 1 + 1) 75 #[.slice none 0 0, .int .i64 0, .slice none 0 0, .int .i64 0, .slice none 0 0, .int .i64 0, .slice none 0 0] := (Has.newAt (w := (((w.alloc (.cells #[.slice A t.length c] 36)).alloc (.cells #[.int .i64 m, .slice U us.length c1] 38)).alloc (.cells #[.int .i64 k] 2))) (e := 75) (cs := #[.slice none 0 0, .int .i64 0, .slice none 0 0, .int .i64 0, .slice none 0 0, .int .i64 0, .slice none 0 0]) (k := w.heap.size + 1 + 1 + 1) (by simp))
  have HC := Lib.hid (isModule_ex A U t m us c c1 _ (hR.ex e0) (hU.ex e0) hs hu)
  have k0 := b0.cell 0
  have k1 := b1.cell 0
  have k1' := b1.cell 1
  have hlb := b3.lt
  have hlw := e0.size
  cases hg : gmB t m us with
  | false =>
    rw [hg] at HC
    have hq := sqC_no (k := k) hg
    have HQ : Hid (SeqS t A U c c1 m us k w = SeqS t A U c c1 m us k w ∧ sqC t m us k = 1) := Lib.hid ⟨rfl, hq⟩
    clear hg hq hR hU hs hu hE
    go_enter Tryz.func58, Tryz.ntmps58
    go_wp2_with fail
    generalize ((((w.alloc (.cells #[.slice A t.length c] 36)).alloc (.cells #[.int .i64 m, .slice U us.length c1] 38)).alloc (.cells #[.int .i64 k] 2)).alloc (.cells #[.slice none 0 0, .int .i64 0, .slice none 0 0, .int .i64 0, .slice none 0 0, .int .i64 0, .slice none 0 0] 75)) = W0 at *
    refine HC.out.mono ?_
    rintro e W1 ⟨rfl, he1⟩
    have HE1 := Lib.hid (e0.trans he1)
    have HB33 := Lib.hid (b3.ex he1)
    have f0 := HB33.out.free 0
    have d0 := HB33.out.cell 0
    have f1 := HB33.out.free 1
    have d1 := HB33.out.cell 1
    have f2 := HB33.out.free 2
    have d2 := HB33.out.cell 2
    have f3 := HB33.out.free 3
    have d3 := HB33.out.cell 3
    have f4 := HB33.out.free 4
    have d4 := HB33.out.cell 4
    have f5 := HB33.out.free 5
    have d5 := HB33.out.cell 5
    have f6 := HB33.out.free 6
    have d6 := HB33.out.cell 6
    clear b0 b1 b2 b3 e0 he1 k0 k1 k1'
    go_wp2_with fail
    have H4 := Has.put7 (u0 := .slice none 0 0) (u1 := .int .i64 0) (u2 := .slice none 0 0) (u3 := .int .i64 0) (u4 := .slice none 0 0) (u5 := .int .i64 0) (u6 := .slice none 0 0) HB33.out
    have e0 := H4.cell 0
    have e1 := H4.cell 1
    have e2 := H4.cell 2
    have e3 := H4.cell 3
    have e4 := H4.cell 4
    have e5 := H4.cell 5
    have e6 := H4.cell 6
    exact bodyPost_ret (v := .tuple #[.agg #[.slice none 0 0, .int .i64 0, .slice none 0 0, .int .i64 0, .slice none 0 0, .int .i64 0, .slice none 0 0], .int .i64 1]) (by simp [results, Tryz.results58, go_sem, e0, e1, e2, e3, e4, e5, e6]) rfl (.inr ⟨by rw [HQ.out.2]; decide, by rw [HQ.out.2], HE1.out.put7 (by omega)⟩)
  | true =>
    rw [hg] at HC
    obtain ⟨M, rfl, hF⟩ := gmB_f hg
    have hm12 := hF.m12
    have hN8 := hF.g.n8
    have hN1 := hF.g.n1
    cases hsq : seqB (M : Int) k with
    | false =>
      have HQ := Lib.hid (sqC_out hg hsq)
      have HD := Lib.hid (fun W (he : Ex _ W) => doorS_no #[.pointer (some ⟨w.heap.size + 1, 0, none⟩), .pointer (some ⟨w.heap.size + 1 + 1, 0, none⟩), .pointer (some ⟨w.heap.size, 0, none⟩)] W (fun W' he' => seq1_no (w.heap.size + 1) (w.heap.size + 1 + 1) w.heap.size t.length c c1 us.length M k A U W' (b1.ex (he.trans he')) (b2.ex (he.trans he')) (b0.ex (he.trans he')) hsq hm12 (hE.ex (e0.trans (he.trans he')))))
      clear hg hsq hF hR hU hs hu hE
      go_enter Tryz.func58, Tryz.ntmps58
      go_wp2_with fail
      generalize ((((w.alloc (.cells #[.slice A t.length c] 36)).alloc (.cells #[.int .i64 (M : Int), .slice U us.length c1] 38)).alloc (.cells #[.int .i64 k] 2)).alloc (.cells #[.slice none 0 0, .int .i64 0, .slice none 0 0, .int .i64 0, .slice none 0 0, .int .i64 0, .slice none 0 0] 75)) = W0 at *
      refine HC.out.mono ?_
      rintro e W1 ⟨rfl, he1⟩
      have HE1 := Lib.hid (e0.trans he1)
      have HB3 := Lib.hid (b3.ex he1)
      have HD1 := Lib.hid (HD.out W1 he1)
      clear b0 b1 b2 b3 e0 he1 k0 k1 k1' HD
      go_wp2_with fail
      refine HD1.out.mono ?_
      rintro e W2 ⟨rfl, he2⟩
      have HE2 := Lib.hid (HE1.out.trans he2)
      have HB33 := Lib.hid (HB3.out.ex he2)
      have f0 := HB33.out.free 0
      have d0 := HB33.out.cell 0
      have f1 := HB33.out.free 1
      have d1 := HB33.out.cell 1
      have f2 := HB33.out.free 2
      have d2 := HB33.out.cell 2
      have f3 := HB33.out.free 3
      have d3 := HB33.out.cell 3
      have f4 := HB33.out.free 4
      have d4 := HB33.out.cell 4
      have f5 := HB33.out.free 5
      have d5 := HB33.out.cell 5
      have f6 := HB33.out.free 6
      have d6 := HB33.out.cell 6
      clear he2 HD1
      go_wp2_with fail
      have H4 := Has.put7 (u0 := .slice none 0 0) (u1 := .int .i64 0) (u2 := .slice none 0 0) (u3 := .int .i64 0) (u4 := .slice none 0 0) (u5 := .int .i64 0) (u6 := .slice none 0 0) HB33.out
      have e0 := H4.cell 0
      have e1 := H4.cell 1
      have e2 := H4.cell 2
      have e3 := H4.cell 3
      have e4 := H4.cell 4
      have e5 := H4.cell 5
      have e6 := H4.cell 6
      exact bodyPost_ret (v := .tuple #[.agg #[.slice none 0 0, .int .i64 0, .slice none 0 0, .int .i64 0, .slice none 0 0, .int .i64 0, .slice none 0 0], .int .i64 2]) (by simp [results, Tryz.results58, go_sem, e0, e1, e2, e3, e4, e5, e6]) rfl (.inr ⟨by rw [HQ.out]; decide, by rw [HQ.out], HE2.out.put7 (by omega)⟩)
    | true =>
      obtain ⟨K, Q, rfl, hS⟩ := seqB_f hsq
      have HQ : Hid (ModF t M us ∧ SeqF M K Q ∧ gmB t (M : Int) us = true ∧ sqC t (M : Int) us (K : Int) = 0) := Lib.hid ⟨hF, hS, hg, sqC_yes hg hsq⟩
      have HD := Lib.hid (fun W (he : Ex _ W) => doorS_yes #[.pointer (some ⟨w.heap.size + 1, 0, none⟩), .pointer (some ⟨w.heap.size + 1 + 1, 0, none⟩), .pointer (some ⟨w.heap.size, 0, none⟩)] A U t.length c c1 M K Q us W (fun W' he' => seq1_yes (w.heap.size + 1) (w.heap.size + 1 + 1) w.heap.size t.length c c1 M K Q A U us W' (b1.ex (he.trans he')) (b2.ex (he.trans he')) (b0.ex (he.trans he')) (hU.ex (e0.trans (he.trans he'))) hF.len hN8 hN1 (fun i hi => ⟨(hF.rng i hi).1, by have := (hF.rng i hi).2; omega⟩) hS hm12))
      clear hg hsq hF hS hR hU hs hu hE
      go_enter Tryz.func58, Tryz.ntmps58
      go_wp2_with fail
      generalize ((((w.alloc (.cells #[.slice A t.length c] 36)).alloc (.cells #[.int .i64 (M : Int), .slice U us.length c1] 38)).alloc (.cells #[.int .i64 (K : Int)] 2)).alloc (.cells #[.slice none 0 0, .int .i64 0, .slice none 0 0, .int .i64 0, .slice none 0 0, .int .i64 0, .slice none 0 0] 75)) = W0 at *
      refine HC.out.mono ?_
      rintro e W1 ⟨rfl, he1⟩
      have HE1 := Lib.hid (e0.trans he1)
      have HB3 := Lib.hid (b3.ex he1)
      have HD1 := Lib.hid (HD.out W1 he1)
      clear b0 b1 b2 b3 e0 he1 k0 k1 k1' HD
      go_wp2_with fail
      refine HD1.out.mono ?_
      rintro e W2 ⟨v, rfl, A1, n1, A2, n2, mid, rfl, he2, hm1, hm2, ho1, ho2⟩
      have HE2 := Lib.hid (HE1.out.trans he2)
      have HB33 := Lib.hid (HB3.out.ex he2)
      have HO1 := Lib.hid ho1
      have HO2 := Lib.hid ho2
      have hs1 := HE1.out.size
      have hb31 := HB3.out.lt
      have f0 := HB33.out.free 0
      have d0 := HB33.out.cell 0
      have f1 := HB33.out.free 1
      have d1 := HB33.out.cell 1
      have f2 := HB33.out.free 2
      have d2 := HB33.out.cell 2
      have f3 := HB33.out.free 3
      have d3 := HB33.out.cell 3
      have f4 := HB33.out.free 4
      have d4 := HB33.out.cell 4
      have f5 := HB33.out.free 5
      have d5 := HB33.out.cell 5
      have f6 := HB33.out.free 6
      have d6 := HB33.out.cell 6
      clear he2 ho1 ho2 HD1
      go_wp2_with fail
      have H4 := Has.put7 (u0 := .slice A t.length c) (u1 := .int .i64 (K : Int)) (u2 := .slice A1 t.length n1) (u3 := .int .i64 (M : Int)) (u4 := .slice U us.length c1) (u5 := .int .i64 (Q : Int)) (u6 := .slice A2 t.length n2) HB33.out
      have e0 := H4.cell 0
      have e1 := H4.cell 1
      have e2 := H4.cell 2
      have e3 := H4.cell 3
      have e4 := H4.cell 4
      have e5 := H4.cell 5
      have e6 := H4.cell 6
      refine bodyPost_ret (v := .tuple #[.agg #[.slice A t.length c, .int .i64 (K : Int), .slice A1 t.length n1, .int .i64 (M : Int), .slice U us.length c1, .int .i64 (Q : Int), .slice A2 t.length n2], .int .i64 0]) (by simp [results, Tryz.results58, go_sem, e0, e1, e2, e3, e4, e5, e6]) rfl (.inl ⟨M, K, Q, rfl, rfl, HQ.out.1, HQ.out.2.1, HQ.out.2.2.1, HQ.out.2.2.2, _, rfl, A1, n1, A2, n2, mid, rfl, HE2.out.put7 (by omega), by omega, by rw [size_put7]; exact hm2, ?_, ?_⟩)
      · exact (HO1.out.put7 hb31).mono hs1 (Nat.le_refl _) (by rw [size_put7]; exact hm2)
      · rw [size_put7]
        exact HO2.out.put7 (by omega)

end Go.Proofs.YtllkaoacfchibaaGreatDoor
