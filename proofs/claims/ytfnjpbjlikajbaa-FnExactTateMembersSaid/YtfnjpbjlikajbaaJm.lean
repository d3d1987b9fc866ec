/- TateMembers: both contracts. -/
import Derived.Deep.RegionHeld3
import Derived.Deep.RegionWith
import Derived.Test.YtfnjpbjlikajbaaJl
namespace Go.Proofs.Ytfnjpbjlikajbaa
open Go.RowKit

def yTateMembers0 (n m u d : Int) : List Int := if okD n m u d = true then mults (memD n m u d) m.toNat else []
def yTateMembers1 (n m u d : Int) : List Int := if okD n m u d = true then mults (nouD n m u d) m.toNat else []
def qTateMembers2 (n m u d : Int) : Int := if okD n m u d = true then 0 else 2
theorem members_no {n m u d : Int} (h : okD n m u d = false) : yTateMembers0 n m u d = [] ∧ yTateMembers1 n m u d = [] ∧ qTateMembers2 n m u d = 2 := by
  simp [yTateMembers0, yTateMembers1, qTateMembers2, h]
theorem members_yes {n m u d : Int} (h : okD n m u d = true) : yTateMembers0 n m u d = mults (memD n m u d) m.toNat ∧ yTateMembers1 n m u d = mults (nouD n m u d) m.toNat ∧ qTateMembers2 n m u d = 0 := by
  simp [yTateMembers0, yTateMembers1, qTateMembers2, h]
theorem tateMembers_small0 (n m u d : Int) : (yTateMembers0 n m u d).length ≤ 1048576 := by
  cases h : okD n m u d
  · rw [(members_no h).1]; simp
  · rw [(members_yes h).1]
    obtain ⟨hcc, -, -⟩ := okD_iff.1 h
    obtain ⟨-, hm, -⟩ := circB_iff.1 hcc
    have := mults_le _ (tate_bounds hcc (d := d)).1.1 m.toNat
    omega
theorem tateMembers_small1 (n m u d : Int) : (yTateMembers1 n m u d).length ≤ 1048576 := by
  cases h : okD n m u d
  · rw [(members_no h).2.1]; simp
  · rw [(members_yes h).2.1]
    obtain ⟨hcc, -, -⟩ := okD_iff.1 h
    obtain ⟨-, hm, -⟩ := circB_iff.1 hcc
    have := mults_le _ (tate_bounds hcc (d := d)).2.1 m.toNat
    omega

set_option maxRecDepth 100000 in
set_option maxHeartbeats 2000000 in
theorem specTateMembers_ex (m0 m1 m2 m3 : Int) : ∀ (W : World), Calls Try.prog 17 #[.int .i64 m0, .int .i64 m1, .int .i64 m2, .int .i64 m3] W fun e W' => ∃ (C0 : Option Addr) (e0 : Nat) (C1 : Option Addr) (e1 : Nat), e = .returned (.tuple #[.slice C0 (yTateMembers0 m0 m1 m2 m3).length e0, .slice C1 (yTateMembers1 m0 m1 m2 m3).length e1, .int .i64 (qTateMembers2 m0 m1 m2 m3)]) ∧ Ex W W' ∧ OwnL W' W.heap.size W'.heap.size C0 (yTateMembers0 m0 m1 m2 m3) ∧ OwnL W' W.heap.size W'.heap.size C1 (yTateMembers1 m0 m1 m2 m3) := by
  intro w
  have HC := Lib.hid (l09Code_w m0 m1 m2 m3 w)
  cases hc : okD m0 m1 m2 m3 with
  | false =>
    have HQ := Lib.hid (members_no hc)
    rw [codD_no hc] at HC
    clear hc
    go_enter Try.func17, Try.ntmps17
    go_wp2_with fail
    refine HC.out.mono ?_
    rintro e w1 ⟨rfl, rfl⟩
    go_wp2_with fail
    refine bodyPost_ret (v := .tuple #[.slice none 0 0, .slice none 0 0, .int .i64 2]) (by simp [results, Try.results17, go_sem]) rfl ⟨none, 0, none, 0, by rw [HQ.out.1, HQ.out.2.1, HQ.out.2.2]; rfl, Ex.refl _, ?_, ?_⟩
    · rw [HQ.out.1]; exact OwnL.nil _ _ _ (Nat.le_refl _)
    · rw [HQ.out.2.1]; exact OwnL.nil _ _ _ (Nat.le_refl _)
  | true =>
    have HQ := Lib.hid (members_yes hc)
    obtain ⟨hcc, hd0, hd1⟩ := okD_iff.1 hc
    obtain ⟨N, M, U, rfl, rfl, rfl, hn1, hn2, hm1, hm2, hu1, hu2, -, -⟩ := circ_of hcc
    have hmem : memD (N : Int) (M : Int) (U : Int) m3 = M / Nat.gcd M (tA M U N m3) := by simp only [memD, Int.toNat_natCast]
    have hnou : nouD (N : Int) (M : Int) (U : Int) m3 = Nat.gcd M (tB M U N m3) := by simp only [nouD, Int.toNat_natCast]
    have HM := Lib.hid (l09Members_any N M U m3 w hm1 hm2 hu1 hu2 hn2 hd0 hd1)
    rw [← hmem, ← hnou] at HM
    rw [Int.toNat_natCast] at HQ
    obtain ⟨a, ha⟩ : ∃ a, memD (N : Int) (M : Int) (U : Int) m3 = a := ⟨_, rfl⟩
    obtain ⟨b, hb⟩ : ∃ b, nouD (N : Int) (M : Int) (U : Int) m3 = b := ⟨_, rfl⟩
    rw [ha, hb] at HM HQ
    rw [codD_yes hc] at HC
    clear hc hcc ha hb hmem hnou hn1 hn2 hm1 hm2 hu1 hu2 hd0 hd1
    go_enter Try.func17, Try.ntmps17
    go_wp2_with fail
    refine HC.out.mono ?_
    rintro e w1 ⟨rfl, rfl⟩
    go_wp2_with fail
    refine HM.out.mono ?_
    rintro e w2 ⟨A, ca, B, cb, rfl, he, hOA, hOB⟩
    have HOA := Lib.hid hOA
    have HOB := Lib.hid hOB
    clear hOA hOB
    go_wp2_with fail
    refine bodyPost_ret (v := .tuple #[.slice A (mults a M).length ca, .slice B (mults b M).length cb, .int .i64 0]) (by simp [results, Try.results17, go_sem]) rfl ⟨A, ca, B, cb, by rw [HQ.out.1, HQ.out.2.1, HQ.out.2.2], he, ?_, ?_⟩
    · rw [HQ.out.1]; exact HOA.out
    · rw [HQ.out.2.1]; exact HOB.out

set_option maxRecDepth 100000 in
set_option maxHeartbeats 2000000 in
theorem implTateMembers_ex (m0 m1 m2 m3 : Int) : ∀ (W : World), Calls Try.prog 18 #[.int .i64 m0, .int .i64 m1, .int .i64 m2, .int .i64 m3] W fun e W' => ∃ (C0 : Option Addr) (e0 : Nat) (C1 : Option Addr) (e1 : Nat) (mid : Nat), e = .returned (.tuple #[.slice C0 (yTateMembers0 m0 m1 m2 m3).length e0, .slice C1 (yTateMembers1 m0 m1 m2 m3).length e1, .int .i64 (qTateMembers2 m0 m1 m2 m3)]) ∧ Ex W W' ∧ W.heap.size ≤ mid ∧ mid ≤ W'.heap.size ∧ OwnL W' W.heap.size mid C0 (yTateMembers0 m0 m1 m2 m3) ∧ OwnL W' mid W'.heap.size C1 (yTateMembers1 m0 m1 m2 m3) := by
  intro w
  cases hc : okD m0 m1 m2 m3 with
  | false =>
    have HQ := Lib.hid (members_no hc)
    have HC := Lib.hid (tateGroupOf_no m0 m1 m2 m3 w hc)
    clear hc
    go_enter Try.func18, Try.ntmps18
    go_wp2_with fail
    refine HC.out.mono ?_
    rintro e w1 ⟨rfl, he⟩
    go_wp2_with fail
    refine bodyPost_ret (v := .tuple #[.slice none 0 0, .slice none 0 0, .int .i64 2]) (by simp [results, Try.results18, go_sem]) rfl ⟨none, 0, none, 0, w.heap.size, by rw [HQ.out.1, HQ.out.2.1, HQ.out.2.2]; rfl, he.alloc _, Nat.le_refl _, (he.alloc _).size, ?_, ?_⟩
    · rw [HQ.out.1]; exact OwnL.nil _ _ _ (he.alloc _).size
    · rw [HQ.out.2.1]; exact OwnL.nil _ _ _ (Nat.le_refl _)
  | true =>
    have HQ := Lib.hid (members_yes hc)
    have HC := Lib.hid (tateGroupOf_yes m0 m1 m2 m3 w hc)
    obtain ⟨hcc, hd0, hd1⟩ := okD_iff.1 hc
    obtain ⟨hmp, hnl⟩ := tate_bounds hcc (d := m3)
    obtain ⟨-, hmm, -⟩ := circB_iff.1 hcc
    obtain ⟨M, rfl⟩ : ∃ M : Nat, m1 = (M : Int) := ⟨m1.toNat, by omega⟩
    rw [Int.toNat_natCast] at HQ
    obtain ⟨a, ha⟩ : ∃ a, memD m0 (M : Int) m2 m3 = a := ⟨_, rfl⟩
    obtain ⟨b, hb⟩ : ∃ b, nouD m0 (M : Int) m2 m3 = b := ⟨_, rfl⟩
    rw [ha, hb] at HC HQ
    rw [ha] at hmp
    rw [hb] at hnl
    have HA := Lib.hid (fun W => multiplesBelow_big a M W hmp.1 hmp.2 (by omega) (by omega))
    have HB := Lib.hid (fun W => multiplesBelow_big b M W hnl.1 hnl.2 (by omega) (by omega))
    clear hc hcc hd0 hd1 ha hb hmp hnl hmm
    go_enter Try.func18, Try.ntmps18
    go_wp2_with fail
    refine HC.out.mono ?_
    rintro e w1 ⟨rfl, he⟩
    have he1 := he.alloc (.cells #[.int .i64 (M : Int), .int .i64 (a : Int), .int .i64 (b : Int)] 51)
    have hn := Has.new w1 51 #[.int .i64 (M : Int), .int .i64 (a : Int), .int .i64 (b : Int)]
    have HN := Lib.hid hn
    have HE1 := Lib.hid he1
    clear hn he he1
    go_wp2_with fail
    generalize w1.alloc (.cells #[.int .i64 (M : Int), .int .i64 (a : Int), .int .i64 (b : Int)] 51) = W0 at *
    have HK := Lib.hid (fun (W' : World) (hb : Ex W0 W') => And.intro ((HN.out.ex hb).cell 0) (And.intro ((HN.out.ex hb).cell 1) ((HN.out.ex hb).cell 2)))
    go_region_held3 (fun w' : World => w'.cell? ⟨w1.heap.size, 0, none⟩ = some (.int .i64 (M : Int)) ∧ w'.cell? ⟨w1.heap.size, 1, none⟩ = some (.int .i64 (a : Int)) ∧ w'.cell? ⟨w1.heap.size, 2, none⟩ = some (.int .i64 (b : Int)))
      (first | exact HK.out _ (Ex.refl _).drew | exact HK.out _ hx2 | exact HK.out _ hx3)
      (first
        | (go_at_call_of 42 (Value.int IntKind.i64 (a : Int)); refine (HA.out _).mono ?_; rintro e w2 ⟨A, ca, rfl, he2, ho2⟩; have hx2 : Ex W0 w2 := (Ex.refl W0).drew.trans he2; have HO2 := Lib.hid ho2; clear ho2)
        | (go_at_call_of 42 (Value.int IntKind.i64 (b : Int)); refine (HB.out _).mono ?_; rintro e w3 ⟨B, cb, rfl, he3, ho3⟩; have hx3 : Ex W0 w3 := hx2.trans he3; have HO3 := Lib.hid ho3; clear ho3))
    go_wp2_with fail
    have hzw := HE1.out.size
    have hs2 := hx2.size
    have hs3 := Ex.size he3
    refine bodyPost_ret (v := .tuple #[.slice A (mults a M).length ca, .slice B (mults b M).length cb, .int .i64 0]) (by simp [results, Try.results18, go_sem]) rfl ⟨A, ca, B, cb, w2.heap.size, by rw [HQ.out.1, HQ.out.2.1, HQ.out.2.2], HE1.out.trans hx3, by omega, hs3, ?_, ?_⟩
    · rw [HQ.out.1]
      exact ((OwnL.of_own HO2.out).ex he3).mono (by show w.heap.size ≤ W0.heap.size; omega) (Nat.le_refl _) hs3
    · rw [HQ.out.2.1]
      exact OwnL.of_own HO3.out

end Go.Proofs.Ytfnjpbjlikajbaa
