/- The laws' helpers that write marks into what was handed back, and look whether they are still there. -/
import Derived.Test.YtdehalkebneaoaaDoorBase
namespace Go.Proofs.YtdehalkebneaoaaDoor
open Go.RowKit

/-- From w to w' at most the cells of T have turned. -/
structure Upd (T : Nat → Nat → Prop) (w w' : World) : Prop where
  os : w'.os = w.os
  tape : w'.tape = w.tape
  output : w'.output = w.output
  size : w'.heap.size = w.heap.size
  cell : ∀ b o, ¬ T b o → w'.cell? ⟨b, o, none⟩ = w.cell? ⟨b, o, none⟩
  frozen : ∀ b o, w'.frozen? ⟨b, o, none⟩ = w.frozen? ⟨b, o, none⟩
  block : ∀ b, (∀ o, ¬ T b o) → w'.heap[b]? = w.heap[b]?

section
variable {T T' : Nat → Nat → Prop} {w w' w'' : World}
theorem Upd.refl (T : Nat → Nat → Prop) (w : World) : Upd T w w := ⟨rfl, rfl, rfl, rfl, fun _ _ _ => rfl, fun _ _ => rfl, fun _ _ => rfl⟩
theorem Upd.mono (h : Upd T w w') (hT : ∀ b o, T b o → T' b o) : Upd T' w w' :=
  ⟨h.os, h.tape, h.output, h.size, fun b o hn => h.cell b o fun ht => hn (hT b o ht), h.frozen, fun b hn => h.block b fun o ht => hn o (hT b o ht)⟩
theorem Upd.trans (h : Upd T w w') (k : Upd T w' w'') : Upd T w w'' :=
  ⟨k.os.trans h.os, k.tape.trans h.tape, k.output.trans h.output, k.size.trans h.size, fun b o hn => (k.cell b o hn).trans (h.cell b o hn), fun b o => (k.frozen b o).trans (h.frozen b o), fun b hn => (k.block b hn).trans (h.block b hn)⟩
theorem Upd.set {b o : Nat} (w : World) (v : Value) (ht : T b o) : Upd T w (w.setCell ⟨b, o, none⟩ v) :=
  ⟨rfl, rfl, rfl, by simp [World.setCell], fun b' o' hn => World.cell?_setCell_other w _ _ v (fun e => by cases e; exact hn ht), fun _ _ => World.frozen?_setCell _ _ _ _,
    fun b' hn => Below.heap_setCell w _ v b' (fun e => by subst e; exact hn o ht)⟩
theorem Upd.below {B : Nat} (h : Upd T w w') (hB : ∀ b o, T b o → B ≤ b) : Below B w w' :=
  ⟨h.os, h.tape, h.output, by rw [h.size]; exact Nat.le_refl _, fun k hk => h.block k fun o ht => by have := hB k o ht; omega⟩
end

/-- The cells of a row. -/
def Seg (b o n : Nat) : Nat → Nat → Prop := fun b' o' => b' = b ∧ o ≤ o' ∧ o' < o + n

/-- n cells from ⟨b, o⟩ on hold numbers and may be written. -/
def Wr (w : World) (b o n : Nat) : Prop := ∀ j, j < n → (∃ v, w.cell? ⟨b, o + j, none⟩ = some (.int .i64 v)) ∧ w.frozen? ⟨b, o + j, none⟩ = false

/-- .. hold the numbers from k on. -/
def Marked (w : World) (b o n k : Nat) : Prop := ∀ j, j < n → w.cell? ⟨b, o + j, none⟩ = some (.int .i64 ((k + j : Nat) : Int))

set_option maxHeartbeats 400000 in
theorem markInt64S_any (A : Option Addr) (b o n c k : Nat) (w : World) (hA : 0 < n → A = some ⟨b, o, none⟩) (hW : Wr w b o n) (hn : n ≤ 1048576) (hk : k ≤ 8796093022208) :
    Calls Tryd.prog 22 #[.slice A n c, .int .i64 (k : Int)] w fun e w' => e = .returned (.int .i64 ((k + n : Nat) : Int)) ∧ Upd (Seg b o n) w w' ∧ Marked w' b o n k := by
  have HA := Lib.hid hA
  have HW := Lib.hid hW
  clear hA hW
  go_enter Tryd.func22, Tryd.ntmps22
  go_wp2
  go_loopw [1, 5] (fun q i wr => ∃ j : Nat, j ≤ n ∧ i = .int .i64 j ∧ q = .int .i64 ((k + j : Nat) : Int) ∧ Upd (Seg b o j) w wr ∧ Marked wr b o j k) (fun _ i _ => n - (intOf i).toNat)
  case atStart => exact ⟨0, by omega, rfl, rfl, Upd.refl _ _, fun j hj => absurd hj (by omega)⟩
  case round =>
    obtain ⟨j, hj, rfl, rfl, hu, hm⟩ := hrel
    have HM := Lib.hid hm
    clear hm
    by_cases hlt : j < n
    · obtain ⟨⟨v, hv⟩, hf⟩ := HW.out j hlt
      have hcell := (hu.cell b (o + j) (fun h => by have := h.2.2; omega)).trans hv
      have hfree := (hu.frozen b (o + j)).trans hf
      have hA := HA.out (by omega)
      subst hA
      clear hv hf
      go_wp2
      go_roundw
      case rel =>
        refine ⟨j + 1, by omega, by go_num, by go_num, (hu.mono fun b' o' h => ⟨h.1, h.2.1, by have := h.2.2; omega⟩).trans (Upd.set wr _ ⟨rfl, by omega, by omega⟩), fun j' hj' => ?_⟩
        by_cases e : j' = j
        · subst e
          exact World.cell?_setCell_same' _ _ _ (by rw [hcell]; rfl)
        · exact (World.cell?_setCell_other wr ⟨b, o + j, none⟩ ⟨b, o + j', none⟩ _ (fun h => by injection h; omega)).trans (HM.out j' (by omega))
      case measure => simp [intOf]; omega
    · have hjn : j = n := by omega
      subst hjn
      go_wp2
      go_ret
      exact ⟨rfl, hu, HM.out⟩

set_option maxHeartbeats 400000 in
theorem heldInt64S_any (A : Option Addr) (b o n c k : Nat) (w : World) (hA : 0 < n → A = some ⟨b, o, none⟩) (hW : Marked w b o n k) (hn : n ≤ 1048576) (hk : k ≤ 8796093022208) :
    Calls Tryd.prog 23 #[.slice A n c, .int .i64 (k : Int)] w fun e w' => e = .returned (.int .i64 ((k + n : Nat) : Int)) ∧ w = w' := by
  have HA := Lib.hid hA
  have HW := Lib.hid hW
  clear hA hW
  go_enter Tryd.func23, Tryd.ntmps23
  go_wp2
  go_loop [1, 5] (fun q i => ∃ j : Nat, j ≤ n ∧ i = .int .i64 j ∧ q = .int .i64 ((k + j : Nat) : Int)) (fun _ i => n - (intOf i).toNat)
  case atStart => exact ⟨0, by omega, rfl, rfl⟩
  case round =>
    obtain ⟨j, hj, rfl, rfl⟩ := hrel
    by_cases hlt : j < n
    · have hcell := HW.out j hlt
      have hA := HA.out (by omega)
      subst hA
      generalize hq : k + j = kj at *
      have hkj : kj ≤ 8796094070784 := by omega
      have HQ := Lib.hid hq
      have hne : ((kj : Int) != (kj : Int)) = false := by simp
      clear hq
      go_wp2
      go_round
      case rel => exact ⟨j + 1, by omega, by go_num, by have := HQ.out; go_num⟩
      case measure => simp [intOf]; omega
    · have hjn : j = n := by omega
      subst hjn
      go_wp2
      go_ret
      exact ⟨rfl, rfl⟩

/-- The lengths of the first i rows together. -/
def psum (L : Nat → Nat) : Nat → Nat
  | 0 => 0
  | i + 1 => psum L i + L i

theorem psum_le {L : Nat → Nat} {M : Nat} : ∀ n, (∀ i, i < n → L i ≤ M) → psum L n ≤ n * M
  | 0, _ => by simp [psum]
  | n + 1, h => by
    have h1 := psum_le n fun i hi => h i (by omega)
    have h2 := h n (by omega)
    have h3 : (n + 1) * M = n * M + M := Nat.succ_mul n M
    simp only [psum]
    omega
theorem psum_mono {L : Nat → Nat} {i n : Nat} (h : i ≤ n) : psum L i ≤ psum L n := by
  induction h with
  | refl => exact Nat.le_refl _
  | step _ ih => simp only [psum]; omega

/-- n rows whose cells may be written, and lie apart. -/
structure RW (w : World) (b o n : Nat) (R : Nat → Option Addr) (bb oo L C : Nat → Nat) : Prop where
  outer : ∀ i, i < n → w.cell? ⟨b, o + i, none⟩ = some (.slice (R i) (L i) (C i))
  addr : ∀ i, i < n → 0 < L i → R i = some ⟨bb i, oo i, none⟩
  wr : ∀ i, i < n → Wr w (bb i) (oo i) (L i)
  apart : ∀ i, i < n → ∀ i', i' < n → i ≠ i' → ∀ o', ¬ (Seg (bb i) (oo i) (L i) (bb i') o' ∧ Seg (bb i') (oo i') (L i') (bb i') o')
  off : ∀ i, i < n → 0 < L i → bb i ≠ b

/-- The cells of the first i rows. -/
def Segs (bb oo L : Nat → Nat) (n : Nat) : Nat → Nat → Prop := fun b' o' => ∃ i, i < n ∧ Seg (bb i) (oo i) (L i) b' o'

/-- The rows hold the numbers from k on. -/
def MarkedS (w : World) (n : Nat) (bb oo L : Nat → Nat) (k : Nat) : Prop := ∀ i, i < n → Marked w (bb i) (oo i) (L i) (k + psum L i)

set_option maxHeartbeats 400000 in
theorem markInt64SS_any (A : Option Addr) (b o n c k : Nat) (R : Nat → Option Addr) (bb oo L C : Nat → Nat) (w : World) (hA : 0 < n → A = some ⟨b, o, none⟩) (hW : RW w b o n R bb oo L C) (hn : n ≤ 1048576) (hL : ∀ i, i < n → L i ≤ 1048576)
    (hk : k + psum L n ≤ 8796093022208) :
    Calls Tryd.prog 69 #[.slice A n c, .int .i64 (k : Int)] w fun e w' => e = .returned (.int .i64 ((k + psum L n : Nat) : Int)) ∧ Upd (Segs bb oo L n) w w' ∧ MarkedS w' n bb oo L k := by
  have HA := Lib.hid hA
  have HW := Lib.hid hW
  have HL := Lib.hid hL
  have HK := Lib.hid hk
  clear hA hW hL hk
  go_enter Tryd.func69, Tryd.ntmps69
  go_wp2
  go_loopw [1, 5] (fun q i wr => ∃ j : Nat, j ≤ n ∧ i = .int .i64 j ∧ q = .int .i64 ((k + psum L j : Nat) : Int) ∧ Upd (Segs bb oo L j) w wr ∧ MarkedS wr j bb oo L k) (fun _ i _ => n - (intOf i).toNat)
  case atStart => exact ⟨0, by omega, rfl, rfl, Upd.refl _ _, fun j hj => absurd hj (by omega)⟩
  case round =>
    obtain ⟨j, hj, rfl, rfl, hu, hm⟩ := hrel
    have HM := Lib.hid hm
    clear hm
    by_cases hlt : j < n
    · have hoff : ∀ i, i < j → ∀ o', ¬ Seg (bb i) (oo i) (L i) b o' := fun i hi o' h => by
        have hp : 0 < L i := by have := h.2.1; have := h.2.2; omega
        exact HW.out.off i (by omega) hp h.1.symm
      have hcell := (hu.cell b (o + j) (fun ⟨i, hi, h⟩ => hoff i hi _ h)).trans (HW.out.outer j hlt)
      have hwr : Wr wr (bb j) (oo j) (L j) := fun m hm => by
        obtain ⟨⟨v, hv⟩, hf⟩ := HW.out.wr j hlt m hm
        refine ⟨⟨v, (hu.cell _ _ (fun ⟨i, hi, h⟩ => ?_)).trans hv⟩, (hu.frozen _ _).trans hf⟩
        exact HW.out.apart i (by omega) j hlt (by omega) _ ⟨h, rfl, by omega, by omega⟩
      have hA := HA.out (by omega)
      subst hA
      have hps : psum L j ≤ psum L n := psum_mono (by omega)
      have hkk : k + psum L j ≤ 8796093022208 := by have := HK.out; omega
      have HWR := Lib.hid hwr
      have HU := Lib.hid hu
      have HPS := Lib.hid hps
      have HKK := Lib.hid hkk
      clear hoff hwr hu hps hkk
      generalize hq : k + psum L j = kj at *
      have HQ := Lib.hid hq
      clear hq
      go_wp2_with fail
      refine (markInt64S_any (R j) (bb j) (oo j) (L j) (C j) kj wr (HW.out.addr j hlt) HWR.out (HL.out j hlt) HKK.out).mono ?_
      rintro e w1 ⟨rfl, hu1, hm1⟩
      have HU1 := Lib.hid hu1
      have HM1 := Lib.hid hm1
      clear hu1 hm1
      go_wp2
      go_roundw
      case rel =>
        refine ⟨j + 1, by omega, by go_num, by rw [← HQ.out]; simp only [psum]; go_num, (HU.out.mono fun b' o' ⟨i, hi, h⟩ => ⟨i, by omega, h⟩).trans (HU1.out.mono fun b' o' h => ⟨j, by omega, h⟩), fun i hi => ?_⟩
        by_cases e : i = j
        · subst e
          rw [HQ.out]
          exact HM1.out
        · intro m hm
          exact (HU1.out.cell _ _ (fun h => HW.out.apart j hlt i (by omega) (fun e' => e e'.symm) _ ⟨h, rfl, by omega, by omega⟩)).trans (HM.out i (by omega) m hm)
      case measure => simp [intOf]; omega
    · have hjn : j = n := by omega
      subst hjn
      go_wp2
      go_ret
      exact ⟨rfl, hu, HM.out⟩

end Go.Proofs.YtdehalkebneaoaaDoor
