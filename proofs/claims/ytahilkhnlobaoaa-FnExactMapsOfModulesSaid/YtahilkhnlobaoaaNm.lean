/- NormOf. -/
import Derived.Test.YtahilkhnlobaoaaMc
import Derived.Test.YtahilkhnlobaoaaMn
namespace Go.Proofs.Ytahilkhnlobaoaa
open Go.RowKit

/-- The sum of the first k units. -/
def usum (us : List Int) : Nat → Nat
  | 0 => 0
  | k + 1 => usum us k + im us k
theorem usum_le {us : List Int} {n : Nat} (h : InR n us) : ∀ k, k ≤ us.length → usum us k ≤ n * k
  | 0, _ => Nat.zero_le _
  | k + 1, hk => by
    have h1 := usum_le h k (by omega)
    have h2 := (im_eq h (show k < us.length by omega)).2
    rw [Nat.mul_succ]
    show usum us k + im us k ≤ _
    omega

/-- The norm, and the code. -/
noncomputable def normR (t : List (List Int)) (m : Int) (us : List Int) : Int × Int := if gmB t m us = true then (((usum us us.length % m.toNat : Nat) : Int), 0) else (0, 1)

theorem gmB_true {t : List (List Int)} {m : Int} {us : List Int} (h : gmB t m us = true) : IsGrp t ∧ 2 ≤ m ∧ m ≤ 12 ∧ us.length = t.length ∧ unitsB m us = true ∧ keepPB t (umul m.toNat) us = true := by
  simp only [gmB, Bool.and_eq_true] at h
  exact ⟨grpB_iff.1 h.1, modB_true h.2⟩

theorem usum_step (us : List Int) (k M : Nat) : (usum us k % M + im us k) % M = usum us (k + 1) % M := by
  show _ = (usum us k + im us k) % M
  rw [Nat.mod_add_mod]

/-- A group, a module and a list of it have been laid. -/
structure Laid3 (w W : World) (A L : Option Addr) (n c l c' : Nat) (m : Int) : Prop where
  below : Below w.heap.size w W
  g : Has W w.heap.size 26 #[.slice A n c]
  a : Has W (w.heap.size + 1) 29 #[.int .i64 m, .slice L l c']
  k : Has W (w.heap.size + 1 + 1) 29 #[.int .i64 m, .slice L l c']
theorem Laid3.mk_ (w : World) (A L : Option Addr) (n c l c' : Nat) (m : Int) :
    Laid3 w (((w.alloc (.cells #[.slice A n c] 26)).alloc (.cells #[.int .i64 m, .slice L l c'] 29)).alloc (.cells #[.int .i64 m, .slice L l c'] 29)) A L n c l c' m :=
  ⟨(((Below.refl _ _).alloc (Nat.le_refl _) _).alloc (by simp) _).alloc (by simp; omega) _,
    ((Has.new w 26 #[.slice A n c]).alloc _).alloc _,
    (Has.newAt (w := w.alloc (.cells #[.slice A n c] 26)) (e := 29) (cs := #[.int .i64 m, .slice L l c']) (k := w.heap.size + 1) (by simp)).alloc _,
    Has.newAt (w := (w.alloc (.cells #[.slice A n c] 26)).alloc (.cells #[.int .i64 m, .slice L l c'] 29)) (e := 29) (cs := #[.int .i64 m, .slice L l c']) (k := w.heap.size + 1 + 1) (by simp)⟩

set_option maxRecDepth 100000 in
set_option maxHeartbeats 1000000 in
theorem specNormOf_any (A L : Option Addr) (t : List (List Int)) (m : Int) (us : List Int) (c c' B B' : Nat) (w : World) (hR : Rws w B A t) (hX : Ints w B' L us) (hB : B ≤ w.heap.size) (hB' : B' ≤ w.heap.size)
    (hn : t.length ≤ 1048576) (hl : ∀ i, i < t.length → (row t i).length ≤ 1048576) (hx : us.length ≤ 1048576) :
    Calls Try.prog 66 #[.agg #[.slice A t.length c], .agg #[.int .i64 m, .slice L us.length c']] w fun e w' => e = .returned (.tuple #[.int .i64 (normR t m us).1, .int .i64 (normR t m us).2]) ∧ Below w.heap.size w w' := by
  have hlaid := Laid3.mk_ w A L t.length c us.length c' m
  have hb0 := hlaid.below
  have hz0 := hb0.size
  have hcon := l02Code_any A L t m us c c' (w.heap.size + 1 + 1) B B' _ (hR.below hb0 hB) (hX.below hb0 hB') hlaid.k (by omega) (by omega) hn hl hx
  have HLD := Lib.hid hlaid
  have HX := Lib.hid hX
  clear hl hR hX hlaid
  cases hg : gmB t m us with
  | false =>
    rw [gmC_no hg] at hcon
    have HCON := Lib.hid hcon
    have HP : Hid (normR t m us = (0, 1)) := by
      show normR t m us = _
      rw [normR, hg]
      rfl
    clear hcon hg
    go_enter Try.func66, Try.ntmps66
    go_wp2_with fail
    refine HCON.out.mono ?_
    rintro e W2 ⟨rfl, hb2⟩
    have hbw := hb0.trans (hb2.mono hz0)
    go_wp2_with fail
    go_ret2
    exact ⟨by rw [HP.out]; rfl, hbw⟩
  | true =>
    rw [gmC_yes hg] at hcon
    have HCON := Lib.hid hcon
    obtain ⟨hgr, hm2, hm12, hlen, hun, -⟩ := gmB_true hg
    have hn8 := hgr.n8
    obtain ⟨M, rfl⟩ : ∃ M : Nat, m = (M : Int) := ⟨m.toNat, by omega⟩
    have hin : InR M us := by have := units_inR hun (by omega); simpa using this
    have hsum := usum_le hin
    have HP : Hid (normR t (M : Int) us = (((usum us us.length % M : Nat) : Int), 0)) := by
      show normR t (M : Int) us = _
      rw [normR, if_pos hg, Int.toNat_natCast]
    have HIN := Lib.hid hin
    have HSUM := Lib.hid hsum
    have hus8 : us.length ≤ 8 := by omega
    have hpos : 0 < us.length := by rw [hlen]; exact hgr.n1
    have hX2 := HX.out
    rcases hX2 with hX2 | ⟨bx, ox, rfl, hbx, hcx⟩
    · subst hX2
      exact absurd hpos (by simp)
    have HCX := Lib.hid hcx
    have hM2 : 2 ≤ M := by omega
    have hM12 : M ≤ 12 := by omega
    clear hcon hg hin hsum hcx hlen hun hgr hm2 hm12 HX
    go_enter Try.func66, Try.ntmps66
    go_wp2_with fail
    refine HCON.out.mono ?_
    rintro e W2 ⟨rfl, hb2⟩
    have hbw := hb0.trans (hb2.mono hz0)
    have ha2 := HLD.out.a.below hb2 HLD.out.a.lt
    have HA2 := Lib.hid ha2
    have hc2 : ∀ k, k < us.length → W2.cell? ⟨bx, ox + k, none⟩ = some (.int .i64 (nth us k)) := fun k hk => (hbw.cell (p := ⟨bx, ox + k, none⟩) (by show bx < _; omega)).trans (HCX.out k hk)
    have HC2 := Lib.hid hc2
    clear ha2 hc2 hb2
    go_wp2_with fail
    go_loopw [7, 8] (fun s i wr => ∃ k : Nat, k ≤ us.length ∧ s = .int .i64 ((usum us k % M : Nat) : Int) ∧ i = .int .i64 k ∧ Drawn W2 wr) (fun _ i _ => us.length - (intOf i).toNat)
    case atStart => exact ⟨0, by omega, by simp [usum], rfl, Drawn.refl _⟩
    case round =>
      obtain ⟨k, hk, rfl, rfl, hd⟩ := hrel
      have HD := Lib.hid hd
      have hc1 := (hd.cell ⟨w.heap.size + 1, 0, none⟩).trans (HA2.out.cell 0)
      have hc2 := (hd.cell ⟨w.heap.size + 1, 1, none⟩).trans (HA2.out.cell 1)
      by_cases hlt : k < us.length
      · obtain ⟨ek, rk⟩ := im_eq HIN.out hlt
        have hxk := (hd.cell ⟨bx, ox + k, none⟩).trans (HC2.out k hlt)
        rw [ek] at hxk
        have hst := usum_step us k M
        have hsm : usum us k % M < M := Nat.mod_lt _ (by omega)
        obtain ⟨z, hz⟩ : ∃ z, usum us (k + 1) % M = z := ⟨_, rfl⟩
        rw [hz] at hst
        have HZ := Lib.hid hz
        clear ek hd hz
        generalize usum us k % M = s at *
        generalize im us k = u at *
        have ht : Int.tmod ((s : Int) + (u : Int)) (M : Int) = (z : Int) := by rw [← hst, ← tmod_nat]; simp
        have hne : ((M : Int) != 0) = true := by simp; omega
        clear hst
        go_wp2_with fail
        go_quiet (fail)
        go_wp2_with fail
        go_roundw
        case rel => exact ⟨k + 1, by omega, by rw [HZ.out], by go_num, HD.out.more _⟩
        case measure => simp [intOf]; omega
      · have hkk : k = us.length := by omega
        subst hkk
        clear hd
        go_wp2_with fail
        go_ret2
        exact ⟨by rw [HP.out]; rfl, hbw.trans (HD.out.below _)⟩

/-- A group and a module have been laid. -/
structure Laid2 (w W : World) (A L : Option Addr) (n c l c' : Nat) (m : Int) : Prop where
  below : Below w.heap.size w W
  g : Has W w.heap.size 26 #[.slice A n c]
  a : Has W (w.heap.size + 1) 29 #[.int .i64 m, .slice L l c']
theorem Laid2.mk_ (w : World) (A L : Option Addr) (n c l c' : Nat) (m : Int) :
    Laid2 w ((w.alloc (.cells #[.slice A n c] 26)).alloc (.cells #[.int .i64 m, .slice L l c'] 29)) A L n c l c' m :=
  ⟨((Below.refl _ _).alloc (Nat.le_refl _) _).alloc (by simp) _, (Has.new w 26 #[.slice A n c]).alloc _,
    Has.newAt (w := w.alloc (.cells #[.slice A n c] 26)) (e := 29) (cs := #[.int .i64 m, .slice L l c']) (k := w.heap.size + 1) (by simp)⟩

set_option maxRecDepth 100000 in
set_option maxHeartbeats 1000000 in
theorem implNormOf_any (A L : Option Addr) (t : List (List Int)) (m : Int) (us : List Int) (c c' B B' : Nat) (w : World) (hR : Rws w B A t) (hX : Ints w B' L us) (hB : B ≤ w.heap.size) (hB' : B' ≤ w.heap.size)
    (hn : t.length ≤ 1048576) (hl : ∀ i, i < t.length → (row t i).length ≤ 1048576) (hx : us.length ≤ 1048576) :
    Calls Try.prog 67 #[.agg #[.slice A t.length c], .agg #[.int .i64 m, .slice L us.length c']] w fun e w' => e = .returned (.tuple #[.int .i64 (normR t m us).1, .int .i64 (normR t m us).2]) ∧ Below w.heap.size w w' := by
  have hlaid := Laid2.mk_ w A L t.length c us.length c' m
  have hb0 := hlaid.below
  have hz0 := hb0.size
  have hcon := isModule_any A L t m us c c' B B' _ (hR.below hb0 hB) (hX.below hb0 hB') (by omega) (by omega) hn hl hx
  have HLD := Lib.hid hlaid
  have HX := Lib.hid hX
  clear hl hR hX hlaid
  cases hg : gmB t m us with
  | false =>
    rw [hg] at hcon
    have HCON := Lib.hid hcon
    have HP : Hid (normR t m us = (0, 1)) := by
      show normR t m us = _
      rw [normR, hg]
      rfl
    clear hcon hg
    go_enter Try.func67, Try.ntmps67
    go_wp2_with fail
    refine HCON.out.mono ?_
    rintro e W2 ⟨rfl, hb2⟩
    have hbw := hb0.trans (hb2.mono hz0)
    go_wp2_with fail
    go_ret2
    exact ⟨by rw [HP.out]; rfl, hbw⟩
  | true =>
    rw [hg] at hcon
    have HCON := Lib.hid hcon
    obtain ⟨hgr, hm2, hm12, hlen, hun, -⟩ := gmB_true hg
    have hn8 := hgr.n8
    obtain ⟨M, rfl⟩ : ∃ M : Nat, m = (M : Int) := ⟨m.toNat, by omega⟩
    have hin : InR M us := by have := units_inR hun (by omega); simpa using this
    have hsum := usum_le hin
    have HP : Hid (normR t (M : Int) us = (((usum us us.length % M : Nat) : Int), 0)) := by
      show normR t (M : Int) us = _
      rw [normR, if_pos hg, Int.toNat_natCast]
    have HIN := Lib.hid hin
    have HSUM := Lib.hid hsum
    have hus8 : us.length ≤ 8 := by omega
    have hpos : 0 < us.length := by rw [hlen]; exact hgr.n1
    have hX2 := HX.out
    rcases hX2 with hX2 | ⟨bx, ox, rfl, hbx, hcx⟩
    · subst hX2
      exact absurd hpos (by simp)
    have HCX := Lib.hid hcx
    have hM2 : 2 ≤ M := by omega
    have hM12 : M ≤ 12 := by omega
    clear hcon hg hin hsum hcx hlen hun hgr hm2 hm12 HX
    go_enter Try.func67, Try.ntmps67
    go_wp2_with fail
    refine HCON.out.mono ?_
    rintro e W2 ⟨rfl, hb2⟩
    have hbw := hb0.trans (hb2.mono hz0)
    have ha2 := HLD.out.a.below hb2 HLD.out.a.lt
    have hc2 : ∀ k, k < us.length → W2.cell? ⟨bx, ox + k, none⟩ = some (.int .i64 (nth us k)) := fun k hk => (hbw.cell (p := ⟨bx, ox + k, none⟩) (by show bx < _; omega)).trans (HCX.out k hk)
    have HC2 := Lib.hid hc2
    have hc1 := ha2.cell 0
    have hc1' := ha2.cell 1
    clear ha2 hc2 hb2
    go_wp2_with fail
    go_loop [6, 16] (fun s i => ∃ k : Nat, k ≤ us.length ∧ s = .int .i64 ((usum us k : Nat) : Int) ∧ i = .int .i64 k) (fun _ i => us.length - (intOf i).toNat)
    case atStart => exact ⟨0, by omega, rfl, rfl⟩
    case round =>
      obtain ⟨k, hk, rfl, rfl⟩ := hrel
      have hle : usum us k ≤ 96 := Nat.le_trans (HSUM.out k hk) (Nat.le_trans (Nat.mul_le_mul hM12 (show k ≤ 8 by omega)) (by omega))
      by_cases hlt : k < us.length
      · obtain ⟨ek, rk⟩ := im_eq HIN.out hlt
        have hxk := HC2.out k hlt
        rw [ek] at hxk
        obtain ⟨z, hz⟩ : ∃ z, usum us (k + 1) = z := ⟨_, rfl⟩
        have hst : (usum us k : Int) + (im us k : Int) = (z : Int) := by rw [← hz]; simp [usum]
        have HZ := Lib.hid hz
        clear ek hz
        generalize usum us k = s at *
        generalize im us k = u at *
        go_wp2_with fail
        go_round
        case rel => exact ⟨k + 1, by omega, by rw [HZ.out], by go_num⟩
        case measure => simp [intOf]; omega
      · have hkk : k = us.length := by omega
        subst hkk
        have ht := tmod_nat (usum us us.length) M
        have hne : ((M : Int) != 0) = true := by simp; omega
        have hlm : usum us us.length % M < M := Nat.mod_lt _ (by omega)
        generalize usum us us.length = s at *
        go_wp2_with fail
        go_ret2
        exact ⟨by rw [HP.out]; rfl, hbw⟩

end Go.Proofs.Ytahilkhnlobaoaa
