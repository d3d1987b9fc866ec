/- Mn Nm Mf in one text. -/
import Derived.Test.YtcdijeeabgmgmaaGreatDoorMk2
import Derived.Test.YtcdijeeabgmgmaaGreatDoorMdl
import Derived.Test.YtcdijeeabgmgmaaGreatDoorExv
import Derived.Test.YtcdijeeabgmgmaaGreatDoorCel
/- Is it a module? The program, at whatever module value. -/
namespace Go.Proofs.YtcdijeeabgmgmaaGreatDoor
open Go.RowKit

set_option maxRecDepth 100000 in
set_option maxHeartbeats 3000000 in
/-- The program's test where all tests ahead of the products hold. -/
theorem isModuleOn_any (A L : Option Addr) (t : List (List Int)) (M : Nat) (us : List Int) (c c' B B' : Nat) (w : World) (hR : Rws w B A t) (hX : Ints w B' L us) (hB : B ≤ w.heap.size) (hB' : B' ≤ w.heap.size)
    (hn : t.length ≤ 1048576) (hl : ∀ i, i < t.length → (row t i).length ≤ 1048576) (hx : us.length ≤ 1048576) (hbg : grpB t = true) (hbm : (decide (2 ≤ (M : Int)) && decide ((M : Int) ≤ 12)) = true) (hlen : us.length = t.length) (hbu : unitsB (M : Int) us = true) :
    Calls Tryz.prog 122 #[.agg #[.slice A t.length c], .agg #[.int .i64 (M : Int), .slice L us.length c']] w fun e w' => e = .returned (.bool (keepPB t (umul M) us)) ∧ Below w.heap.size w w' := by
  obtain ⟨bk, hbk⟩ : ∃ b, keepPB t (umul M) us = b := ⟨_, rfl⟩
  rw [hbk]
  have HBK := Lib.hid hbk
  clear hbk
  have hrange : 2 ≤ M ∧ M ≤ 12 := by have := hbm; simp at this; omega
  obtain ⟨hM2, hM12⟩ := hrange
  have hmi0 : (0 : Int) ≤ (M : Int) := by omega
  have hmi : (M : Int) ≤ 1048576 := by omega
  have HG := Lib.hid (grpB_iff.1 hbg)
  have HLEN := Lib.hid hlen
  have hq : ((us.length : Int) == (t.length : Int)) = true := by simp [hlen]
  have hin : InR M us := by have := units_inR hbu hmi0; simpa using this
  have HIN := Lib.hid hin
  obtain ⟨bt, ot, bb, oo, C, rfl, hQ0⟩ := hR.sq HG.out.n1 HG.out.sq
  have hpos : 0 < us.length := by rw [hlen]; exact HG.out.n1
  have hX2 := hX
  rcases hX2 with hX2 | ⟨bx, ox, rfl, hbx, hcx⟩
  · subst hX2
    exact absurd hpos (by simp)
  have HQ0 := Lib.hid hQ0
  have HCX := Lib.hid hcx
  have HBGT := Lib.hid hbg
  have HBMT := Lib.hid hbm
  have HBUT := Lib.hid hbu
  clear hQ0 hcx hbg hbm hbu hlen hin hpos
  have hb0 : Below w.heap.size w ((w.alloc (.cells #[.slice (some ⟨bt, ot, none⟩) t.length c] 32)).alloc (.cells #[.int .i64 (M : Int), .slice (some ⟨bx, ox, none⟩) us.length c'] 52)) := ((Below.refl _ _).alloc (Nat.le_refl _) _).alloc (by simp) _
  have h0 := (Has.new w 32 #[.slice (some ⟨bt, ot, none⟩) t.length c]).alloc (.cells #[.int .i64 (M : Int), .slice (some ⟨bx, ox, none⟩) us.length c'] 52)
  have h0' := Has.newAt (w := w.alloc (.cells #[.slice (some ⟨bt, ot, none⟩) t.length c] 32)) (e := 52) (cs := #[.int .i64 (M : Int), .slice (some ⟨bx, ox, none⟩) us.length c']) (k := w.heap.size + 1) (by simp)
  have hz0 := hb0.size
  have hR0 := hR.below hb0 hB
  have hX0 := hX.below hb0 hB'
  have HL := Lib.hid hl
  clear hR hX hl
  go_enter Tryz.func122, Tryz.ntmps122
  go_wp2_with fail
  generalize ((w.alloc (.cells #[.slice (some ⟨bt, ot, none⟩) t.length c] 32)).alloc (.cells #[.int .i64 (M : Int), .slice (some ⟨bx, ox, none⟩) us.length c'] 52)) = W0 at *
  have hS : ∀ W', Below W0.drew.heap.size W0.drew W' → W'.cell? ⟨w.heap.size, 0, none⟩ = some (.slice (some ⟨bt, ot, none⟩) t.length c) ∧ W'.cell? ⟨w.heap.size + 1, 0, none⟩ = some (.int .i64 (M : Int)) ∧ W'.cell? ⟨w.heap.size + 1, 1, none⟩ = some (.slice (some ⟨bx, ox, none⟩) us.length c') := fun W' hb =>
    ⟨(Has.below (w := W0.drew) h0 hb h0.lt).cell 0, (Has.below (w := W0.drew) h0' hb h0'.lt).cell 0, (Has.below (w := W0.drew) h0' hb h0'.lt).cell 1⟩
  have HSK := Lib.hid hS
  have hR0d : Rws W0.drew B (some ⟨bt, ot, none⟩) t := hR0
  have hX0d : Ints W0.drew B' (some ⟨bx, ox, none⟩) us := hX0
  have HR := Lib.hid hR0d
  have HX := Lib.hid hX0d
  have hBd : B ≤ W0.drew.heap.size := show B ≤ W0.heap.size by omega
  have hBd' : B' ≤ W0.drew.heap.size := show B' ≤ W0.heap.size by omega
  have hzd : w.heap.size ≤ W0.drew.heap.size := hz0
  have hbd : Below w.heap.size w W0.drew := hb0.drew
  have HCON := Lib.hid (isGroup_b HBGT.out (some ⟨bt, ot, none⟩) c B W0.drew HR.out hBd hn HL.out)
  have HM := Lib.hid (fun W' => isModulus_b HBMT.out W')
  have HU := Lib.hid (fun W' hI => areUnits_b HBUT.out (some ⟨bx, ox, none⟩) c' B' W' hI hx hmi hmi0)
  have hQd0 := HQ0.out.below hb0 hB
  have hQd : SqT W0.drew B bt ot bb oo C t := hQd0
  have HQ := Lib.hid hQd
  have hcd : ∀ k, k < us.length → W0.drew.cell? ⟨bx, ox + k, none⟩ = some (.int .i64 (nth us k)) := fun k hk => (hb0.cell (p := ⟨bx, ox + k, none⟩) (Nat.lt_of_lt_of_le hbx hB')).trans (HCX.out k hk)
  have HCD := Lib.hid hcd
  have HK := Lib.hid (fun (W4 W3 : World) (A4 : Option Addr) (N4 c4 : Nat) (hb4 : Below W0.drew.heap.size W0.drew W4) (hm4 : Has W4 W3.heap.size 2 #[.int .i64 (M : Int)]) =>
    keeps_b HBK.out (keepsProductsU_any t (umul M) M (.slice A4 N4 c4) (.pointer (some ⟨W3.heap.size, 0, none⟩)) us c c' B bt ot bx ox bb oo C W4 (HQ.out.below hb4 hBd) (fun k hk => (hb4.cell (p := ⟨bx, ox + k, none⟩) (Nat.lt_of_lt_of_le hbx hBd')).trans (HCD.out k hk)) (Nat.le_trans hBd hb4.size) (Nat.lt_of_lt_of_le hbx (Nat.le_trans hBd' hb4.size)) HG.out hM12 HIN.out HLEN.out (fun W' hb x y hx hy => unitProd_any M x y _ W' ((hm4.below hb hm4.lt).cell 0) hM12 hx hy) (fun x y hx _ => umul_lt hx)))
  clear hS hR0 hX0 hR0d hX0d h0 h0' hQd0 hQd hcd
  go_region_held3 (fun w' => w'.cell? ⟨w.heap.size, 0, none⟩ = some (.slice (some ⟨bt, ot, none⟩) t.length c) ∧ w'.cell? ⟨w.heap.size + 1, 0, none⟩ = some (.int .i64 (M : Int)) ∧ w'.cell? ⟨w.heap.size + 1, 1, none⟩ = some (.slice (some ⟨bx, ox, none⟩) us.length c'))
    (first
      | exact HSK.out _ (Below.refl _ _)
      | exact HSK.out _ hb1
      | exact HSK.out _ hb2
      | exact HSK.out _ hb3
      | exact HSK.out _ hb4
      | exact HSK.out _ hb5
      | exact HSK.out _ hb6)
    (first
      | (go_at_call 79; refine HCON.out.mono ?_; rintro e W1 ⟨rfl, hb1⟩)
      | (go_at_call 136; refine (HM.out W1).mono ?_; rintro e W2 ⟨rfl, hb2'⟩; have hb2 := hb1.trans (hb2'.mono hb1.size))
      | (go_at_call 110; refine (groupOrder_b _ t.length c W2 hn).mono ?_; rintro e W3 ⟨rfl, hb3'⟩; have hb3 := hb2.trans (hb3'.mono hb2.size))
      | (go_at_call 144; refine (HU.out W3 (HX.out.below hb3 hBd')).mono ?_; rintro e W4 ⟨rfl, hb4'⟩; have hb4 := hb3.trans (hb4'.mono hb3.size))
      | (go_at_call 146; refine (unitTarget_any M W4 hM2 hM12).mono ?_; rintro e W5 ⟨A5, N5, c5, rfl, hb5', hm5⟩; have hb5 := hb4.trans (hb5'.mono hb4.size))
      | (go_at_call 145; refine (HK.out W5 W4 A5 N5 c5 hb5 hm5).mono ?_; rintro e W6 ⟨rfl, hb6'⟩; have hb6 := hb5.trans (hb6'.mono hb5.size)))
  go_wp2_with fail
  go_ret
  exact ⟨rfl, hbd.trans (hb6.mono hzd)⟩

theorem isModule_any (A L : Option Addr) (t : List (List Int)) (m : Int) (us : List Int) (c c' B B' : Nat) (w : World) (hR : Rws w B A t) (hX : Ints w B' L us) (hB : B ≤ w.heap.size) (hB' : B' ≤ w.heap.size)
    (hn : t.length ≤ 1048576) (hl : ∀ i, i < t.length → (row t i).length ≤ 1048576) (hx : us.length ≤ 1048576) :
    Calls Tryz.prog 122 #[.agg #[.slice A t.length c], .agg #[.int .i64 m, .slice L us.length c']] w fun e w' => e = .returned (.bool (gmB t m us)) ∧ Below w.heap.size w w' := by
  by_cases h : grpB t = true ∧ (decide (2 ≤ m) && decide (m ≤ 12)) = true ∧ us.length = t.length ∧ unitsB m us = true
  · obtain ⟨h1, h2, h3, h4⟩ := h
    obtain ⟨M, rfl⟩ : ∃ M : Nat, m = (M : Int) := ⟨m.toNat, by have := h2; simp at this; omega⟩
    have he : gmB t (M : Int) us = keepPB t (umul M) us := by rw [gm_mod h1, modB_keep h2 h3 h4, Int.toNat_natCast]
    rw [he]
    exact isModuleOn_any A L t M us c c' B B' w hR hX hB hB' hn hl hx h1 h2 h3 h4
  · refine isModuleOff_any A L t m us c c' B B' w hR hX hB hB' hn hl hx fun h1 h2 h3 => ?_
    cases h4 : unitsB m us
    · rfl
    · exact absurd ⟨h1, h2, h3, h4⟩ h

end Go.Proofs.YtcdijeeabgmgmaaGreatDoor

/- NormOf. -/
namespace Go.Proofs.YtcdijeeabgmgmaaGreatDoor
open Go.RowKit

/-- The sum of the first k units. -/
def usum (us : List Int) : Nat → Nat
  | 0 => 0
  | k + 1 => usum us k + im us k
theorem usum_le {us : List Int} {n : Nat} (h : InR n us) : ∀ k, k ≤ us.length → usum us k ≤ n * k
  | 0, _ => Nat.zero_le _
  | k + 1, hk => by
    have h1 := usum_le h k (by omega)
    have h2 := (im_eq h (show k < us.length by omega)).2
    rw [Nat.mul_succ]
    show usum us k + im us k ≤ _
    omega

/-- The norm, and the code. -/
noncomputable def normR (t : List (List Int)) (m : Int) (us : List Int) : Int × Int := if gmB t m us = true then (((usum us us.length % m.toNat : Nat) : Int), 0) else (0, 1)

theorem gmB_true {t : List (List Int)} {m : Int} {us : List Int} (h : gmB t m us = true) : IsGrp t ∧ 2 ≤ m ∧ m ≤ 12 ∧ us.length = t.length ∧ unitsB m us = true ∧ keepPB t (umul m.toNat) us = true := by
  simp only [gmB, Bool.and_eq_true] at h
  exact ⟨grpB_iff.1 h.1, modB_true h.2⟩

theorem usum_step (us : List Int) (k M : Nat) : (usum us k % M + im us k) % M = usum us (k + 1) % M := by
  show _ = (usum us k + im us k) % M
  rw [Nat.mod_add_mod]

/-- A group, a module and a list of it have been laid. -/
structure Laid3 (w W : World) (A L : Option Addr) (n c l c' : Nat) (m : Int) : Prop where
  below : Below w.heap.size w W
  g : Has W w.heap.size 32 #[.slice A n c]
  a : Has W (w.heap.size + 1) 52 #[.int .i64 m, .slice L l c']
  k : Has W (w.heap.size + 1 + 1) 52 #[.int .i64 m, .slice L l c']
theorem Laid3.mk_ (w : World) (A L : Option Addr) (n c l c' : Nat) (m : Int) :
    Laid3 w (((w.alloc (.cells #[.slice A n c] 32)).alloc (.cells #[.int .i64 m, .slice L l c'] 52)).alloc (.cells #[.int .i64 m, .slice L l c'] 52)) A L n c l c' m :=
  ⟨(((Below.refl _ _).alloc (Nat.le_refl _) _).alloc (by simp) _).alloc (by simp; omega) _,
    ((Has.new w 32 #[.slice A n c]).alloc _).alloc _,
    (Has.newAt (w := w.alloc (.cells #[.slice A n c] 32)) (e := 52) (cs := #[.int .i64 m, .slice L l c']) (k := w.heap.size + 1) (by simp)).alloc _,
    Has.newAt (w := (w.alloc (.cells #[.slice A n c] 32)).alloc (.cells #[.int .i64 m, .slice L l c'] 52)) (e := 52) (cs := #[.int .i64 m, .slice L l c']) (k := w.heap.size + 1 + 1) (by simp)⟩

/-- A group and a module have been laid. -/
structure Laid2 (w W : World) (A L : Option Addr) (n c l c' : Nat) (m : Int) : Prop where
  below : Below w.heap.size w W
  g : Has W w.heap.size 32 #[.slice A n c]
  a : Has W (w.heap.size + 1) 52 #[.int .i64 m, .slice L l c']
theorem Laid2.mk_ (w : World) (A L : Option Addr) (n c l c' : Nat) (m : Int) :
    Laid2 w ((w.alloc (.cells #[.slice A n c] 32)).alloc (.cells #[.int .i64 m, .slice L l c'] 52)) A L n c l c' m :=
  ⟨((Below.refl _ _).alloc (Nat.le_refl _) _).alloc (by simp) _, (Has.new w 32 #[.slice A n c]).alloc _,
    Has.newAt (w := w.alloc (.cells #[.slice A n c] 32)) (e := 52) (cs := #[.int .i64 m, .slice L l c']) (k := w.heap.size + 1) (by simp)⟩

end Go.Proofs.YtcdijeeabgmgmaaGreatDoor

/- What a group and a module give; the tests of both sides in one form. -/
namespace Go.Proofs.YtcdijeeabgmgmaaGreatDoor
open Go.RowKit

theorem isModule_ex (A L : Option Addr) (t : List (List Int)) (m : Int) (us : List Int) (c c' : Nat) (w : World) (hR : RwsW w A t) (hX : IntsW w L us) (hs : SmallT t) (hx : us.length ≤ 1048576) :
    Calls Tryz.prog 122 #[.agg #[.slice A t.length c], .agg #[.int .i64 m, .slice L us.length c']] w fun e w' => e = .returned (.bool (gmB t m us)) ∧ Ex w w' :=
  isModule_any A L t m us c c' _ _ w hR.rws hX.ints (Nat.le_refl _) (Nat.le_refl _) hs.1 hs.2 hx

/-- What a module gives. -/
structure ModF (t : List (List Int)) (M : Nat) (us : List Int) : Prop where
  g : IsGrp t
  m2 : 2 ≤ M
  m12 : M ≤ 12
  len : us.length = t.length
  rng : InR M us
  unit : ∀ i, i < us.length → 1 ≤ nth us i
theorem gmB_f {t : List (List Int)} {m : Int} {us : List Int} (h : gmB t m us = true) : ∃ M : Nat, m = (M : Int) ∧ ModF t M us := by
  obtain ⟨h1, h2, h3, h4, h5, _⟩ := gmB_true h
  obtain ⟨M, rfl⟩ : ∃ M : Nat, m = (M : Int) := ⟨m.toNat, by omega⟩
  exact ⟨M, rfl, h1, by omega, by omega, h4, by simpa using units_inR h5 (by omega), fun i hi => (unitB_iff.1 (unitsB_iff.1 h5 i hi)).1⟩

end Go.Proofs.YtcdijeeabgmgmaaGreatDoor
