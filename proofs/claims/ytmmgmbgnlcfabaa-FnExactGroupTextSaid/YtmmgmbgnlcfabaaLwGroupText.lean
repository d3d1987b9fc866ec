/- The law of GroupText: the walk, whatever the contracts of both functions. -/
import Derived.Deep.RegionHeld3
import Derived.Deep.RegionWith
import Derived.Deep.DeepCutAuto
import Derived.Test.YtmmgmbgnlcfabaaCv
namespace Go.Proofs.Ytmmgmbgnlcfabaa
open Go.RowKit

set_option maxRecDepth 100000 in
set_option maxHeartbeats 16000000 in
theorem lawGroupText_any (A0 : Option Addr) (t0 : List (List Int)) (c0 : Nat) (q0 : ByteArray) (q1 : Int) (w : World) (hR0 : RwsW w A0 t0) (hn0 : t0.length ≤ maxLen) (hl0 : ∀ i, i < t0.length → (row t0 i).length ≤ maxLen)
    (HS : ∀ (B0 : Option Addr) (d0 : Nat) (W : World), RwsW W B0 t0 → SmallT t0 → Calls Try.prog 21 #[.agg #[.slice B0 t0.length d0]] W fun e W' => e = .returned (.tuple #[.string q0, .int .i64 q1]) ∧ Ex W W')
    (HI : ∀ (B0 : Option Addr) (d0 : Nat) (W : World), RwsW W B0 t0 → SmallT t0 → Calls Try.prog 22 #[.agg #[.slice B0 t0.length d0]] W fun e W' => e = .returned (.tuple #[.string q0, .int .i64 q1]) ∧ Ex W W') :
    Calls Try.prog 6 #[.agg #[.slice A0 t0.length c0]] w fun e w' => e = .returned (.bool true) ∧ Ex w w' := by
  have e0 : Ex w (w.alloc (.cells #[.slice A0 t0.length c0] 24)) := (Ex.refl w).alloc _
  have b0 : Has (w.alloc (.cells #[.slice A0 t0.length c0] 24)) (w.heap.size) 24 #[.slice A0 t0.length c0] := (Has.newAt (w := w) (e := 24) (cs := #[.slice A0 t0.length c0]) (k := w.heap.size) (by simp))
  have HR0 := Lib.hid (hR0.ex e0)
  have HN0 := Lib.hid hn0
  have HL0 := Lib.hid hl0
  have HS := Lib.hid HS
  have HI := Lib.hid HI
  clear hR0 hn0 hl0
  have cb0 := b0.cell 0
  have HB0 := Lib.hid b0
  clear b0
  go_enter Try.func6, Try.ntmps6
  go_wp2_with fail
  generalize (w.alloc (.cells #[.slice A0 t0.length c0] 24)) = W0 at *
  have EW := Lib.hid e0
  have EA := Lib.hid (Ex.refl W0)
  clear e0
  refine (szGroup_ex A0 t0 c0 1048576 W0 (HR0.out.ex EA.out) HN0.out HL0.out (by omega) (by omega)).mono ?_
  rintro e W1 ⟨⟨r0, rfl, hr⟩, he⟩
  have EW := Lib.hid (EW.out.trans he)
  have EA := Lib.hid (EA.out.trans he)
  clear he cb0
  rcases hr with rfl | ⟨hr0, hr1, hs⟩
  · go_wp2
    go_ret
    exact ⟨rfl, EW.out⟩
  have HX0 := Lib.hid hs
  have hneg : decide (r0 < 0) = false := by simp; omega
  clear hs
  clear HN0 HL0
  have cb0 := (HB0.out.ex (EA.out)).cell 0
  go_wp2_with fail
  refine (toGroup_ex A0 t0 c0 W1 (HR0.out.ex (EA.out)) HX0.out).mono ?_
  rintro e Vs0 ⟨Ds0, ks0, rfl, hvs0, hds0⟩
  have HDs0 := Lib.hid hds0
  clear hds0 cb0
  go_wp2_with fail
  refine (HS.out Ds0 ks0 Vs0 (HDs0.out.rws) HX0.out).mono ?_
  rintro e Us ⟨rfl, hes⟩
  have hfs : Ex W1 Us := (hvs0).trans hes
  clear hes hvs0 HDs0
  have EW := Lib.hid (EW.out.trans hfs)
  have EA := Lib.hid (EA.out.trans hfs)
  clear hfs
  have ES := Lib.hid (Ex.refl Us)
  have cb0 := (HB0.out.ex EA.out).cell 0
  go_wp2_with fail
  have hzw := EW.out.size
  have hzl0 := EA.out.size
  have hzs0 := ES.out.size
  refine (toGroup_ex A0 t0 c0 Us (HR0.out.ex EA.out) HX0.out).mono ?_
  rintro e W2 ⟨D0, k0, rfl, hv, hd⟩
  have hz0 := hv.size
  clear cb0
  have hbx : Has (W2.alloc (.cells #[.slice D0 t0.length k0] 28)) W2.heap.size 28 #[.slice D0 t0.length k0] := Has.new W2 28 #[.slice D0 t0.length k0]
  have hv1 : Ex W2 (W2.alloc (.cells #[.slice D0 t0.length k0] 28)) := Ex.new _ _
  have hv2 : Ex Us (W2.alloc (.cells #[.slice D0 t0.length k0] 28)) := hv.trans hv1
  have cx0 := hbx.cell 0
  have HD0 := Lib.hid (hd.ex hv1)
  have HBX0 := Lib.hid hbx
  have hzb0 := hbx.lt
  clear hd hbx hv1 hv
  go_wp2_with fail
  generalize (W2.alloc (.cells #[.slice D0 t0.length k0] 28)) = W3 at *
  have EW := Lib.hid (EW.out.trans hv2)
  have EA := Lib.hid (EA.out.trans hv2)
  have ES := Lib.hid (ES.out.trans hv2)
  clear hv2
  have EX0 := Lib.hid (Ex.refl W3)
  refine (HI.out D0 k0 W3 (HD0.out.rws.ex EX0.out) HX0.out).mono ?_
  rintro e Ug ⟨rfl, heg⟩
  have hfg : Ex W3 Ug := heg
  have hzg := heg.size
  clear heg cx0
  have hq1 : (q1 != q1) = false := by simp
  have EW := Lib.hid (EW.out.trans hfg)
  have EA := Lib.hid (EA.out.trans hfg)
  have ES := Lib.hid (ES.out.trans hfg)
  have EX0 := Lib.hid (EX0.out.trans hfg)
  clear hfg
  have EG := Lib.hid (Ex.refl Ug)
  have HK := Lib.hid (fun (W' : World) (hb : Ex Ug.drew W') => (⟨(HB0.out.ex (EA.out.drew.trans hb)).cell 0, (HBX0.out.ex (EX0.out.drew.trans hb)).cell 0⟩ : (fun w' : World => w'.cell? ⟨w.heap.size, 0, none⟩ = some (.slice A0 t0.length c0) ∧ w'.cell? ⟨W2.heap.size, 0, none⟩ = some (.slice D0 t0.length k0)) W'))
  have ED := Lib.hid EA.out.drew
  have EDX := Lib.hid EX0.out.drew
  go_wp2_with fail
  go_region_held3 (fun w' : World => w'.cell? ⟨w.heap.size, 0, none⟩ = some (.slice A0 t0.length c0) ∧ w'.cell? ⟨W2.heap.size, 0, none⟩ = some (.slice D0 t0.length k0))
    (first
      | exact HK.out _ (Ex.refl _)
      | exact HK.out _ hv
      | exact HK.out _ ht)
    (first
      | (go_at_call 9; refine (toGroup_ex A0 t0 c0 Ug.drew (HR0.out.ex ED.out) HX0.out).mono ?_; rintro e Va ⟨Da, ka, rfl, hv, hd⟩; have HDa := Lib.hid hd; clear hd)
      | (go_at_call 11; refine (eqGroup_ex D0 Da t0 k0 ka Va (HD0.out.rws.ex (EDX.out.trans hv)) HDa.out.rws HX0.out).mono ?_; rintro e Vb ⟨rfl, he⟩; have ht : Ex Ug.drew Vb := hv.trans he))
  have hu : Ex Ug Vb := (Ex.refl Ug).drew.trans ht
  clear HK ED EDX hv ht he HDa
  generalize Vb = W4 at *
  have EW := Lib.hid (EW.out.trans hu)
  have EA := Lib.hid (EA.out.trans hu)
  have ES := Lib.hid (ES.out.trans hu)
  have EX0 := Lib.hid (EX0.out.trans hu)
  have EG := Lib.hid (EG.out.trans hu)
  clear hu
  go_wp2_with fail
  go_ret
  exact ⟨rfl, EW.out⟩

end Go.Proofs.Ytmmgmbgnlcfabaa
