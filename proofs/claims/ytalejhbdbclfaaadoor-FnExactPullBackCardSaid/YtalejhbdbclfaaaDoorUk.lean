/- PullBack: the program's contract (its code since dacb63e6). -/
import Derived.Test.YtalejhbdbclfaaaDoorUi
import Derived.Test.YtalejhbdbclfaaaDoorPc
namespace Go.Proofs.YtalejhbdbclfaaaDoor
open Go.RowKit

set_option maxHeartbeats 1000000 in
theorem pbi_ex (Bi : Nat) (L : Option Addr) (xs : List Int) (c x : Nat) (w : World) (hI : Has w Bi 25 #[.slice L xs.length c]) (hX : IntsW w L xs) (hx : x < xs.length) (_ : xs.length ≤ 8) :
    Calls Tryd.prog 96 #[.int .i64 (x : Int), .pointer (some ⟨Bi, 0, none⟩)] w fun e w' => e = .returned (.int .i64 (nth xs x)) ∧ Ex w w' := by
  obtain ⟨bl, ol, rfl, hb, hc⟩ := hX.ints.at_ hx
  have c0 := hI.cell 0
  have hx0 : (0 : Int) ≤ (x : Int) := by omega
  have hxl : (x : Int) < (xs.length : Int) := by omega
  obtain ⟨z, hz⟩ : ∃ z, nth xs x = z := ⟨_, rfl⟩
  rw [hz] at hc ⊢
  clear hI hX hz
  go_enter Tryd.func96, Tryd.ntmps96
  go_wp2_with fail
  go_ret
  exact ⟨rfl, Ex.refl _⟩

set_option maxRecDepth 100000 in
set_option maxHeartbeats 4000000 in
theorem implPullBack2_yes (t0 t1 : List (List Int)) (M k : Nat) (t2 t3 t4 : List Int) (B0 : Option Addr) (d0 : Nat) (B1 : Option Addr) (d1 : Nat) (B2 : Option Addr) (d2 : Nat) (B3 : Option Addr) (d3 : Nat) (B4 : Option Addr) (d4 : Nat) (w : World) (hR : RwsW w B0 t0) (hR' : RwsW w B1 t1) (hX : IntsW w B2 t2) (hI : IntsW w B3 t3) (hF : IntsW w B4 t4) (hs : SmallT t0) (hs' : SmallT t1) (hu : t2.length ≤ 1048576) (hi : t3.length ≤ 1048576) (hf : t4.length ≤ 1048576) (hg : gmcB t1 (M : Int) t2 (k : Int) t4 = true) (hz : resR t0 t1 t3 (M : Int) t2 = 0) (hMF : ModF t1 M t2) (hk3 : k ≤ 3) (hlen : t4.length = cellsN t1.length k) :
    Calls Tryd.prog 49 #[.agg #[.slice B0 t0.length d0], .agg #[.slice B1 t1.length d1], .agg #[.int .i64 (M : Int), .slice B2 t2.length d2], .slice B3 t3.length d3, .agg #[.int .i64 (k : Int), .slice B4 t4.length d4]] w (PbPost t0 t1 (M : Int) t2 t3 (k : Int) t4 w) := by
  have e0 : Ex w (((((((w.alloc (.cells #[.slice B0 t0.length d0] 27)).alloc (.cells #[.slice B1 t1.length d1] 27)).alloc (.cells #[.int .i64 (M : Int), .slice B2 t2.length d2] 40)).alloc (.cells #[.slice B3 t3.length d3] 25)).alloc (.cells #[.int .i64 (k : Int), .slice B4 t4.length d4] 57)).alloc (.cells #[.int .i64 0, .slice none 0 0] 40)).alloc (.cells #[.int .i64 0, .slice none 0 0] 57)) := (((((((Ex.refl w).alloc _).alloc _).alloc _).alloc _).alloc _).alloc _).alloc _
  have b0 : Has (((((((w.alloc (.cells #[.slice B0 t0.length d0] 27)).alloc (.cells #[.slice B1 t1.length d1] 27)).alloc (.cells #[.int .i64 (M : Int), .slice B2 t2.length d2] 40)).alloc (.cells #[.slice B3 t3.length d3] 25)).alloc (.cells #[.int .i64 (k : Int), .slice B4 t4.length d4] 57)).alloc (.cells #[.int .i64 0, .slice none 0 0] 40)).alloc (.cells #[.int .i64 0, .slice none 0 0] 57)) (w.heap.size) 27 #[.slice B0 t0.length d0] := (((((((Has.newAt (w := w) (e := 27) (cs := #[.slice B0 t0.length d0]) (k := w.heap.size) (by simp)).alloc _).alloc _).alloc _).alloc _).alloc _).alloc _)
  have b1 : Has (((((((w.alloc (.cells #[.slice B0 t0.length d0] 27)).alloc (.cells #[.slice B1 t1.length d1] 27)).alloc (.cells #[.int .i64 (M : Int), .slice B2 t2.length d2] 40)).alloc (.cells #[.slice B3 t3.length d3] 25)).alloc (.cells #[.int .i64 (k : Int), .slice B4 t4.length d4] 57)).alloc (.cells #[.int .i64 0, .slice none 0 0] 40)).alloc (.cells #[.int .i64 0, .slice none 0 0] 57)) (w.heap.size + 1) 27 #[.slice B1 t1.length d1] := ((((((Has.newAt (w := (w.alloc (.cells #[.slice B0 t0.length d0] 27))) (e := 27) (cs := #[.slice B1 t1.length d1]) (k := w.heap.size + 1) (by simp)).alloc _).alloc _).alloc _).alloc _).alloc _)
  have b2 : Has (((((((w.alloc (.cells #[.slice B0 t0.length d0] 27)).alloc (.cells #[.slice B1 t1.length d1] 27)).alloc (.cells #[.int .i64 (M : Int), .slice B2 t2.length d2] 40)).alloc (.cells #[.slice B3 t3.length d3] 25)).alloc (.cells #[.int .i64 (k : Int), .slice B4 t4.length d4] 57)).alloc (.cells #[.int .i64 0, .slice none 0 0] 40)).alloc (.cells #[.int .i64 0, .slice none 0 0] 57)) (w.heap.size + 1 + 1) 40 #[.int .i64 (M : Int), .slice B2 t2.length d2] := (((((Has.newAt (w := ((w.alloc (.cells #[.slice B0 t0.length d0] 27)).alloc (.cells #[.slice B1 t1.length d1] 27))) (e := 40) (cs := #[.int .i64 (M : Int), .slice B2 t2.length d2]) (k := w.heap.size + 1 + 1) (by simp)).alloc _).alloc _).alloc _).alloc _)
  have b3 : Has (((((((w.alloc (.cells #[.slice B0 t0.length d0] 27)).alloc (.cells #[.slice B1 t1.length d1] 27)).alloc (.cells #[.int .i64 (M : Int), .slice B2 t2.length d2] 40)).alloc (.cells #[.slice B3 t3.length d3] 25)).alloc (.cells #[.int .i64 (k : Int), .slice B4 t4.length d4] 57)).alloc (.cells #[.int .i64 0, .slice none 0 0] 40)).alloc (.cells #[.int .i64 0, .slice none 0 0] 57)) (w.heap.size + 1 + 1 + 1) 25 #[.slice B3 t3.length d3] := ((((Has.newAt (w := (((w.alloc (.cells #[.slice B0 t0.length d0] 27)).alloc (.cells #[.slice B1 t1.length d1] 27)).alloc (.cells #[.int .i64 (M : Int), .slice B2 t2.length d2] 40))) (e := 25) (cs := #[.slice B3 t3.length d3]) (k := w.heap.size + 1 + 1 + 1) (by simp)).alloc _).alloc _).alloc _)
  have b4 : Has (((((((w.alloc (.cells #[.slice B0 t0.length d0] 27)).alloc (.cells #[.slice B1 t1.length d1] 27)).alloc (.cells #[.int .i64 (M : Int), .slice B2 t2.length d2] 40)).alloc (.cells #[.slice B3 t3.length d3] 25)).alloc (.cells #[.int .i64 (k : Int), .slice B4 t4.length d4] 57)).alloc (.cells #[.int .i64 0, .slice none 0 0] 40)).alloc (.cells #[.int .i64 0, .slice none 0 0] 57)) (w.heap.size + 1 + 1 + 1 + 1) 57 #[.int .i64 (k : Int), .slice B4 t4.length d4] := (((Has.newAt (w := ((((w.alloc (.cells #[.slice B0 t0.length d0] 27)).alloc (.cells #[.slice B1 t1.length d1] 27)).alloc (.cells #[.int .i64 (M : Int), .slice B2 t2.length d2] 40)).alloc (.cells #[.slice B3 t3.length d3] 25))) (e := 57) (cs := #[.int .i64 (k : Int), .slice B4 t4.length d4]) (k := w.heap.size + 1 + 1 + 1 + 1) (by simp)).alloc _).alloc _)
  have b5 : Has (((((((w.alloc (.cells #[.slice B0 t0.length d0] 27)).alloc (.cells #[.slice B1 t1.length d1] 27)).alloc (.cells #[.int .i64 (M : Int), .slice B2 t2.length d2] 40)).alloc (.cells #[.slice B3 t3.length d3] 25)).alloc (.cells #[.int .i64 (k : Int), .slice B4 t4.length d4] 57)).alloc (.cells #[.int .i64 0, .slice none 0 0] 40)).alloc (.cells #[.int .i64 0, .slice none 0 0] 57)) (w.heap.size + 1 + 1 + 1 + 1 + 1) 40 #[.int .i64 0, .slice none 0 0] := ((Has.newAt (w := (((((w.alloc (.cells #[.slice B0 t0.length d0] 27)).alloc (.cells #[.slice B1 t1.length d1] 27)).alloc (.cells #[.int .i64 (M : Int), .slice B2 t2.length d2] 40)).alloc (.cells #[.slice B3 t3.length d3] 25)).alloc (.cells #[.int .i64 (k : Int), .slice B4 t4.length d4] 57))) (e := 40) (cs := #[.int .i64 0, .slice none 0 0]) (k := w.heap.size + 1 + 1 + 1 + 1 + 1) (by simp)).alloc _)
  have b6 : Has (((((((w.alloc (.cells #[.slice B0 t0.length d0] 27)).alloc (.cells #[.slice B1 t1.length d1] 27)).alloc (.cells #[.int .i64 (M : Int), .slice B2 t2.length d2] 40)).alloc (.cells #[.slice B3 t3.length d3] 25)).alloc (.cells #[.int .i64 (k : Int), .slice B4 t4.length d4] 57)).alloc (.cells #[.int .i64 0, .slice none 0 0] 40)).alloc (.cells #[.int .i64 0, .slice none 0 0] 57)) (w.heap.size + 1 + 1 + 1 + 1 + 1 + 1) 57 #[.int .i64 0, .slice none 0 0] := (Has.newAt (w := ((((((w.alloc (.cells #[.slice B0 t0.length d0] 27)).alloc (.cells #[.slice B1 t1.length d1] 27)).alloc (.cells #[.int .i64 (M : Int), .slice B2 t2.length d2] 40)).alloc (.cells #[.slice B3 t3.length d3] 25)).alloc (.cells #[.int .i64 (k : Int), .slice B4 t4.length d4] 57)).alloc (.cells #[.int .i64 0, .slice none 0 0] 40))) (e := 57) (cs := #[.int .i64 0, .slice none 0 0]) (k := w.heap.size + 1 + 1 + 1 + 1 + 1 + 1) (by simp))
  have hmf : ∀ (fn : Fn) (first cap : Array Value) (w : World), (Instr.makeFunc fn first cap).run Tryd.prog w = .ok (.func fn first cap) w := fun _ _ _ _ => rfl
  obtain ⟨hgt, _, hl3, hr3, _⟩ := resR_facts hz
  have hN8 := hgt.n8
  have hN1 := hgt.n1
  have hK8 := hMF.g.n8
  have hK1 := hMF.g.n1
  have hC := isCochain_any B1 B2 B4 t1 (M : Int) t2 (k : Int) t4 d1 d2 d4 _ (hR'.ex e0) (hX.ex e0) (hF.ex e0) hs' hu hf
  rw [show (gmB t1 (M : Int) t2 && cocB t1.length (M : Int) (k : Int) t4) = gmcB t1 (M : Int) t2 (k : Int) t4 from rfl, hg] at hC
  have HC := Lib.hid hC
  have HQ := Lib.hid (pb_yes (t := t0) (xs := t3) ((pbR_yes hg).trans hz))
  obtain ⟨r0, r1, r2⟩ := rs_yes hz
  have HRM := Lib.hid (fun W (he : Ex w W) => implRestrictModule_ex t0 t1 t3 (M : Int) t2 B0 d0 B1 d1 B3 d3 B2 d2 W (hR.ex he) (hR'.ex he) (hI.ex he) (hX.ex he) hs hs' hi hu)
  rw [r0, r1, r2] at HRM
  have HCW := Lib.hid (fun W (he : Ex _ W) =>
    pulledBack_any B0 B1 B4 t0.length t1.length k 96 #[.pointer (some ⟨w.heap.size + 1 + 1 + 1, 0, none⟩)] (fun x => nth t3 x) t4 d0 d1 d4 W (hF.ex (e0.trans he)) hN8 hN1 hK8 hK1 hk3
      (fun x hx => hr3 x (by omega)) hlen (enters_of Tryd.func96 (by kernel_rfl) rfl)
      (fun W' he' x hx => pbi_ex (w.heap.size + 1 + 1 + 1) B3 t3 d3 x W' (b3.ex (he.trans he')) (hI.ex (e0.trans (he.trans he'))) (by omega) (by omega)))
  rw [show pbY (fun x => nth t3 x) t4 t0.length t1.length k = (List.range (cellsN t0.length k)).map (fun j => pulV t3 t4 t0.length t1.length k j) from rfl] at HCW
  have HV : Hid (((List.range (cellsN t0.length k)).map fun j => pulV t3 t4 t0.length t1.length k j).length = cellsN t0.length k) := Lib.hid (by simp)
  obtain ⟨ys, hys⟩ : ∃ ys, ((List.range (cellsN t0.length k)).map fun j => pulV t3 t4 t0.length t1.length k j) = ys := ⟨_, rfl⟩
  rw [hys] at HV HQ HCW
  obtain ⟨cn, hcn⟩ : ∃ cn, cellsN t0.length k = cn := ⟨_, rfl⟩
  rw [hcn] at HV HCW
  obtain ⟨y2, hy2⟩ : ∃ y2, ((List.range t3.length).map fun i => nth t2 (im t3 i)) = y2 := ⟨_, rfl⟩
  rw [hy2] at HQ HRM
  clear hC hg hR hR' hX hI hF hz r0 r1 r2 hMF hlen hr3 hys hcn hy2 hgt  hl3
  go_enter Tryd.func49, Tryd.ntmps49
  go_wp2_with fail
  generalize (((((((w.alloc (.cells #[.slice B0 t0.length d0] 27)).alloc (.cells #[.slice B1 t1.length d1] 27)).alloc (.cells #[.int .i64 (M : Int), .slice B2 t2.length d2] 40)).alloc (.cells #[.slice B3 t3.length d3] 25)).alloc (.cells #[.int .i64 (k : Int), .slice B4 t4.length d4] 57)).alloc (.cells #[.int .i64 0, .slice none 0 0] 40)).alloc (.cells #[.int .i64 0, .slice none 0 0] 57)) = W0 at *
  refine HC.out.mono ?_
  rintro e W1 ⟨rfl, he1⟩
  have HB5 := Lib.hid (b5.ex he1)
  have HB6 := Lib.hid (b6.ex he1)
  have HE1 := Lib.hid (e0.trans he1)
  have HX1 := Lib.hid he1
  have hlt5 := HB5.out.lt
  have hlt6 := HB6.out.lt
  have HA0 := Lib.hid (b0.ex he1)
  have HA1 := Lib.hid (b1.ex he1)
  have HA4 := Lib.hid (b4.ex he1)
  have c0 := (b0.ex he1).cell 0
  have c1 := (b1.ex he1).cell 0
  have c2 := (b2.ex he1).cell 0
  have c2' := (b2.ex he1).cell 1
  have c3 := (b3.ex he1).cell 0
  clear b0 b1 b2 b3 b4 b5 b6 e0 he1
  go_wp2_with fail
  refine (HRM.out W1 HE1.out).mono ?_
  rintro e W2 ⟨C2, n2, rfl, he2, ho2⟩
  clear c0 c1 c2 c2' c3
  have ha2 := he2.alloc (.cells #[.int .i64 (M : Int), .slice C2 y2.length n2] 40)
  have HB52 := Lib.hid (HB5.out.ex ha2)
  have HB62 := Lib.hid (HB6.out.ex ha2)
  have HA02 := Lib.hid (HA0.out.ex ha2)
  have HA12 := Lib.hid (HA1.out.ex ha2)
  have HA42 := Lib.hid (HA4.out.ex ha2)
  have HE2 := Lib.hid (HE1.out.trans ha2)
  have HB7 : Hid (Has (W2.alloc (.cells #[.int .i64 (M : Int), .slice C2 y2.length n2] 40)) W2.heap.size 40 #[.int .i64 (M : Int), .slice C2 y2.length n2]) := Lib.hid (Has.new _ _ _)
  have HCW2 := Lib.hid (fun W (he : Ex (W2.alloc (.cells #[.int .i64 (M : Int), .slice C2 y2.length n2] 40)) W) => HCW.out W ((HX1.out.trans ha2).trans he))
  have HO2 := Lib.hid (ho2.ex ((Ex.refl W2).alloc (.cells #[.int .i64 (M : Int), .slice C2 y2.length n2] 40)))
  have hz1 := HE1.out.size
  have hz2 := he2.size
  have hC0 := And.intro (HB7.out.cell 0) (And.intro (HB7.out.cell 1) (And.intro (HA02.out.cell 0) (And.intro (HA12.out.cell 0) (And.intro (HA42.out.cell 0) (HA42.out.cell 1)))))
  clear he2 ho2 HB5 HB6 HCW ha2
  go_wp2_with fail
  refine Late.region (C := fun w' => w'.cell? ⟨W2.heap.size, 0, none⟩ = some (.int .i64 (M : Int)) ∧ w'.cell? ⟨W2.heap.size, 1, none⟩ = some (.slice C2 y2.length n2) ∧ w'.cell? ⟨w.heap.size, 0, none⟩ = some (.slice B0 t0.length d0) ∧ w'.cell? ⟨w.heap.size + 1, 0, none⟩ = some (.slice B1 t1.length d1) ∧ w'.cell? ⟨w.heap.size + 1 + 1 + 1 + 1, 0, none⟩ = some (.int .i64 (k : Int)) ∧ w'.cell? ⟨w.heap.size + 1 + 1 + 1 + 1, 1, none⟩ = some (.slice B4 t4.length d4)) (fun j => decide (j < 7)) (by kernel_rfl) hC0 (fun hC => ?_)
  refine Late.take (i := 0) (oi := _) (v := ?_) rfl (by kernel_rfl) (by kernel_rfl) (by kernel_rfl) (by kernel_rfl) (fun _ _ _ h => h) (Or.inl ⟨by rfl, ?_⟩) hC ?_
  rotate_left
  · (intro w hSw; (try dsimp only at hSw); go_simp; first | done | with_reducible rfl)
  simp only [Act.put]
  refine Late.take (i := 1) (oi := _) (v := ?_) rfl (by kernel_rfl) (by kernel_rfl) (by kernel_rfl) (by kernel_rfl) (fun _ _ _ h => h) (Or.inl ⟨by rfl, ?_⟩) hC ?_
  rotate_left
  · (intro w hSw; (try dsimp only at hSw); go_simp; first | done | with_reducible rfl)
  simp only [Act.put]
  refine Late.take (i := 2) (oi := _) (v := ?_) rfl (by kernel_rfl) (by kernel_rfl) (by kernel_rfl) (by kernel_rfl) (fun _ _ _ h => h) (Or.inl ⟨by rfl, ?_⟩) hC ?_
  rotate_left
  · (intro w hSw; (try dsimp only at hSw); go_simp; first | done | with_reducible rfl)
  simp only [Act.put]
  refine Late.take (i := 3) (oi := _) (v := ?_) rfl (by kernel_rfl) (by kernel_rfl) (by kernel_rfl) (by kernel_rfl) (fun _ _ _ h => h) (Or.inl ⟨by rfl, ?_⟩) hC ?_
  rotate_left
  · (intro w hSw; (try dsimp only at hSw); go_simp; first | done | with_reducible rfl)
  simp only [Act.put]
  refine Late.take (i := 4) (oi := _) (v := ?_) rfl (by kernel_rfl) (by kernel_rfl) (by kernel_rfl) (by kernel_rfl) (fun _ _ _ h => h) (Or.inl ⟨by rfl, ?_⟩) hC ?_
  rotate_left
  · (intro w hSw; (try dsimp only at hSw); go_simp; first | done | with_reducible rfl)
  simp only [Act.put]
  refine Late.one (i := 5) (o := _) (by kernel_rfl) rfl (fun K' hK' => ?_)
  go_simp
  refine (HCW2.out _ (Ex.refl _).drew).mono ?_
  rintro e W5 ⟨A5, n5, rfl, he5, ho5⟩
  have HB55 := Lib.hid (HB52.out.ex ((Ex.refl _).drew.trans he5))
  have HB65 := Lib.hid (HB62.out.ex ((Ex.refl _).drew.trans he5))
  have HB75 := Lib.hid (HB7.out.ex ((Ex.refl _).drew.trans he5))
  have HA05 := Lib.hid (HA02.out.ex ((Ex.refl _).drew.trans he5))
  have HA15 := Lib.hid (HA12.out.ex ((Ex.refl _).drew.trans he5))
  have HA45 := Lib.hid (HA42.out.ex ((Ex.refl _).drew.trans he5))
  have hC5 := And.intro (HB75.out.cell 0) (And.intro (HB75.out.cell 1) (And.intro (HA05.out.cell 0) (And.intro (HA15.out.cell 0) (And.intro (HA45.out.cell 0) (HA45.out.cell 1)))))
  have HE5 := Lib.hid (HE2.out.trans ((Ex.refl _).drew.trans he5))
  have HO5 := Lib.hid ho5
  have HO25 := Lib.hid (HO2.out.ex ((Ex.refl _).drew.trans he5))
  have p5 := HB55.out.cell 0
  have p5' := HB55.out.cell 1
  have f5 := HB55.out.free 0
  have f5' := HB55.out.free 1
  have p6 := HB65.out.cell 0
  have p6' := HB65.out.cell 1
  have f6 := HB65.out.free 0
  have f6' := HB65.out.free 1
  refine hK'.out _ _ (fun _ => hC5) (fun _ => ?_)
  clear hK' K' hC hC0
  try simp only [Act.put, List.setIfInBounds_toArray, List.set_cons_zero, List.set_cons_succ]
  have F7 := (HB75.out.far (p := ⟨w.heap.size + 1 + 1 + 1 + 1 + 1, 0, none⟩) (by show W2.heap.size ≠ w.heap.size + 1 + 1 + 1 + 1 + 1; omega) (.int .i64 (M : Int))).far (p := ⟨w.heap.size + 1 + 1 + 1 + 1 + 1, 1, none⟩) (by show W2.heap.size ≠ w.heap.size + 1 + 1 + 1 + 1 + 1; omega) (.slice C2 y2.length n2)
  have F0 := (HA05.out.far (p := ⟨w.heap.size + 1 + 1 + 1 + 1 + 1, 0, none⟩) (by show w.heap.size ≠ w.heap.size + 1 + 1 + 1 + 1 + 1; omega) (.int .i64 (M : Int))).far (p := ⟨w.heap.size + 1 + 1 + 1 + 1 + 1, 1, none⟩) (by show w.heap.size ≠ w.heap.size + 1 + 1 + 1 + 1 + 1; omega) (.slice C2 y2.length n2)
  have F1 := (HA15.out.far (p := ⟨w.heap.size + 1 + 1 + 1 + 1 + 1, 0, none⟩) (by show w.heap.size + 1 ≠ w.heap.size + 1 + 1 + 1 + 1 + 1; omega) (.int .i64 (M : Int))).far (p := ⟨w.heap.size + 1 + 1 + 1 + 1 + 1, 1, none⟩) (by show w.heap.size + 1 ≠ w.heap.size + 1 + 1 + 1 + 1 + 1; omega) (.slice C2 y2.length n2)
  have F4 := (HA45.out.far (p := ⟨w.heap.size + 1 + 1 + 1 + 1 + 1, 0, none⟩) (by show w.heap.size + 1 + 1 + 1 + 1 ≠ w.heap.size + 1 + 1 + 1 + 1 + 1; omega) (.int .i64 (M : Int))).far (p := ⟨w.heap.size + 1 + 1 + 1 + 1 + 1, 1, none⟩) (by show w.heap.size + 1 + 1 + 1 + 1 ≠ w.heap.size + 1 + 1 + 1 + 1 + 1; omega) (.slice C2 y2.length n2)
  have hC6 := And.intro (F7.cell 0) (And.intro (F7.cell 1) (And.intro (F0.cell 0) (And.intro (F1.cell 0) (And.intro (F4.cell 0) (F4.cell 1)))))
  clear F7 F0 F1 F4
  refine Late.one (i := 6) (o := _) (by kernel_rfl) rfl (fun K' hK' => ?_)
  go_simp
  refine hK'.out _ _ (fun _ => hC6) (fun _ => ?_)
  clear hK' K' hC6
  try simp only [Act.put, List.setIfInBounds_toArray, List.set_cons_zero, List.set_cons_succ]
  refine Late.one (i := 7) (o := _) (by kernel_rfl) rfl (fun K' hK' => ?_)
  go_simp
  refine hK'.out _ _ (fun h => by cases h) (fun _ => ?_)
  clear hK' K'
  try simp only [Act.put, List.setIfInBounds_toArray, List.set_cons_zero, List.set_cons_succ]
  refine Late.one (i := 8) (o := _) (by kernel_rfl) rfl (fun K' hK' => ?_)
  go_simp
  refine hK'.out _ _ (fun h => by cases h) (fun _ => ?_)
  clear hK' K'
  try simp only [Act.put, List.setIfInBounds_toArray, List.set_cons_zero, List.set_cons_succ]
  refine Late.done (by kernel_rfl) ?_ _
  go_wp2_with fail
  have hlo5 : W1.heap.size ≤ (W2.alloc (.cells #[.int .i64 (M : Int), .slice C2 y2.length n2] 40)).drew.heap.size := Nat.le_trans hz2 ((Ex.refl W2).alloc (.cells #[.int .i64 (M : Int), .slice C2 y2.length n2] 40)).drew.size
  have hmid : W2.heap.size ≤ W5.heap.size := HO25.out.le
  have hmid5 : W2.heap.size ≤ (W2.alloc (.cells #[.int .i64 (M : Int), .slice C2 y2.length n2] 40)).drew.heap.size := ((Ex.refl W2).alloc (.cells #[.int .i64 (M : Int), .slice C2 y2.length n2] 40)).drew.size
  have H4 := (Has.far (p := ⟨w.heap.size + 1 + 1 + 1 + 1 + 1 + 1, 1, none⟩) (Has.far (p := ⟨w.heap.size + 1 + 1 + 1 + 1 + 1 + 1, 0, none⟩) (HB55.out.put2 (u := .int .i64 (M : Int)) (v := .slice C2 y2.length n2)) (by show w.heap.size + 1 + 1 + 1 + 1 + 1 ≠ w.heap.size + 1 + 1 + 1 + 1 + 1 + 1; omega) (.int .i64 (k : Int))) (by show w.heap.size + 1 + 1 + 1 + 1 + 1 ≠ w.heap.size + 1 + 1 + 1 + 1 + 1 + 1; omega) (.slice A5 cn n5))
  have H5 := Has.put2 (u := .int .i64 (k : Int)) (v := .slice A5 cn n5) (Has.far (p := ⟨w.heap.size + 1 + 1 + 1 + 1 + 1, 1, none⟩) (Has.far (p := ⟨w.heap.size + 1 + 1 + 1 + 1 + 1, 0, none⟩) HB65.out (by show w.heap.size + 1 + 1 + 1 + 1 + 1 + 1 ≠ w.heap.size + 1 + 1 + 1 + 1 + 1; omega) (.int .i64 (M : Int))) (by show w.heap.size + 1 + 1 + 1 + 1 + 1 + 1 ≠ w.heap.size + 1 + 1 + 1 + 1 + 1; omega) (.slice C2 y2.length n2))
  have c4 := H4.cell 0
  have c4' := H4.cell 1
  have c5 := H5.cell 0
  have c5' := H5.cell 1
  refine bodyPost_ret (v := .tuple #[.agg #[.int .i64 (M : Int), .slice C2 y2.length n2], .agg #[.int .i64 (k : Int), .slice A5 cn n5], .int .i64 0]) (by simp [results, Tryd.results49, go_sem, c4, c4', c5, c5']) rfl (PbPost.of (mid := W2.heap.size) HQ.out.1 HQ.out.2.1 HQ.out.2.2.1 HQ.out.2.2.2.1 HQ.out.2.2.2.2 (by rw [HV.out]) ((((HE5.out.setCell (by show w.heap.size ≤ w.heap.size + 1 + 1 + 1 + 1 + 1; omega) _).setCell (by show w.heap.size ≤ w.heap.size + 1 + 1 + 1 + 1 + 1; omega) _).setCell (by show w.heap.size ≤ w.heap.size + 1 + 1 + 1 + 1 + 1 + 1; omega) _).setCell (by show w.heap.size ≤ w.heap.size + 1 + 1 + 1 + 1 + 1 + 1; omega) _) (Nat.le_trans hz1 hz2) (by simpa using hmid) ((((((HO25.out.above (Only.set _ _ _ _) hlt5).above (Only.set _ _ _ _) hlt5).above (Only.set _ _ _ _) hlt6).above (Only.set _ _ _ _) hlt6)).mono hz1 (Nat.le_refl _) (by simpa using hmid)) ((((((HO5.out.above (Only.set _ _ _ _) (Nat.le_trans hlt5 hlo5)).above (Only.set _ _ _ _) (Nat.le_trans hlt5 hlo5)).above (Only.set _ _ _ _) (Nat.le_trans hlt6 hlo5)).above (Only.set _ _ _ _) (Nat.le_trans hlt6 hlo5))).mono hmid5 (by simp) (Nat.le_refl _)))

theorem implPullBack2_ex (t0 t1 : List (List Int)) (m2 : Int) (t2 t3 : List Int) (m4 : Int) (t4 : List Int) : ∀ (B0 : Option Addr) (d0 : Nat) (B1 : Option Addr) (d1 : Nat) (B2 : Option Addr) (d2 : Nat) (B3 : Option Addr) (d3 : Nat) (B4 : Option Addr) (d4 : Nat) (W : World), RwsW W B0 t0 → RwsW W B1 t1 → IntsW W B2 t2 → IntsW W B3 t3 → IntsW W B4 t4 → SmallT t0 → SmallT t1 → t2.length ≤ 1048576 → t3.length ≤ 1048576 → t4.length ≤ 1048576 →
    Calls Tryd.prog 49 #[.agg #[.slice B0 t0.length d0], .agg #[.slice B1 t1.length d1], .agg #[.int .i64 m2, .slice B2 t2.length d2], .slice B3 t3.length d3, .agg #[.int .i64 m4, .slice B4 t4.length d4]] W (PbPost t0 t1 m2 t2 t3 m4 t4 W) := by
  intro B0 d0 B1 d1 B2 d2 B3 d3 B4 d4 w hR hR' hX hI hF hs hs' hu hi hf
  cases hg : gmcB t1 m2 t2 m4 t4 with
  | false => exact implPullBack_no t0 t1 m2 t2 t3 m4 t4 B0 d0 B1 d1 B2 d2 B3 d3 B4 d4 w hR' hX hF hs' hu hf hg
  | true =>
    by_cases hz : resR t0 t1 t3 m2 t2 = 0
    · obtain ⟨M, k, rfl, rfl, hMF, hk3, hlen, h343, hfr⟩ := gmc_facts hg
      exact implPullBack2_yes t0 t1 M k t2 t3 t4 B0 d0 B1 d1 B2 d2 B3 d3 B4 d4 w hR hR' hX hI hF hs hs' hu hi hf hg hz hMF hk3 hlen
    · exact implPullBack_out t0 t1 m2 t2 t3 m4 t4 B0 d0 B1 d1 B2 d2 B3 d3 B4 d4 w hR hR' hX hI hF hs hs' hu hi hf hg hz

end Go.Proofs.YtalejhbdbclfaaaDoor
