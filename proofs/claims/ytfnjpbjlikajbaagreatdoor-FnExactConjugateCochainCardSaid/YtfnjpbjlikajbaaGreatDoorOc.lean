/- ConjugateCochain: the program's contract. -/
import Derived.Test.YtfnjpbjlikajbaaGreatDoorOb
import Derived.Test.YtfnjpbjlikajbaaGreatDoorTwo
namespace Go.Proofs.YtfnjpbjlikajbaaGreatDoor
open Go.RowKit

theorem Has.st7 {w : World} {g : Nat} {e : TypeId} {x0 x1 x2 x3 x4 x5 x6 u0 u1 u2 u3 u4 u5 u6 : Value} (h : Has w g e #[x0, x1, x2, x3, x4, x5, x6]) : Has (((((((w.setCell ⟨g, 0, none⟩ u0).setCell ⟨g, 1, none⟩ u1).setCell ⟨g, 2, none⟩ u2).setCell ⟨g, 3, none⟩ u3).setCell ⟨g, 4, none⟩ u4).setCell ⟨g, 5, none⟩ u5).setCell ⟨g, 6, none⟩ u6) g e #[u0, u1, u2, u3, u4, u5, u6] := by
  simpa using ((((((h.put 0 u0).put 1 u1).put 2 u2).put 3 u3).put 4 u4).put 5 u5).put 6 u6
theorem Ex.st7 {a w : World} {g : Nat} {u0 u1 u2 u3 u4 u5 u6 : Value} (h : Ex a w) (hg : a.heap.size ≤ g) : Ex a (((((((w.setCell ⟨g, 0, none⟩ u0).setCell ⟨g, 1, none⟩ u1).setCell ⟨g, 2, none⟩ u2).setCell ⟨g, 3, none⟩ u3).setCell ⟨g, 4, none⟩ u4).setCell ⟨g, 5, none⟩ u5).setCell ⟨g, 6, none⟩ u6) :=
  ((((((h.setCell (p := ⟨g, 0, none⟩) hg _).setCell (p := ⟨g, 1, none⟩) hg _).setCell (p := ⟨g, 2, none⟩) hg _).setCell (p := ⟨g, 3, none⟩) hg _).setCell (p := ⟨g, 4, none⟩) hg _).setCell (p := ⟨g, 5, none⟩) hg _).setCell (p := ⟨g, 6, none⟩) hg _
theorem OwnL.st7 {w : World} {lo hi g : Nat} {A : Option Addr} {xs : List Int} {u0 u1 u2 u3 u4 u5 u6 : Value} (h : OwnL w lo hi A xs) (hg : g < lo ∨ hi ≤ g) : OwnL (((((((w.setCell ⟨g, 0, none⟩ u0).setCell ⟨g, 1, none⟩ u1).setCell ⟨g, 2, none⟩ u2).setCell ⟨g, 3, none⟩ u3).setCell ⟨g, 4, none⟩ u4).setCell ⟨g, 5, none⟩ u5).setCell ⟨g, 6, none⟩ u6) lo hi A xs := by
  rcases hg with hg | hg
  · exact ((((((h.above (Only.set _ _ _ _) hg).above (Only.set _ _ _ _) hg).above (Only.set _ _ _ _) hg).above (Only.set _ _ _ _) hg).above (Only.set _ _ _ _) hg).above (Only.set _ _ _ _) hg).above (Only.set _ _ _ _) hg
  · exact ((((((h.under (Only.set _ _ _ _) hg).under (Only.set _ _ _ _) hg).under (Only.set _ _ _ _) hg).under (Only.set _ _ _ _) hg).under (Only.set _ _ _ _) hg).under (Only.set _ _ _ _) hg).under (Only.set _ _ _ _) hg
theorem size_st7 {w : World} {g : Nat} {u0 u1 u2 u3 u4 u5 u6 : Value} : (((((((w.setCell ⟨g, 0, none⟩ u0).setCell ⟨g, 1, none⟩ u1).setCell ⟨g, 2, none⟩ u2).setCell ⟨g, 3, none⟩ u3).setCell ⟨g, 4, none⟩ u4).setCell ⟨g, 5, none⟩ u5).setCell ⟨g, 6, none⟩ u6).heap.size = w.heap.size := by simp
theorem pbY_inM {V : Nat → Int} {fs : List Int} {N K M d : Nat} (hM : 0 < M) (hV : ∀ x, x < N → 0 ≤ V x ∧ V x < K) (hfl : fs.length = cellsN K d) (hfr : InR M fs) : InR M (pbY V fs N K d) := fun k hk => by
  rw [pbY_len] at hk
  rw [show nth (pbY V fs N K d) k = valR K fs (pbL V N d k) by simp [nth, pbY, hk, pbV]]
  exact valR_in hM (pbL_in hV (cells_posU hk)) (pbL_len V N d k) hfl hfr

set_option maxRecDepth 100000 in
set_option maxHeartbeats 8000000 in
theorem implCJ_err (t0 : List (List Int)) (m1 : Int) (t1 t2 : List Int) (m3 : Int) (t3 : List Int) (m4 : Int) (B0 : Option Addr) (d0 : Nat) (B1 : Option Addr) (d1 : Nat) (B2 : Option Addr) (d2 : Nat) (B3 : Option Addr) (d3 : Nat) (w : World) (hR : RwsW w B0 t0) (hU : IntsW w B1 t1) (hX : IntsW w B2 t2) (hF : IntsW w B3 t3) (hs : SmallT t0) (hu : t1.length ≤ 1048576) (hx : t2.length ≤ 1048576) (hf : t3.length ≤ 1048576) (hT : TabL w) (hz : scC t0 m1 t1 t2 m3 t3 [m4] ≠ 0) :
    Calls Tryz.prog 29 #[.agg #[.slice B0 t0.length d0], .agg #[.int .i64 m1, .slice B1 t1.length d1], .slice B2 t2.length d2, .agg #[.int .i64 m3, .slice B3 t3.length d3], .int .i64 m4] w (SqS (qConjugateCochain0 t0 m1 t1 t2 m3 t3 m4) (yConjugateCochain0 t0 m1 t1 t2 m3 t3 m4) (qConjugateCochain1 t0 m1 t1 t2 m3 t3 m4) w) := by
  have e0 : Ex w ((((w.alloc (.cells #[.slice B0 t0.length d0] 36)).alloc (.cells #[.int .i64 m1, .slice B1 t1.length d1] 38)).alloc (.cells #[.int .i64 m3, .slice B3 t3.length d3] 33)).alloc (.cells #[.int .i64 0, .slice none 0 0] 33)) := ((((Ex.refl w).alloc _).alloc _).alloc _).alloc _
  have b0 : Has ((((w.alloc (.cells #[.slice B0 t0.length d0] 36)).alloc (.cells #[.int .i64 m1, .slice B1 t1.length d1] 38)).alloc (.cells #[.int .i64 m3, .slice B3 t3.length d3] 33)).alloc (.cells #[.int .i64 0, .slice none 0 0] 33)) (w.heap.size) 36 #[.slice B0 t0.length d0] := ((((Has.newAt (w := w) (e := 36) (cs := #[.slice B0 t0.length d0]) (k := w.heap.size) (by simp)).alloc _).alloc _).alloc _)
  have b1 : Has ((((w.alloc (.cells #[.slice B0 t0.length d0] 36)).alloc (.cells #[.int .i64 m1, .slice B1 t1.length d1] 38)).alloc (.cells #[.int .i64 m3, .slice B3 t3.length d3] 33)).alloc (.cells #[.int .i64 0, .slice none 0 0] 33)) (w.heap.size + 1) 38 #[.int .i64 m1, .slice B1 t1.length d1] := (((Has.newAt (w := (w.alloc (.cells #[.slice B0 t0.length d0] 36))) (e := 38) (cs := #[.int .i64 m1, .slice B1 t1.length d1]) (k := w.heap.size + 1) (by simp)).alloc _).alloc _)
  have b2 : Has ((((w.alloc (.cells #[.slice B0 t0.length d0] 36)).alloc (.cells #[.int .i64 m1, .slice B1 t1.length d1] 38)).alloc (.cells #[.int .i64 m3, .slice B3 t3.length d3] 33)).alloc (.cells #[.int .i64 0, .slice none 0 0] 33)) (w.heap.size + 1 + 1) 33 #[.int .i64 m3, .slice B3 t3.length d3] := ((Has.newAt (w := ((w.alloc (.cells #[.slice B0 t0.length d0] 36)).alloc (.cells #[.int .i64 m1, .slice B1 t1.length d1] 38))) (e := 33) (cs := #[.int .i64 m3, .slice B3 t3.length d3]) (k := w.heap.size + 1 + 1) (by simp)).alloc _)
  have b3 : Has ((((w.alloc (.cells #[.slice B0 t0.length d0] 36)).alloc (.cells #[.int .i64 m1, .slice B1 t1.length d1] 38)).alloc (.cells #[.int .i64 m3, .slice B3 t3.length d3] 33)).alloc (.cells #[.int .i64 0, .slice none 0 0] 33)) (w.heap.size + 1 + 1 + 1) 33 #[.int .i64 0, .slice none 0 0] := (Has.newAt (w := (((w.alloc (.cells #[.slice B0 t0.length d0] 36)).alloc (.cells #[.int .i64 m1, .slice B1 t1.length d1] 38)).alloc (.cells #[.int .i64 m3, .slice B3 t3.length d3] 33))) (e := 33) (cs := #[.int .i64 0, .slice none 0 0]) (k := w.heap.size + 1 + 1 + 1) (by simp))
  have HSC := Lib.hid (fun W kb (he : Ex w W) (hk : Has W kb 2 #[.int .i64 m4]) => subgroupCochainCode_any B0 B1 B2 B3 (some ⟨kb, 0, none⟩) t0 m1 t1 t2 m3 t3 [m4] d0 d1 d2 d3 1 W (hR.ex he) (hU.ex he) (hX.ex he) (hF.ex he) (.inr ⟨_, 0, rfl, hk.lt, fun j hj => by obtain rfl : j = 0 := (by simp at hj; exact hj); exact hk.cell 0⟩) hs hu hx hf (by simp) (hT.ex he))
  simp only [List.length_cons, List.length_nil] at HSC
  obtain ⟨z, hzz⟩ : ∃ z, scC t0 m1 t1 t2 m3 t3 [m4] = z := ⟨_, rfl⟩
  rw [hzz] at HSC hz
  have HQ := Lib.hid (cj_no (c := m4) hzz hz)
  have hzb : (z != 0) = true := by simpa using hz
  have HE0 := Lib.hid e0
  have HSZ : Hid (((((w.alloc (.cells #[.slice B0 t0.length d0] 36)).alloc (.cells #[.int .i64 m1, .slice B1 t1.length d1] 38)).alloc (.cells #[.int .i64 m3, .slice B3 t3.length d3] 33)).alloc (.cells #[.int .i64 0, .slice none 0 0] 33)).heap.size = w.heap.size + 1 + 1 + 1 + 1) := Lib.hid (by simp)
  have HB0 := Lib.hid b0
  have HB1 := Lib.hid b1
  have HB2 := Lib.hid b2
  have HB3 := Lib.hid b3
  have k0 := b0.cell 0
  have k1 := b1.cell 0
  have k1' := b1.cell 1
  have k2 := b2.cell 0
  have k2' := b2.cell 1
  clear b0 b1 b2 b3 e0
  clear hz hzz hR hU hX hF hs hu hx hf hT
  go_enter Tryz.func29, Tryz.ntmps29
  go_wp2_with fail
  generalize ((((w.alloc (.cells #[.slice B0 t0.length d0] 36)).alloc (.cells #[.int .i64 m1, .slice B1 t1.length d1] 38)).alloc (.cells #[.int .i64 m3, .slice B3 t3.length d3] 33)).alloc (.cells #[.int .i64 0, .slice none 0 0] 33)) = W0 at *
  have hb5 : Has (W0.alloc (.cells #[.int .i64 m4] 2)) (w.heap.size + 1 + 1 + 1 + 1) 2 #[.int .i64 m4] := by
    have h := Has.new W0 2 #[.int .i64 m4]
    rw [HSZ.out] at h
    exact h
  refine (HSC.out _ (w.heap.size + 1 + 1 + 1 + 1) (HE0.out.alloc _) hb5).mono ?_
  clear hb5
  rintro e W1 ⟨rfl, he1⟩
  have HX1 := Lib.hid ((Ex.new W0 (.cells #[.int .i64 m4] 2)).trans he1)
  have HE1 := Lib.hid (HE0.out.trans HX1.out)
  clear he1 k0 k1 k1' k2 k2'
  have HBR := Lib.hid (HB3.out.ex HX1.out)
  have c4 := HBR.out.cell 0
  have c4' := HBR.out.cell 1
  have f4 := HBR.out.free 0
  have f4' := HBR.out.free 1
  go_wp2_with fail
  have H4 := HBR.out.put2 (u := .int .i64 0) (v := .slice none 0 0)
  have c4 := H4.cell 0
  have c4' := H4.cell 1
  refine bodyPost_ret (v := .tuple #[.agg #[.int .i64 0, .slice none 0 0], .int .i64 z]) (by simp [results, Tryz.results29, go_sem, c4, c4']) rfl (SqS.err HQ.out rfl ((HE1.out.setCell (by show w.heap.size ≤ w.heap.size + 1 + 1 + 1; omega) _).setCell (by show w.heap.size ≤ w.heap.size + 1 + 1 + 1; omega) _))

set_option maxRecDepth 100000 in
set_option maxHeartbeats 8000000 in
theorem implCJ_yes (t0 : List (List Int)) (M : Nat) (t1 t2 : List Int) (d : Nat) (t3 : List Int) (k : Nat) (B0 : Option Addr) (d0 : Nat) (B1 : Option Addr) (d1 : Nat) (B2 : Option Addr) (d2 : Nat) (B3 : Option Addr) (d3 : Nat) (w : World) (hR : RwsW w B0 t0) (hU : IntsW w B1 t1) (hX : IntsW w B2 t2) (hF : IntsW w B3 t3) (hs : SmallT t0) (hu : t1.length ≤ 1048576) (hx : t2.length ≤ 1048576) (hf : t3.length ≤ 1048576) (hT : TabL w) (hz : scC t0 (M : Int) t1 t2 (d : Int) t3 [(k : Int)] = 0) (hMF : ModF t0 M t1) (hsx : SubX t0 t2) (hk : k < t0.length) (hd3 : d ≤ 3) (hlen : t3.length = cellsN t2.length d) (hfr : InR M t3) :
    Calls Tryz.prog 29 #[.agg #[.slice B0 t0.length d0], .agg #[.int .i64 (M : Int), .slice B1 t1.length d1], .slice B2 t2.length d2, .agg #[.int .i64 (d : Int), .slice B3 t3.length d3], .int .i64 (k : Int)] w (SqS (qConjugateCochain0 t0 (M : Int) t1 t2 (d : Int) t3 (k : Int)) (yConjugateCochain0 t0 (M : Int) t1 t2 (d : Int) t3 (k : Int)) (qConjugateCochain1 t0 (M : Int) t1 t2 (d : Int) t3 (k : Int)) w) := by
  have e0 : Ex w ((((w.alloc (.cells #[.slice B0 t0.length d0] 36)).alloc (.cells #[.int .i64 (M : Int), .slice B1 t1.length d1] 38)).alloc (.cells #[.int .i64 (d : Int), .slice B3 t3.length d3] 33)).alloc (.cells #[.int .i64 0, .slice none 0 0] 33)) := ((((Ex.refl w).alloc _).alloc _).alloc _).alloc _
  have b0 : Has ((((w.alloc (.cells #[.slice B0 t0.length d0] 36)).alloc (.cells #[.int .i64 (M : Int), .slice B1 t1.length d1] 38)).alloc (.cells #[.int .i64 (d : Int), .slice B3 t3.length d3] 33)).alloc (.cells #[.int .i64 0, .slice none 0 0] 33)) (w.heap.size) 36 #[.slice B0 t0.length d0] := ((((Has.newAt (w := w) (e := 36) (cs := #[.slice B0 t0.length d0]) (k := w.heap.size) (by simp)).alloc _).alloc _).alloc _)
  have b1 : Has ((((w.alloc (.cells #[.slice B0 t0.length d0] 36)).alloc (.cells #[.int .i64 (M : Int), .slice B1 t1.length d1] 38)).alloc (.cells #[.int .i64 (d : Int), .slice B3 t3.length d3] 33)).alloc (.cells #[.int .i64 0, .slice none 0 0] 33)) (w.heap.size + 1) 38 #[.int .i64 (M : Int), .slice B1 t1.length d1] := (((Has.newAt (w := (w.alloc (.cells #[.slice B0 t0.length d0] 36))) (e := 38) (cs := #[.int .i64 (M : Int), .slice B1 t1.length d1]) (k := w.heap.size + 1) (by simp)).alloc _).alloc _)
  have b2 : Has ((((w.alloc (.cells #[.slice B0 t0.length d0] 36)).alloc (.cells #[.int .i64 (M : Int), .slice B1 t1.length d1] 38)).alloc (.cells #[.int .i64 (d : Int), .slice B3 t3.length d3] 33)).alloc (.cells #[.int .i64 0, .slice none 0 0] 33)) (w.heap.size + 1 + 1) 33 #[.int .i64 (d : Int), .slice B3 t3.length d3] := ((Has.newAt (w := ((w.alloc (.cells #[.slice B0 t0.length d0] 36)).alloc (.cells #[.int .i64 (M : Int), .slice B1 t1.length d1] 38))) (e := 33) (cs := #[.int .i64 (d : Int), .slice B3 t3.length d3]) (k := w.heap.size + 1 + 1) (by simp)).alloc _)
  have b3 : Has ((((w.alloc (.cells #[.slice B0 t0.length d0] 36)).alloc (.cells #[.int .i64 (M : Int), .slice B1 t1.length d1] 38)).alloc (.cells #[.int .i64 (d : Int), .slice B3 t3.length d3] 33)).alloc (.cells #[.int .i64 0, .slice none 0 0] 33)) (w.heap.size + 1 + 1 + 1) 33 #[.int .i64 0, .slice none 0 0] := (Has.newAt (w := (((w.alloc (.cells #[.slice B0 t0.length d0] 36)).alloc (.cells #[.int .i64 (M : Int), .slice B1 t1.length d1] 38)).alloc (.cells #[.int .i64 (d : Int), .slice B3 t3.length d3] 33))) (e := 33) (cs := #[.int .i64 0, .slice none 0 0]) (k := w.heap.size + 1 + 1 + 1) (by simp))
  have HSC := Lib.hid (fun W kb (he : Ex w W) (hk : Has W kb 2 #[.int .i64 (k : Int)]) => subgroupCochainCode_any B0 B1 B2 B3 (some ⟨kb, 0, none⟩) t0 (M : Int) t1 t2 (d : Int) t3 [(k : Int)] d0 d1 d2 d3 1 W (hR.ex he) (hU.ex he) (hX.ex he) (hF.ex he) (.inr ⟨_, 0, rfl, hk.lt, fun j hj => by obtain rfl : j = 0 := (by simp at hj; exact hj); exact hk.cell 0⟩) hs hu hx hf (by simp) (hT.ex he))
  simp only [List.length_cons, List.length_nil] at HSC
  rw [hz] at HSC
  have HQ := Lib.hid (cj_yes hz)
  have hcl := cjL_len hsx hk
  have hcs := cjL_sub hsx hk
  have HCE := Lib.hid (fun W (he : Ex w W) => conjugateElements_any B0 B2 t0 t2 d0 d2 k W (hR.ex he) (hX.ex he) hsx.g (fun i hi => hsx.rng hi) hx hk (hT.ex he))
  have HI1 := Lib.hid (fun W C e (he : Ex w W) (hc : IntsW W C (cjL t0 t2 k)) => inclusionOf_any B0 C t0 (cjL t0 t2 k) d0 e W (hR.ex he) hc hcs)
  have HI2 := Lib.hid (fun W (he : Ex w W) => inclusionOf_any B0 B2 t0 t2 d0 d2 W (hR.ex he) (hX.ex he) hsx)
  have HIV := Lib.hid (fun W (he : Ex w W) => inverseOf_any B0 t0 d0 k W (hR.ex he) hsx.g hk)
  have hb := (iv_spec hsx.g hk).1
  have HCA := Lib.hid (fun (W : World) (C : Option Addr) (e R R' : Nat) (he : Ex w W) (hc : IntsW W C (cjL t0 t2 k)) => cochainAlong_any 91 (.agg #[.slice (some ⟨R, 0, none⟩) (cjL t0 t2 k).length (cjL t0 t2 k).length, .slice B0 t0.length d0, .slice C (cjL t0 t2 k).length e, .slice (some ⟨R', 0, none⟩) t2.length t2.length, .slice B0 t0.length d0, .slice B2 t2.length d2, .int .i64 (iv t0 k : Int)]) 169 170 168 (some ⟨R, 0, none⟩) (some ⟨R', 0, none⟩) B3 (cjL t0 t2 k).length t2.length d (fun x => (cjV t0 t2 k x : Int)) t3 (cjL t0 t2 k).length t2.length d3 W (fun w => meth_csource 281 _ w) (fun w => meth_ctarget 281 _ w) (fun w => meth_cimage 281 _ w) (enters_of Tryz.func169 (by kernel_rfl) rfl) (enters_of Tryz.func170 (by kernel_rfl) rfl) (enters_of Tryz.func168 (by kernel_rfl) rfl) (fun W' _ => cjgSource_any (some ⟨R, 0, none⟩) B0 C (some ⟨R', 0, none⟩) B0 B2 (cjL t0 t2 k).length (cjL t0 t2 k).length t0.length d0 (cjL t0 t2 k).length e t2.length t2.length t0.length d0 t2.length d2 (iv t0 k : Int) W') (fun W' _ => cjgTarget_any (some ⟨R, 0, none⟩) B0 C (some ⟨R', 0, none⟩) B0 B2 (cjL t0 t2 k).length (cjL t0 t2 k).length t0.length d0 (cjL t0 t2 k).length e t2.length t2.length t0.length d0 t2.length d2 (iv t0 k : Int) W') (fun W' he' x hx' => cjgImage_any (some ⟨R, 0, none⟩) B0 C (some ⟨R', 0, none⟩) B2 (cjL t0 t2 k).length (cjL t0 t2 k).length d0 e t2.length t2.length d2 (iv t0 k) x (xN (cjL t0 t2 k) x) t0 t2 (cjL t0 t2 k) W' (hR.ex (he.trans he')) hsx (hX.ex (he.trans he')) (hc.ex he') hcs.len8 hx' (hcs.nat hx').1 (hcs.nat hx').2 hb (cjL_back hsx hk (by omega))) (hF.ex he) hcs.len8 hcs.pos hsx.len8 hsx.pos hd3 (fun x hx' => by have := cjV_lt hsx hk (show x < t2.length by omega); omega) hlen)
  rw [hcl] at HCE HI1 HCA
  have hgr : InR M (pbY (fun x => (cjV t0 t2 k x : Int)) t3 t2.length t2.length d) := pbY_inM (by have := hMF.m2; omega) (fun x hx' => by have := cjV_lt hsx hk hx'; omega) hlen hfr
  have HGL := Lib.hid (pbY_len (fun x => (cjV t0 t2 k x : Int)) t3 t2.length t2.length d)
  have hgl : (pbY (fun x => (cjV t0 t2 k x : Int)) t3 t2.length t2.length d).length ≤ 1048576 := by rw [pbY_len]; have := cellsN_le hsx.len8 (show d ≤ 4 by omega); omega
  have hul := hMF.len
  have hg8 := hsx.g.n8
  have HLD := Lib.hid (fun (W : World) (F' : Option Addr) (c' : Nat) (he : Ex w W) (hF' : IntsW W F' (pbY (fun x => (cjV t0 t2 k x : Int)) t3 t2.length t2.length d)) => ledCochain_any B1 F' M d k t1 (pbY (fun x => (cjV t0 t2 k x : Int)) t3 t2.length t2.length d) d1 c' W (hU.ex he) hF' hMF.m2 hMF.m12 (by omega) hMF.rng (by omega) hgr hgl)
  obtain ⟨gs, hgs⟩ : ∃ gs, pbY (fun x => (cjV t0 t2 k x : Int)) t3 t2.length t2.length d = gs := ⟨_, rfl⟩
  rw [hgs] at HQ HCA HLD HGL
  rw [← HGL.out] at HCA
  obtain ⟨zs, hzs⟩ : ∃ zs, ledY M (nth t1 k) gs = zs := ⟨_, rfl⟩
  rw [hzs] at HQ HLD
  obtain ⟨ys, hys⟩ : ∃ ys, cjL t0 t2 k = ys := ⟨_, rfl⟩
  rw [hys] at HCE HI1 HCA
  obtain ⟨b, hbb⟩ : ∃ b, iv t0 k = b := ⟨_, rfl⟩
  rw [hbb] at HIV HCA
  have HE0 := Lib.hid e0
  have HSZ : Hid (((((w.alloc (.cells #[.slice B0 t0.length d0] 36)).alloc (.cells #[.int .i64 (M : Int), .slice B1 t1.length d1] 38)).alloc (.cells #[.int .i64 (d : Int), .slice B3 t3.length d3] 33)).alloc (.cells #[.int .i64 0, .slice none 0 0] 33)).heap.size = w.heap.size + 1 + 1 + 1 + 1) := Lib.hid (by simp)
  have HB0 := Lib.hid b0
  have HB1 := Lib.hid b1
  have HB2 := Lib.hid b2
  have HB3 := Lib.hid b3
  have k0 := b0.cell 0
  have k1 := b1.cell 0
  have k1' := b1.cell 1
  have k2 := b2.cell 0
  have k2' := b2.cell 1
  clear b0 b1 b2 b3 e0
  clear hz hMF hsx hk hd3 hlen hfr hR hU hX hF hs hu hx hf hT hcl hcs hb hgr HGL hgl hul hg8 hgs hzs hys hbb
  go_enter Tryz.func29, Tryz.ntmps29
  go_wp2_with fail
  generalize ((((w.alloc (.cells #[.slice B0 t0.length d0] 36)).alloc (.cells #[.int .i64 (M : Int), .slice B1 t1.length d1] 38)).alloc (.cells #[.int .i64 (d : Int), .slice B3 t3.length d3] 33)).alloc (.cells #[.int .i64 0, .slice none 0 0] 33)) = W0 at *
  have hb5 : Has (W0.alloc (.cells #[.int .i64 (k : Int)] 2)) (w.heap.size + 1 + 1 + 1 + 1) 2 #[.int .i64 (k : Int)] := by
    have h := Has.new W0 2 #[.int .i64 (k : Int)]
    rw [HSZ.out] at h
    exact h
  refine (HSC.out _ (w.heap.size + 1 + 1 + 1 + 1) (HE0.out.alloc _) hb5).mono ?_
  clear hb5
  rintro e W1 ⟨rfl, he1⟩
  have HX1 := Lib.hid ((Ex.new W0 (.cells #[.int .i64 (k : Int)] 2)).trans he1)
  have HE1 := Lib.hid (HE0.out.trans HX1.out)
  clear he1 k0 k1 k1' k2 k2'
  have HB01 := Lib.hid (HB0.out.ex HX1.out)
  have HB11 := Lib.hid (HB1.out.ex HX1.out)
  have HB21 := Lib.hid (HB2.out.ex HX1.out)
  have HB31 := Lib.hid (HB3.out.ex HX1.out)
  have HCF := Lib.hid (fun (W : World) (he : Ex W1 W) => (HB01.out.ex he).cell 0)
  go_wp2_with fail
  have hC0 := HCF.out W1 (Ex.refl _)
  refine Late.region (C := fun w' => w'.cell? ⟨w.heap.size, 0, none⟩ = some (.slice B0 t0.length d0)) (fun _ => true) (by kernel_rfl) hC0 (fun hC => ?_)
  refine Late.take (i := 0) (oi := _) (v := ?_) rfl (by kernel_rfl) (by kernel_rfl) (by kernel_rfl) (by kernel_rfl) (fun _ _ _ h => h) (Or.inl ⟨by rfl, ?_⟩) hC ?_
  rotate_left
  · (intro w hSw; (try dsimp only at hSw); go_simp; first | done | with_reducible rfl)
  simp only [Act.put]
  refine Late.take (i := 1) (oi := _) (v := ?_) rfl (by kernel_rfl) (by kernel_rfl) (by kernel_rfl) (by kernel_rfl) (fun _ _ _ h => h) (Or.inl ⟨by rfl, ?_⟩) hC ?_
  rotate_left
  · (intro w hSw; (try dsimp only at hSw); go_simp; first | done | with_reducible rfl)
  simp only [Act.put]
  refine Late.take (i := 2) (oi := _) (v := ?_) rfl (by kernel_rfl) (by kernel_rfl) (by kernel_rfl) (by kernel_rfl) (fun _ _ _ h => h) (Or.inl ⟨by rfl, ?_⟩) hC ?_
  rotate_left
  · (intro w hSw; (try dsimp only at hSw); go_simp; first | done | with_reducible rfl)
  simp only [Act.put]
  refine Late.take (i := 3) (oi := _) (v := ?_) rfl (by kernel_rfl) (by kernel_rfl) (by kernel_rfl) (by kernel_rfl) (fun _ _ _ h => h) (Or.inl ⟨by rfl, ?_⟩) hC ?_
  rotate_left
  · (intro w hSw; (try dsimp only at hSw); go_simp; first | done | with_reducible rfl)
  simp only [Act.put]
  refine Late.take (i := 6) (oi := _) (v := ?_) rfl (by kernel_rfl) (by kernel_rfl) (by kernel_rfl) (by kernel_rfl) (fun _ _ _ h => h) (Or.inl ⟨by rfl, ?_⟩) hC ?_
  rotate_left
  · (intro w hSw; (try dsimp only at hSw); go_simp; first | done | with_reducible rfl)
  simp only [Act.put]
  refine Late.take (i := 7) (oi := _) (v := ?_) rfl (by kernel_rfl) (by kernel_rfl) (by kernel_rfl) (by kernel_rfl) (fun _ _ _ h => h) (Or.inl ⟨by rfl, ?_⟩) hC ?_
  rotate_left
  · (intro w hSw; (try dsimp only at hSw); go_simp; first | done | with_reducible rfl)
  simp only [Act.put]
  refine Late.take (i := 9) (oi := _) (v := ?_) rfl (by kernel_rfl) (by kernel_rfl) (by kernel_rfl) (by kernel_rfl) (fun _ _ _ h => h) (Or.inl ⟨by rfl, ?_⟩) hC ?_
  rotate_left
  · (intro w hSw; (try dsimp only at hSw); go_simp; first | done | with_reducible rfl)
  simp only [Act.put]
  refine Late.take (i := 10) (oi := _) (v := ?_) rfl (by kernel_rfl) (by kernel_rfl) (by kernel_rfl) (by kernel_rfl) (fun _ _ _ h => h) (Or.inl ⟨by rfl, ?_⟩) hC ?_
  rotate_left
  · (intro w hSw; (try dsimp only at hSw); go_simp; first | done | with_reducible rfl)
  simp only [Act.put]
  clear hC hC0
  refine late_start (SS := fun (a0 : Act) (ds : Array Bool) (a : Act) (w' : World) => ∃ (v29 v30 v33 v36 v37 v13 : Value) (C0 : Option Addr) (e0 lo hi D : Nat), a = ((((((a0.put (some 29) v29).put (some 30) v30).put (some 33) v33).put (some 36) v36).put (some 37) v37).put (some 13) v13) ∧ (ds.getD 0 true = true ∧ ds.getD 1 true = true ∧ ds.getD 2 true = true ∧ ds.getD 3 true = true ∧ ds.getD 6 true = true ∧ ds.getD 7 true = true ∧ ds.getD 9 true = true ∧ ds.getD 10 true = true) ∧ Ex W1 w' ∧ (ds.getD 4 true = true → v29 = .slice C0 t2.length e0 ∧ OwnL w' lo hi C0 ys) ∧ (ds.getD 5 true = true → ds.getD 4 true = true ∧ ∃ R : Nat, v30 = .agg #[.slice (some ⟨R, 0, none⟩) t2.length t2.length, .slice B0 t0.length d0, .slice C0 t2.length e0]) ∧ (ds.getD 8 true = true → ∃ R : Nat, v33 = .agg #[.slice (some ⟨R, 0, none⟩) t2.length t2.length, .slice B0 t0.length d0, .slice B2 t2.length d2]) ∧ (ds.getD 11 true = true → v36 = .int .i64 (b : Int)) ∧ (ds.getD 12 true = true → ds.getD 4 true = true ∧ ∃ R R' : Nat, v37 = .agg #[.slice (some ⟨R, 0, none⟩) t2.length t2.length, .slice B0 t0.length d0, .slice C0 t2.length e0, .slice (some ⟨R', 0, none⟩) t2.length t2.length, .slice B0 t0.length d0, .slice B2 t2.length d2, .int .i64 (b : Int)]) ∧ (ds.getD 13 true = true → v13 = .pointer (some ⟨D, 0, none⟩) ∧ W1.heap.size ≤ D ∧ D < w'.heap.size ∧ (ds.getD 14 true = false → Has w' D 91 #[.slice none 0 0, .slice none 0 0, .slice none 0 0, .slice none 0 0, .slice none 0 0, .slice none 0 0, .int .i64 0]) ∧ (ds.getD 4 true = true → D < lo ∨ hi ≤ D)) ∧ (ds.getD 14 true = true → ds.getD 4 true = true ∧ ds.getD 13 true = true ∧ ∃ R R' : Nat, Has w' D 91 #[.slice (some ⟨R, 0, none⟩) t2.length t2.length, .slice B0 t0.length d0, .slice C0 t2.length e0, .slice (some ⟨R', 0, none⟩) t2.length t2.length, .slice B0 t0.length d0, .slice B2 t2.length d2, .int .i64 (b : Int)])) (by kernel_rfl) ?h0 (by rfl) (by decide) ?hC ?hend ?hstep
  case h0 => exact ⟨undef, undef, undef, undef, undef, undef, none, 0, 0, 0, 0, by go_simp, ⟨by decide, by decide, by decide, by decide, by decide, by decide, by decide, by decide⟩, (Ex.refl W1).drew, fun hb => absurd hb (by decide), fun hb => absurd hb (by decide), fun hb => absurd hb (by decide), fun hb => absurd hb (by decide), fun hb => absurd hb (by decide), fun hb => absurd hb (by decide), fun hb => absurd hb (by decide)⟩
  case hC =>
    rintro ds a w' ⟨v29, v30, v33, v36, v37, v13, C0, e0, lo, hi, D, rfl, ⟨hd0, hd1, hd2, hd3, hd6, hd7, hd9, hd10⟩, hE, f4, f5, f8, f11, f12, f13, f14⟩
    exact HCF.out w' hE
  case hstep =>
    rintro ds a w' ⟨v29, v30, v33, v36, v37, v13, C0, e0, lo, hi, D, rfl, ⟨hd0, hd1, hd2, hd3, hd6, hd7, hd9, hd10⟩, hE, f4, f5, f8, f11, f12, f13, f14⟩ j oj hoj hu hall
    have hjn : j < 15 := (Array.getElem?_eq_some_iff.1 hoj).1
    rcases (by omega : j = 0 ∨ j = 1 ∨ j = 2 ∨ j = 3 ∨ j = 6 ∨ j = 7 ∨ j = 9 ∨ j = 10 ∨ j = 4 ∨ j = 5 ∨ j = 8 ∨ j = 11 ∨ j = 12 ∨ j = 13 ∨ j = 14) with rfl | rfl | rfl | rfl | rfl | rfl | rfl | rfl | rfl | rfl | rfl | rfl | rfl | rfl | rfl
    · rw [hd0] at hu; cases hu
    · rw [hd1] at hu; cases hu
    · rw [hd2] at hu; cases hu
    · rw [hd3] at hu; cases hu
    · rw [hd6] at hu; cases hu
    · rw [hd7] at hu; cases hu
    · rw [hd9] at hu; cases hu
    · rw [hd10] at hu; cases hu
    · obtain rfl := Option.some.inj hoj
      clear hall
      refine wpOp_step rfl fun K' hK' => ?_
      have hK := Lib.hid hK'
      clear hK'
      rw [if_pos (by rfl)]
      try simp only [Act.put]
      go_simp
      refine (HCE.out w' (HE1.out.trans hE)).mono ?_
      rintro e w2 ⟨C0', e0', rfl, hv, ho⟩
      refine hK.out _ _ ⟨_, v30, v33, v36, v37, v13, C0', e0', w'.heap.size, w2.heap.size, D, by go_simp, ⟨bt_keep hd0, bt_keep hd1, bt_keep hd2, bt_keep hd3, bt_keep hd6, bt_keep hd7, bt_keep hd9, bt_keep hd10⟩, hE.trans hv, fun _ => ⟨rfl, ho⟩, fun hb => absurd (f5 (bt_old hb (by decide : (5 : Nat) ≠ 4))).1 (by rw [hu]; decide), fun hb => f8 (bt_old hb (by decide : (8 : Nat) ≠ 4)), fun hb => f11 (bt_old hb (by decide : (11 : Nat) ≠ 4)), fun hb => absurd (f12 (bt_old hb (by decide : (12 : Nat) ≠ 4))).1 (by rw [hu]; decide), fun hb => let ⟨e, l, lt, hh, _⟩ := f13 (bt_old hb (by decide : (13 : Nat) ≠ 4)); ⟨e, l, Nat.lt_of_lt_of_le lt hv.size, fun hn => (hh (bt_no hn)).ex hv, fun _ => .inl lt⟩, fun hb => absurd (f14 (bt_old hb (by decide : (14 : Nat) ≠ 4))).1 (by rw [hu]; decide)⟩
    · obtain rfl := Option.some.inj hoj
      have h4 := hall ⟨4, .data⟩ (by simp) rfl
      obtain ⟨rfl, ho4⟩ := f4 h4
      clear hall
      refine wpOp_step rfl fun K' hK' => ?_
      have hK := Lib.hid hK'
      clear hK'
      rw [if_pos (by rfl)]
      try simp only [Act.put]
      go_simp
      refine (HI1.out w' C0 e0 (HE1.out.trans hE) ho4.ints).mono ?_
      rintro e w2 ⟨G, R, rfl, hv, -, -, -, -⟩
      refine hK.out _ _ ⟨_, _, v33, v36, v37, v13, C0, e0, lo, hi, D, by go_simp, ⟨bt_keep hd0, bt_keep hd1, bt_keep hd2, bt_keep hd3, bt_keep hd6, bt_keep hd7, bt_keep hd9, bt_keep hd10⟩, hE.trans hv, fun _ => ⟨rfl, ho4.ex hv⟩, fun _ => ⟨bt_keep h4, R, rfl⟩, fun hb => f8 (bt_old hb (by decide : (8 : Nat) ≠ 5)), fun hb => f11 (bt_old hb (by decide : (11 : Nat) ≠ 5)), fun hb => let ⟨h, R, R', e⟩ := f12 (bt_old hb (by decide : (12 : Nat) ≠ 5)); ⟨bt_keep h, R, R', e⟩, fun hb => let ⟨e, l, lt, hh, hr⟩ := f13 (bt_old hb (by decide : (13 : Nat) ≠ 5)); ⟨e, l, Nat.lt_of_lt_of_le lt (Ex.size hv), fun hn => (hh (bt_no hn)).ex hv, fun hb => hr (bt_old hb (by decide : (4 : Nat) ≠ 5))⟩, fun hb => let ⟨h, h', R, R', hh⟩ := f14 (bt_old hb (by decide : (14 : Nat) ≠ 5)); ⟨bt_keep h, bt_keep h', R, R', hh.ex hv⟩⟩
    · obtain rfl := Option.some.inj hoj
      clear hall
      refine wpOp_step rfl fun K' hK' => ?_
      have hK := Lib.hid hK'
      clear hK'
      rw [if_pos (by rfl)]
      try simp only [Act.put]
      go_simp
      refine (HI2.out w' (HE1.out.trans hE)).mono ?_
      rintro e w2 ⟨G, R, rfl, hv, -, -, -, -⟩
      refine hK.out _ _ ⟨v29, v30, _, v36, v37, v13, C0, e0, lo, hi, D, by go_simp, ⟨bt_keep hd0, bt_keep hd1, bt_keep hd2, bt_keep hd3, bt_keep hd6, bt_keep hd7, bt_keep hd9, bt_keep hd10⟩, hE.trans hv, fun hb => let ⟨e, o⟩ := f4 (bt_old hb (by decide : (4 : Nat) ≠ 8)); ⟨e, o.ex hv⟩, fun hb => let ⟨h, R, e⟩ := f5 (bt_old hb (by decide : (5 : Nat) ≠ 8)); ⟨bt_keep h, R, e⟩, fun _ => ⟨R, rfl⟩, fun hb => f11 (bt_old hb (by decide : (11 : Nat) ≠ 8)), fun hb => let ⟨h, R, R', e⟩ := f12 (bt_old hb (by decide : (12 : Nat) ≠ 8)); ⟨bt_keep h, R, R', e⟩, fun hb => let ⟨e, l, lt, hh, hr⟩ := f13 (bt_old hb (by decide : (13 : Nat) ≠ 8)); ⟨e, l, Nat.lt_of_lt_of_le lt (Ex.size hv), fun hn => (hh (bt_no hn)).ex hv, fun hb => hr (bt_old hb (by decide : (4 : Nat) ≠ 8))⟩, fun hb => let ⟨h, h', R, R', hh⟩ := f14 (bt_old hb (by decide : (14 : Nat) ≠ 8)); ⟨bt_keep h, bt_keep h', R, R', hh.ex hv⟩⟩
    · obtain rfl := Option.some.inj hoj
      clear hall
      refine wpOp_step rfl fun K' hK' => ?_
      have hK := Lib.hid hK'
      clear hK'
      rw [if_pos (by rfl)]
      try simp only [Act.put]
      go_simp
      refine (HIV.out w' (HE1.out.trans hE)).mono ?_
      rintro e w2 ⟨rfl, hv⟩
      refine hK.out _ _ ⟨v29, v30, v33, _, v37, v13, C0, e0, lo, hi, D, by go_simp, ⟨bt_keep hd0, bt_keep hd1, bt_keep hd2, bt_keep hd3, bt_keep hd6, bt_keep hd7, bt_keep hd9, bt_keep hd10⟩, hE.trans hv, fun hb => let ⟨e, o⟩ := f4 (bt_old hb (by decide : (4 : Nat) ≠ 11)); ⟨e, o.ex hv⟩, fun hb => let ⟨h, R, e⟩ := f5 (bt_old hb (by decide : (5 : Nat) ≠ 11)); ⟨bt_keep h, R, e⟩, fun hb => f8 (bt_old hb (by decide : (8 : Nat) ≠ 11)), fun _ => rfl, fun hb => let ⟨h, R, R', e⟩ := f12 (bt_old hb (by decide : (12 : Nat) ≠ 11)); ⟨bt_keep h, R, R', e⟩, fun hb => let ⟨e, l, lt, hh, hr⟩ := f13 (bt_old hb (by decide : (13 : Nat) ≠ 11)); ⟨e, l, Nat.lt_of_lt_of_le lt (Ex.size hv), fun hn => (hh (bt_no hn)).ex hv, fun hb => hr (bt_old hb (by decide : (4 : Nat) ≠ 11))⟩, fun hb => let ⟨h, h', R, R', hh⟩ := f14 (bt_old hb (by decide : (14 : Nat) ≠ 11)); ⟨bt_keep h, bt_keep h', R, R', hh.ex hv⟩⟩
    · obtain rfl := Option.some.inj hoj
      have h5 := hall ⟨5, .data⟩ (by simp) rfl
      have h8 := hall ⟨8, .data⟩ (by simp) rfl
      have h11 := hall ⟨11, .data⟩ (by simp) rfl
      obtain ⟨h4, R, rfl⟩ := f5 h5
      obtain ⟨R', rfl⟩ := f8 h8
      obtain rfl := f11 h11
      clear hall
      refine wpOp_step rfl fun K' hK' => ?_
      have hK := Lib.hid hK'
      clear hK'
      rw [if_pos (by rfl)]
      try simp only [Act.put]
      go_simp
      refine hK.out _ _ ⟨v29, _, _, _, _, v13, C0, e0, lo, hi, D, by go_simp, ⟨bt_keep hd0, bt_keep hd1, bt_keep hd2, bt_keep hd3, bt_keep hd6, bt_keep hd7, bt_keep hd9, bt_keep hd10⟩, hE, fun hb => let ⟨e, o⟩ := f4 (bt_old hb (by decide : (4 : Nat) ≠ 12)); ⟨e, o.ex (Ex.refl w')⟩, fun _ => ⟨bt_keep h4, R, rfl⟩, fun _ => ⟨R', rfl⟩, fun _ => rfl, fun _ => ⟨bt_keep h4, R, R', rfl⟩, fun hb => let ⟨e, l, lt, hh, hr⟩ := f13 (bt_old hb (by decide : (13 : Nat) ≠ 12)); ⟨e, l, Nat.lt_of_lt_of_le lt (Ex.size (Ex.refl w')), fun hn => (hh (bt_no hn)).ex (Ex.refl w'), fun hb => hr (bt_old hb (by decide : (4 : Nat) ≠ 12))⟩, fun hb => let ⟨h, h', R, R', hh⟩ := f14 (bt_old hb (by decide : (14 : Nat) ≠ 12)); ⟨bt_keep h, bt_keep h', R, R', hh.ex (Ex.refl w')⟩⟩
    · obtain rfl := Option.some.inj hoj
      clear hall
      refine wpOp_step rfl fun K' hK' => ?_
      have hK := Lib.hid hK'
      clear hK'
      rw [if_pos (by rfl)]
      try simp only [Act.put]
      go_simp
      refine hK.out _ _ ⟨v29, v30, v33, v36, v37, _, C0, e0, lo, hi, w'.heap.size, by go_simp, ⟨bt_keep hd0, bt_keep hd1, bt_keep hd2, bt_keep hd3, bt_keep hd6, bt_keep hd7, bt_keep hd9, bt_keep hd10⟩, hE.alloc _, fun hb => let ⟨e, o⟩ := f4 (bt_old hb (by decide : (4 : Nat) ≠ 13)); ⟨e, o.ex (Ex.new _ _)⟩, fun hb => let ⟨h, R, e⟩ := f5 (bt_old hb (by decide : (5 : Nat) ≠ 13)); ⟨bt_keep h, R, e⟩, fun hb => f8 (bt_old hb (by decide : (8 : Nat) ≠ 13)), fun hb => f11 (bt_old hb (by decide : (11 : Nat) ≠ 13)), fun hb => let ⟨h, R, R', e⟩ := f12 (bt_old hb (by decide : (12 : Nat) ≠ 13)); ⟨bt_keep h, R, R', e⟩, fun _ => ⟨rfl, hE.size, by simp, fun _ => Has.new _ _ _, fun hb => .inr (f4 (bt_old hb (by decide : (4 : Nat) ≠ 13))).2.le⟩, fun hb => absurd (f14 (bt_old hb (by decide : (14 : Nat) ≠ 13))).2.1 (by rw [hu]; decide)⟩
    · obtain rfl := Option.some.inj hoj
      have h13 := hall ⟨13, .data⟩ (by simp) rfl
      have h12 := hall ⟨12, .data⟩ (by simp) rfl
      obtain ⟨h4, R, R', rfl⟩ := f12 h12
      obtain ⟨rfl, hDl, hDlt, hDH, hfar⟩ := f13 h13
      have hD := hDH hu
      have k0 := hD.cell 0
      have k1 := hD.cell 1
      have k2 := hD.cell 2
      have k3 := hD.cell 3
      have k4 := hD.cell 4
      have k5 := hD.cell 5
      have k6 := hD.cell 6
      have r0 := hD.free 0
      have r1 := hD.free 1
      have r2 := hD.free 2
      have r3 := hD.free 3
      have r4 := hD.free 4
      have r5 := hD.free 5
      have r6 := hD.free 6
      clear hall
      refine wpOp_step rfl fun K' hK' => ?_
      have hK := Lib.hid hK'
      clear hK'
      rw [if_pos (by rfl)]
      try simp only [Act.put]
      go_simp
      refine hK.out _ _ ⟨v29, v30, v33, v36, _, _, C0, e0, lo, hi, D, by go_simp, ⟨bt_keep hd0, bt_keep hd1, bt_keep hd2, bt_keep hd3, bt_keep hd6, bt_keep hd7, bt_keep hd9, bt_keep hd10⟩, Ex.st7 hE hDl, fun _ => let ⟨e, o⟩ := f4 h4; ⟨e, o.st7 (hfar h4)⟩, fun hb => let ⟨h, R, e⟩ := f5 (bt_old hb (by decide : (5 : Nat) ≠ 14)); ⟨bt_keep h, R, e⟩, fun hb => f8 (bt_old hb (by decide : (8 : Nat) ≠ 14)), fun hb => f11 (bt_old hb (by decide : (11 : Nat) ≠ 14)), fun _ => ⟨bt_keep h4, R, R', rfl⟩, fun _ => ⟨rfl, hDl, by rw [size_st7]; exact hDlt, fun hn => absurd hn (by rw [bt_self]; decide), fun _ => hfar h4⟩, fun _ => ⟨bt_keep h4, bt_keep h13, R, R', hD.st7⟩⟩
  case hend =>
    rintro ds a w' ⟨v29, v30, v33, v36, v37, v13, C0, e0, lo, hi, D, rfl, ⟨hd0, hd1, hd2, hd3, hd6, hd7, hd9, hd10⟩, hE, f4, f5, f8, f11, f12, f13, f14⟩ hall
    have h14 := hall 14 (by decide)
    obtain ⟨h4, h13, R, R', hD⟩ := f14 h14
    obtain ⟨rfl, hDl, -, -, -⟩ := f13 h13
    obtain ⟨-, ho⟩ := f4 h4
    have HE2 := Lib.hid (HE1.out.trans hE)
    have HP := Lib.hid hD
    have HC0 := Lib.hid ho.ints
    have HB12 := Lib.hid (HB11.out.ex hE)
    have HB22 := Lib.hid (HB21.out.ex hE)
    have HB32 := Lib.hid (HB31.out.ex hE)
    clear hall hE f4 f5 f8 f11 f12 f13 f14 h14 h4 h13 hD ho hDl hd0 hd1 hd2 hd3 hd6 hd7 hd9 hd10
    try simp only [Act.put]
    go_simp
    go_wp2_with fail
    have HCG := Lib.hid (fun (W : World) (he : Ex w' W) => And.intro ((HP.out.ex he).cell 0) (And.intro ((HP.out.ex he).cell 1) (And.intro ((HP.out.ex he).cell 2) (And.intro ((HP.out.ex he).cell 3) (And.intro ((HP.out.ex he).cell 4) (And.intro ((HP.out.ex he).cell 5) (And.intro ((HP.out.ex he).cell 6) (And.intro ((HB12.out.ex he).cell 0) (And.intro ((HB12.out.ex he).cell 1) (And.intro ((HB22.out.ex he).cell 0) ((HB22.out.ex he).cell 1)))))))))))
    have hC0 := HCG.out w' (Ex.refl _)
    refine Late.region (C := fun w' => w'.cell? ⟨D, 0, none⟩ = some (.slice (some ⟨R, 0, none⟩) t2.length t2.length) ∧ w'.cell? ⟨D, 1, none⟩ = some (.slice B0 t0.length d0) ∧ w'.cell? ⟨D, 2, none⟩ = some (.slice C0 t2.length e0) ∧ w'.cell? ⟨D, 3, none⟩ = some (.slice (some ⟨R', 0, none⟩) t2.length t2.length) ∧ w'.cell? ⟨D, 4, none⟩ = some (.slice B0 t0.length d0) ∧ w'.cell? ⟨D, 5, none⟩ = some (.slice B2 t2.length d2) ∧ w'.cell? ⟨D, 6, none⟩ = some (.int .i64 (b : Int)) ∧ w'.cell? ⟨w.heap.size + 1, 0, none⟩ = some (.int .i64 (M : Int)) ∧ w'.cell? ⟨w.heap.size + 1, 1, none⟩ = some (.slice B1 t1.length d1) ∧ w'.cell? ⟨w.heap.size + 1 + 1, 0, none⟩ = some (.int .i64 (d : Int)) ∧ w'.cell? ⟨w.heap.size + 1 + 1, 1, none⟩ = some (.slice B3 t3.length d3)) (fun j => decide (j < 7)) (by kernel_rfl) hC0 (fun hC => ?_)
    refine Late.take (i := 0) (oi := _) (v := ?_) rfl (by kernel_rfl) (by kernel_rfl) (by kernel_rfl) (by kernel_rfl) (fun _ _ _ h => h) (Or.inl ⟨by rfl, ?_⟩) hC ?_
    rotate_left
    · (intro w hSw; (try dsimp only at hSw); go_simp; first | done | with_reducible rfl)
    simp only [Act.put]
    refine Late.take (i := 1) (oi := _) (v := ?_) rfl (by kernel_rfl) (by kernel_rfl) (by kernel_rfl) (by kernel_rfl) (fun _ _ _ h => h) (Or.inl ⟨by rfl, ?_⟩) hC ?_
    rotate_left
    · (intro w hSw; (try dsimp only at hSw); go_simp; first | done | with_reducible rfl)
    simp only [Act.put]
    refine Late.take (i := 2) (oi := _) (v := ?_) rfl (by kernel_rfl) (by kernel_rfl) (by kernel_rfl) (by kernel_rfl) (fun _ _ _ h => h) (Or.inl ⟨by rfl, ?_⟩) hC ?_
    rotate_left
    · (intro w hSw; (try dsimp only at hSw); go_simp; first | done | with_reducible rfl)
    simp only [Act.put]
    refine Late.take (i := 3) (oi := _) (v := ?_) rfl (by kernel_rfl) (by kernel_rfl) (by kernel_rfl) (by kernel_rfl) (fun _ _ _ h => h) (Or.inl ⟨by rfl, ?_⟩) hC ?_
    rotate_left
    · (intro w hSw; (try dsimp only at hSw); go_simp; first | done | with_reducible rfl)
    simp only [Act.put]
    refine Late.take (i := 4) (oi := _) (v := ?_) rfl (by kernel_rfl) (by kernel_rfl) (by kernel_rfl) (by kernel_rfl) (fun _ _ _ h => h) (Or.inl ⟨by rfl, ?_⟩) hC ?_
    rotate_left
    · (intro w hSw; (try dsimp only at hSw); go_simp; first | done | with_reducible rfl)
    simp only [Act.put]
    clear hC hC0
    refine Late.one (i := 5) (o := _) (by kernel_rfl) rfl (fun K' hK' => ?_)
    go_simp
    refine (HCA.out w'.drew C0 e0 R R' HE2.out.drew (HC0.out.ex (Ex.refl w').drew)).mono ?_
    rintro e W5 ⟨A5, n5, rfl, he5, ho5⟩
    have HX5 := Lib.hid ((Ex.refl w').drew.trans he5)
    have HG5 := Lib.hid ho5.ints
    refine hK'.out _ _ (fun _ => HCG.out W5 HX5.out) (fun _ => ?_)
    clear hK' K' he5 ho5
    try simp only [Act.put, List.setIfInBounds_toArray, List.set_cons_zero, List.set_cons_succ]
    refine Late.one (i := 6) (o := _) (by kernel_rfl) rfl (fun K' hK' => ?_)
    go_simp
    refine (HLD.out W5 A5 n5 (HE2.out.trans HX5.out) HG5.out).mono ?_
    rintro e W6 ⟨A6, n6, rfl, he6, ho6⟩
    have HX6 := Lib.hid (HX5.out.trans he6)
    have HE6 := Lib.hid (HE2.out.trans HX6.out)
    have HBR := Lib.hid (HB32.out.ex HX6.out)
    have HO6 := Lib.hid ho6
    have hlt := HB32.out.lt
    have hsz := HX5.out.size
    have hsw := (HE2.out.trans HX5.out).size
    have c4 := HBR.out.cell 0
    have c4' := HBR.out.cell 1
    have f4 := HBR.out.free 0
    have f4' := HBR.out.free 1
    refine hK'.out _ _ (fun _ => HCG.out W6 HX6.out) (fun _ => ?_)
    clear hK' K' he6 ho6
    try simp only [Act.put, List.setIfInBounds_toArray, List.set_cons_zero, List.set_cons_succ]
    refine Late.one (i := 7) (o := _) (by kernel_rfl) rfl (fun K' hK' => ?_)
    go_simp
    refine hK'.out _ _ (fun h => by cases h) (fun _ => ?_)
    clear hK' K'
    try simp only [Act.put, List.setIfInBounds_toArray, List.set_cons_zero, List.set_cons_succ]
    refine Late.one (i := 8) (o := _) (by kernel_rfl) rfl (fun K' hK' => ?_)
    go_simp
    refine hK'.out _ _ (fun h => by cases h) (fun _ => ?_)
    clear hK' K'
    try simp only [Act.put, List.setIfInBounds_toArray, List.set_cons_zero, List.set_cons_succ]
    refine Late.done (by kernel_rfl) ?_ _
    go_wp2_with fail
    have H4 := HBR.out.put2 (u := .int .i64 (d : Int)) (v := .slice A6 zs.length n6)
    have c4 := H4.cell 0
    have c4' := H4.cell 1
    refine bodyPost_ret (v := .tuple #[.agg #[.int .i64 (d : Int), .slice A6 zs.length n6], .int .i64 0]) (by simp [results, Tryz.results29, go_sem, c4, c4']) rfl (SqS.of HQ.out rfl ((HE6.out.setCell (by show w.heap.size ≤ w.heap.size + 1 + 1 + 1; omega) _).setCell (by show w.heap.size ≤ w.heap.size + 1 + 1 + 1; omega) _) (((HO6.out.above (Only.set _ _ _ _) (by omega)).above (Only.set _ _ _ _) (by omega)).mono (by omega) (by simp) (Nat.le_refl _)))

theorem implConjugateCochain_ex (t0 : List (List Int)) (m1 : Int) (t1 t2 : List Int) (m3 : Int) (t3 : List Int) (m4 : Int) : ∀ (B0 : Option Addr) (d0 : Nat) (B1 : Option Addr) (d1 : Nat) (B2 : Option Addr) (d2 : Nat) (B3 : Option Addr) (d3 : Nat) (W : World), RwsW W B0 t0 → IntsW W B1 t1 → IntsW W B2 t2 → IntsW W B3 t3 → SmallT t0 → t1.length ≤ 1048576 → t2.length ≤ 1048576 → t3.length ≤ 1048576 → TabL W →
    Calls Tryz.prog 29 #[.agg #[.slice B0 t0.length d0], .agg #[.int .i64 m1, .slice B1 t1.length d1], .slice B2 t2.length d2, .agg #[.int .i64 m3, .slice B3 t3.length d3], .int .i64 m4] W (SqS (qConjugateCochain0 t0 m1 t1 t2 m3 t3 m4) (yConjugateCochain0 t0 m1 t1 t2 m3 t3 m4) (qConjugateCochain1 t0 m1 t1 t2 m3 t3 m4) W) := by
  intro B0 d0 B1 d1 B2 d2 B3 d3 w hR hU hX hF hs hu hx hf hT
  by_cases hz : scC t0 m1 t1 t2 m3 t3 [m4] = 0
  · have hz' := hz
    unfold scC at hz'
    split at hz'
    · rename_i h1
      split at hz'
      · rename_i h2
        obtain ⟨M, rfl, hMF, hsx, hbl⟩ := mgE_zero h1
        obtain ⟨k, rfl, hk⟩ := below_one hbl
        obtain ⟨h0, h3, hlen, hfr⟩ := cocB_yes h2
        obtain ⟨d, rfl⟩ : ∃ d : Nat, m3 = (d : Int) := ⟨m3.toNat, by omega⟩
        rw [Int.toNat_natCast] at hlen
        exact implCJ_yes t0 M t1 t2 d t3 k B0 d0 B1 d1 B2 d2 B3 d3 w hR hU hX hF hs hu hx hf hT hz hMF hsx hk (by omega) hlen (belowB_inR hfr)
      · cases hz'
    · rename_i h1
      exact absurd hz' h1
  · exact implCJ_err t0 m1 t1 t2 m3 t3 m4 B0 d0 B1 d1 B2 d2 B3 d3 w hR hU hX hF hs hu hx hf hT hz

end Go.Proofs.YtfnjpbjlikajbaaGreatDoor
