/- RestrictModule: paths of the specification. -/
import Derived.Test.YtdehalkebneaoaaRq
import Derived.Test.YtdehalkebneaoaaLt
namespace Go.Proofs.Ytdehalkebneaoaa
open Go.RowKit

set_option maxRecDepth 100000 in
set_option maxHeartbeats 4000000 in
theorem specRs_t (t0 t1 : List (List Int)) (t2 : List Int) (m3 : Int) (t3 : List Int) (B0 : Option Addr) (d0 : Nat) (B1 : Option Addr) (d1 : Nat) (B2 : Option Addr) (d2 : Nat) (B3 : Option Addr) (d3 : Nat) (w : World) (hR : RwsW w B0 t0) (hR' : RwsW w B1 t1) (hX : IntsW w B2 t2) (hY : IntsW w B3 t3) (hs : SmallT t0) (hs' : SmallT t1) (hx : t2.length ≤ 1048576) (hy : t3.length ≤ 1048576) (hgt : grpB t0 = false) :
    Calls Try.prog 40 #[.agg #[.slice B0 t0.length d0], .agg #[.slice B1 t1.length d1], .slice B2 t2.length d2, .agg #[.int .i64 m3, .slice B3 t3.length d3]] w (RsPost t0 t1 t2 m3 t3 w) := by
  obtain ⟨i0, hi, hi0, hi1, hi2⟩ := info_parts infoI
  have e0 : Ex w ((((w.alloc (.cells #[.slice B0 t0.length d0] 29)).alloc (.cells #[.slice B1 t1.length d1] 29)).alloc (.cells #[.int .i64 m3, .slice B3 t3.length d3] 36)).alloc (.cells #[.int .i64 0, .slice none 0 0] 36)) := ((((Ex.refl w).alloc _).alloc _).alloc _).alloc _
  have b0 : Has ((((w.alloc (.cells #[.slice B0 t0.length d0] 29)).alloc (.cells #[.slice B1 t1.length d1] 29)).alloc (.cells #[.int .i64 m3, .slice B3 t3.length d3] 36)).alloc (.cells #[.int .i64 0, .slice none 0 0] 36)) (w.heap.size) 29 #[.slice B0 t0.length d0] := ((((Has.newAt (w := w) (e := 29) (cs := #[.slice B0 t0.length d0]) (k := w.heap.size) (by simp)).alloc _).alloc _).alloc _)
  have b1 : Has ((((w.alloc (.cells #[.slice B0 t0.length d0] 29)).alloc (.cells #[.slice B1 t1.length d1] 29)).alloc (.cells #[.int .i64 m3, .slice B3 t3.length d3] 36)).alloc (.cells #[.int .i64 0, .slice none 0 0] 36)) (w.heap.size + 1) 29 #[.slice B1 t1.length d1] := (((Has.newAt (w := (w.alloc (.cells #[.slice B0 t0.length d0] 29))) (e := 29) (cs := #[.slice B1 t1.length d1]) (k := w.heap.size + 1) (by simp)).alloc _).alloc _)
  have b3 : Has ((((w.alloc (.cells #[.slice B0 t0.length d0] 29)).alloc (.cells #[.slice B1 t1.length d1] 29)).alloc (.cells #[.int .i64 m3, .slice B3 t3.length d3] 36)).alloc (.cells #[.int .i64 0, .slice none 0 0] 36)) (w.heap.size + 1 + 1) 36 #[.int .i64 m3, .slice B3 t3.length d3] := ((Has.newAt (w := ((w.alloc (.cells #[.slice B0 t0.length d0] 29)).alloc (.cells #[.slice B1 t1.length d1] 29))) (e := 36) (cs := #[.int .i64 m3, .slice B3 t3.length d3]) (k := w.heap.size + 1 + 1) (by simp)).alloc _)
  have b4 : Has ((((w.alloc (.cells #[.slice B0 t0.length d0] 29)).alloc (.cells #[.slice B1 t1.length d1] 29)).alloc (.cells #[.int .i64 m3, .slice B3 t3.length d3] 36)).alloc (.cells #[.int .i64 0, .slice none 0 0] 36)) (w.heap.size + 1 + 1 + 1) 36 #[.int .i64 0, .slice none 0 0] := (Has.newAt (w := (((w.alloc (.cells #[.slice B0 t0.length d0] 29)).alloc (.cells #[.slice B1 t1.length d1] 29)).alloc (.cells #[.int .i64 m3, .slice B3 t3.length d3] 36))) (e := 36) (cs := #[.int .i64 0, .slice none 0 0]) (k := w.heap.size + 1 + 1 + 1) (by simp))
  have HC := Lib.hid (l01Is_ex B0 t0 d0 _ (hR.ex e0) hs)
  have HQ := Lib.hid (rs_err (resR_t (u := t1) (xs := t2) (m := m3) (us := t3) hgt) (by decide))
  rw [hgt] at HC
  clear hgt
  go_enter Try.func40, Try.ntmps40
  go_wp2_with fail
  generalize ((((w.alloc (.cells #[.slice B0 t0.length d0] 29)).alloc (.cells #[.slice B1 t1.length d1] 29)).alloc (.cells #[.int .i64 m3, .slice B3 t3.length d3] 36)).alloc (.cells #[.int .i64 0, .slice none 0 0] 36)) = W0 at *
  refine HC.out.mono ?_
  rintro e W1 ⟨rfl, he1⟩
  have HB4 := Lib.hid (b4.ex he1)
  have c4 := HB4.out.cell 0
  have c4' := HB4.out.cell 1
  have f4 := HB4.out.free 0
  have f4' := HB4.out.free 1
  clear b0 b1 b3 b4
  go_wp2_with fail
  have H4 := HB4.out.put2 (u := .int .i64 0) (v := .slice none 0 0)
  have c4 := H4.cell 0
  have c4' := H4.cell 1
  refine bodyPost_ret (v := .tuple #[.agg #[.int .i64 0, .slice none 0 0], .int .i64 1]) (by simp [results, Try.results40, go_sem, c4, c4']) rfl (RsPost.of ⟨none, 0, by rw [HQ.out.1, HQ.out.2.1, HQ.out.2.2]; rfl, ((e0.trans he1).setCell (by show w.heap.size ≤ w.heap.size + 1 + 1 + 1; omega) _).setCell (by show w.heap.size ≤ w.heap.size + 1 + 1 + 1; omega) _, by rw [HQ.out.2.1]; exact OwnL.nil _ _ _ (Nat.le_refl _)⟩)

set_option maxRecDepth 100000 in
set_option maxHeartbeats 4000000 in
theorem specRs_m (t0 t1 : List (List Int)) (t2 : List Int) (m3 : Int) (t3 : List Int) (B0 : Option Addr) (d0 : Nat) (B1 : Option Addr) (d1 : Nat) (B2 : Option Addr) (d2 : Nat) (B3 : Option Addr) (d3 : Nat) (w : World) (hR : RwsW w B0 t0) (hR' : RwsW w B1 t1) (hX : IntsW w B2 t2) (hY : IntsW w B3 t3) (hs : SmallT t0) (hs' : SmallT t1) (hx : t2.length ≤ 1048576) (hy : t3.length ≤ 1048576) (hgt : grpB t0 = true) (hgm : gmB t1 m3 t3 = false) :
    Calls Try.prog 40 #[.agg #[.slice B0 t0.length d0], .agg #[.slice B1 t1.length d1], .slice B2 t2.length d2, .agg #[.int .i64 m3, .slice B3 t3.length d3]] w (RsPost t0 t1 t2 m3 t3 w) := by
  obtain ⟨i0, hi, hi0, hi1, hi2⟩ := info_parts infoI
  have e0 : Ex w ((((w.alloc (.cells #[.slice B0 t0.length d0] 29)).alloc (.cells #[.slice B1 t1.length d1] 29)).alloc (.cells #[.int .i64 m3, .slice B3 t3.length d3] 36)).alloc (.cells #[.int .i64 0, .slice none 0 0] 36)) := ((((Ex.refl w).alloc _).alloc _).alloc _).alloc _
  have b0 : Has ((((w.alloc (.cells #[.slice B0 t0.length d0] 29)).alloc (.cells #[.slice B1 t1.length d1] 29)).alloc (.cells #[.int .i64 m3, .slice B3 t3.length d3] 36)).alloc (.cells #[.int .i64 0, .slice none 0 0] 36)) (w.heap.size) 29 #[.slice B0 t0.length d0] := ((((Has.newAt (w := w) (e := 29) (cs := #[.slice B0 t0.length d0]) (k := w.heap.size) (by simp)).alloc _).alloc _).alloc _)
  have b1 : Has ((((w.alloc (.cells #[.slice B0 t0.length d0] 29)).alloc (.cells #[.slice B1 t1.length d1] 29)).alloc (.cells #[.int .i64 m3, .slice B3 t3.length d3] 36)).alloc (.cells #[.int .i64 0, .slice none 0 0] 36)) (w.heap.size + 1) 29 #[.slice B1 t1.length d1] := (((Has.newAt (w := (w.alloc (.cells #[.slice B0 t0.length d0] 29))) (e := 29) (cs := #[.slice B1 t1.length d1]) (k := w.heap.size + 1) (by simp)).alloc _).alloc _)
  have b3 : Has ((((w.alloc (.cells #[.slice B0 t0.length d0] 29)).alloc (.cells #[.slice B1 t1.length d1] 29)).alloc (.cells #[.int .i64 m3, .slice B3 t3.length d3] 36)).alloc (.cells #[.int .i64 0, .slice none 0 0] 36)) (w.heap.size + 1 + 1) 36 #[.int .i64 m3, .slice B3 t3.length d3] := ((Has.newAt (w := ((w.alloc (.cells #[.slice B0 t0.length d0] 29)).alloc (.cells #[.slice B1 t1.length d1] 29))) (e := 36) (cs := #[.int .i64 m3, .slice B3 t3.length d3]) (k := w.heap.size + 1 + 1) (by simp)).alloc _)
  have b4 : Has ((((w.alloc (.cells #[.slice B0 t0.length d0] 29)).alloc (.cells #[.slice B1 t1.length d1] 29)).alloc (.cells #[.int .i64 m3, .slice B3 t3.length d3] 36)).alloc (.cells #[.int .i64 0, .slice none 0 0] 36)) (w.heap.size + 1 + 1 + 1) 36 #[.int .i64 0, .slice none 0 0] := (Has.newAt (w := (((w.alloc (.cells #[.slice B0 t0.length d0] 29)).alloc (.cells #[.slice B1 t1.length d1] 29)).alloc (.cells #[.int .i64 m3, .slice B3 t3.length d3] 36))) (e := 36) (cs := #[.int .i64 0, .slice none 0 0]) (k := w.heap.size + 1 + 1 + 1) (by simp))
  have HC := Lib.hid (l01Is_ex B0 t0 d0 _ (hR.ex e0) hs)
  rw [hgt] at HC
  have HC2 := Lib.hid (fun (W1 : World) (he : Ex ((((w.alloc (.cells #[.slice B0 t0.length d0] 29)).alloc (.cells #[.slice B1 t1.length d1] 29)).alloc (.cells #[.int .i64 m3, .slice B3 t3.length d3] 36)).alloc (.cells #[.int .i64 0, .slice none 0 0] 36)) W1) => l02Code_ex B1 B3 t1 m3 t3 d1 d3 W1.heap.size (W1.alloc (.cells #[.int .i64 m3, .slice B3 t3.length d3] 36)) ((hR'.ex e0).ex (he.alloc _)) ((hY.ex e0).ex (he.alloc _)) hs' hy (Has.new W1 _ _))
  have HQ := Lib.hid (rs_err (resR_m (t := t0) (xs := t2) hgm) (by decide))
  rw [gmC_no hgm] at HC2
  clear hgt hgm hR hR' hX hY
  go_enter Try.func40, Try.ntmps40
  go_wp2_with fail
  generalize ((((w.alloc (.cells #[.slice B0 t0.length d0] 29)).alloc (.cells #[.slice B1 t1.length d1] 29)).alloc (.cells #[.int .i64 m3, .slice B3 t3.length d3] 36)).alloc (.cells #[.int .i64 0, .slice none 0 0] 36)) = W0 at *
  refine HC.out.mono ?_
  rintro e W1 ⟨rfl, he1⟩
  have h0 := b0.ex he1
  have h1 := b1.ex he1
  have h3 := b3.ex he1
  have h4 := b4.ex he1
  have HE1 := Lib.hid (e0.trans he1)
  have HCC := Lib.hid (HC2.out W1 he1)
  have k1 := h1.cell 0
  have k3 := h3.cell 0
  have k3' := h3.cell 1
  clear b0 b1 b3 b4 he1 e0
  go_wp2_with fail
  refine HCC.out.mono ?_
  rintro e W2 ⟨rfl, he2⟩
  clear k1 k3 k3'
  have HE2 := Lib.hid ((HE1.out.alloc _).trans he2)
  have HB0 := Lib.hid ((h0.alloc _).ex he2)
  have HB1 := Lib.hid ((h1.alloc _).ex he2)
  have HB3 := Lib.hid ((h3.alloc _).ex he2)
  have HB4 := Lib.hid ((h4.alloc _).ex he2)
  clear h0 h1 h3 h4 he2 HCC
  go_wp2_with fail
  go_loopw [10, 11] (fun cd i wr => ∃ k : Nat, k ≤ t2.length ∧ cd = .int .i64 1 ∧ i = .int .i64 (k : Int) ∧ Hid (Ex w wr) ∧ Hid (Has wr (w.heap.size + 1 + 1 + 1) 36 #[.int .i64 0, .slice none 0 0])) (fun _ _ _ => 0)
  case atStart => exact ⟨0, Nat.zero_le _, rfl, rfl, HE2, HB4⟩
  case round =>
    obtain ⟨k, hk, rfl, rfl, HE, HA4⟩ := hrel
    by_cases hlt : k < t2.length
    · skip
      have c4 := HA4.out.cell 0
      have c4' := HA4.out.cell 1
      have f4 := HA4.out.free 0
      have f4' := HA4.out.free 1
      go_wp2_with fail
      have H4 := HA4.out.put2 (u := .int .i64 0) (v := .slice none 0 0)
      have c4 := H4.cell 0
      have c4' := H4.cell 1
      refine bodyPost_ret (v := .tuple #[.agg #[.int .i64 0, .slice none 0 0], .int .i64 1]) (by simp [results, Try.results40, go_sem, c4, c4']) rfl (RsPost.of ⟨none, 0, by rw [HQ.out.1, HQ.out.2.1, HQ.out.2.2]; rfl, ((HE.out).setCell (by show w.heap.size ≤ w.heap.size + 1 + 1 + 1; omega) _).setCell (by show w.heap.size ≤ w.heap.size + 1 + 1 + 1; omega) _, by rw [HQ.out.2.1]; exact OwnL.nil _ _ _ (Nat.le_refl _)⟩)
    · skip
      have c4 := HA4.out.cell 0
      have c4' := HA4.out.cell 1
      have f4 := HA4.out.free 0
      have f4' := HA4.out.free 1
      go_wp2_with fail
      have H4 := HA4.out.put2 (u := .int .i64 0) (v := .slice none 0 0)
      have c4 := H4.cell 0
      have c4' := H4.cell 1
      refine bodyPost_ret (v := .tuple #[.agg #[.int .i64 0, .slice none 0 0], .int .i64 1]) (by simp [results, Try.results40, go_sem, c4, c4']) rfl (RsPost.of ⟨none, 0, by rw [HQ.out.1, HQ.out.2.1, HQ.out.2.2]; rfl, ((HE.out).setCell (by show w.heap.size ≤ w.heap.size + 1 + 1 + 1; omega) _).setCell (by show w.heap.size ≤ w.heap.size + 1 + 1 + 1; omega) _, by rw [HQ.out.2.1]; exact OwnL.nil _ _ _ (Nat.le_refl _)⟩)

set_option maxRecDepth 100000 in
set_option maxHeartbeats 4000000 in
theorem specRs_l (t0 t1 : List (List Int)) (t2 : List Int) (m3 : Int) (t3 : List Int) (B0 : Option Addr) (d0 : Nat) (B1 : Option Addr) (d1 : Nat) (B2 : Option Addr) (d2 : Nat) (B3 : Option Addr) (d3 : Nat) (w : World) (hR : RwsW w B0 t0) (hR' : RwsW w B1 t1) (hX : IntsW w B2 t2) (hY : IntsW w B3 t3) (hs : SmallT t0) (hs' : SmallT t1) (hx : t2.length ≤ 1048576) (hy : t3.length ≤ 1048576) (hgt : grpB t0 = true) (hgm : gmB t1 m3 t3 = true) (hlen : ¬ t2.length = t0.length) :
    Calls Try.prog 40 #[.agg #[.slice B0 t0.length d0], .agg #[.slice B1 t1.length d1], .slice B2 t2.length d2, .agg #[.int .i64 m3, .slice B3 t3.length d3]] w (RsPost t0 t1 t2 m3 t3 w) := by
  obtain ⟨i0, hi, hi0, hi1, hi2⟩ := info_parts infoI
  have e0 : Ex w ((((w.alloc (.cells #[.slice B0 t0.length d0] 29)).alloc (.cells #[.slice B1 t1.length d1] 29)).alloc (.cells #[.int .i64 m3, .slice B3 t3.length d3] 36)).alloc (.cells #[.int .i64 0, .slice none 0 0] 36)) := ((((Ex.refl w).alloc _).alloc _).alloc _).alloc _
  have b0 : Has ((((w.alloc (.cells #[.slice B0 t0.length d0] 29)).alloc (.cells #[.slice B1 t1.length d1] 29)).alloc (.cells #[.int .i64 m3, .slice B3 t3.length d3] 36)).alloc (.cells #[.int .i64 0, .slice none 0 0] 36)) (w.heap.size) 29 #[.slice B0 t0.length d0] := ((((Has.newAt (w := w) (e := 29) (cs := #[.slice B0 t0.length d0]) (k := w.heap.size) (by simp)).alloc _).alloc _).alloc _)
  have b1 : Has ((((w.alloc (.cells #[.slice B0 t0.length d0] 29)).alloc (.cells #[.slice B1 t1.length d1] 29)).alloc (.cells #[.int .i64 m3, .slice B3 t3.length d3] 36)).alloc (.cells #[.int .i64 0, .slice none 0 0] 36)) (w.heap.size + 1) 29 #[.slice B1 t1.length d1] := (((Has.newAt (w := (w.alloc (.cells #[.slice B0 t0.length d0] 29))) (e := 29) (cs := #[.slice B1 t1.length d1]) (k := w.heap.size + 1) (by simp)).alloc _).alloc _)
  have b3 : Has ((((w.alloc (.cells #[.slice B0 t0.length d0] 29)).alloc (.cells #[.slice B1 t1.length d1] 29)).alloc (.cells #[.int .i64 m3, .slice B3 t3.length d3] 36)).alloc (.cells #[.int .i64 0, .slice none 0 0] 36)) (w.heap.size + 1 + 1) 36 #[.int .i64 m3, .slice B3 t3.length d3] := ((Has.newAt (w := ((w.alloc (.cells #[.slice B0 t0.length d0] 29)).alloc (.cells #[.slice B1 t1.length d1] 29))) (e := 36) (cs := #[.int .i64 m3, .slice B3 t3.length d3]) (k := w.heap.size + 1 + 1) (by simp)).alloc _)
  have b4 : Has ((((w.alloc (.cells #[.slice B0 t0.length d0] 29)).alloc (.cells #[.slice B1 t1.length d1] 29)).alloc (.cells #[.int .i64 m3, .slice B3 t3.length d3] 36)).alloc (.cells #[.int .i64 0, .slice none 0 0] 36)) (w.heap.size + 1 + 1 + 1) 36 #[.int .i64 0, .slice none 0 0] := (Has.newAt (w := (((w.alloc (.cells #[.slice B0 t0.length d0] 29)).alloc (.cells #[.slice B1 t1.length d1] 29)).alloc (.cells #[.int .i64 m3, .slice B3 t3.length d3] 36))) (e := 36) (cs := #[.int .i64 0, .slice none 0 0]) (k := w.heap.size + 1 + 1 + 1) (by simp))
  have HC := Lib.hid (l01Is_ex B0 t0 d0 _ (hR.ex e0) hs)
  rw [hgt] at HC
  have HC2 := Lib.hid (fun (W1 : World) (he : Ex ((((w.alloc (.cells #[.slice B0 t0.length d0] 29)).alloc (.cells #[.slice B1 t1.length d1] 29)).alloc (.cells #[.int .i64 m3, .slice B3 t3.length d3] 36)).alloc (.cells #[.int .i64 0, .slice none 0 0] 36)) W1) => l02Code_ex B1 B3 t1 m3 t3 d1 d3 W1.heap.size (W1.alloc (.cells #[.int .i64 m3, .slice B3 t3.length d3] 36)) ((hR'.ex e0).ex (he.alloc _)) ((hY.ex e0).ex (he.alloc _)) hs' hy (Has.new W1 _ _))
  rw [gmC_yes hgm] at HC2
  have hlb : ((t2.length : Int) != (t0.length : Int)) = true := by simp; omega
  have HQ := Lib.hid (rs_err (resR_l hgt hgm hlen) (by decide))
  clear hgt hgm hR hR' hX hY hlen
  go_enter Try.func40, Try.ntmps40
  go_wp2_with fail
  generalize ((((w.alloc (.cells #[.slice B0 t0.length d0] 29)).alloc (.cells #[.slice B1 t1.length d1] 29)).alloc (.cells #[.int .i64 m3, .slice B3 t3.length d3] 36)).alloc (.cells #[.int .i64 0, .slice none 0 0] 36)) = W0 at *
  refine HC.out.mono ?_
  rintro e W1 ⟨rfl, he1⟩
  have h0 := b0.ex he1
  have h1 := b1.ex he1
  have h3 := b3.ex he1
  have h4 := b4.ex he1
  have HE1 := Lib.hid (e0.trans he1)
  have HCC := Lib.hid (HC2.out W1 he1)
  have k1 := h1.cell 0
  have k3 := h3.cell 0
  have k3' := h3.cell 1
  clear b0 b1 b3 b4 he1 e0
  go_wp2_with fail
  refine HCC.out.mono ?_
  rintro e W2 ⟨rfl, he2⟩
  clear k1 k3 k3'
  have HE2 := Lib.hid ((HE1.out.alloc _).trans he2)
  have HB0 := Lib.hid ((h0.alloc _).ex he2)
  have HB1 := Lib.hid ((h1.alloc _).ex he2)
  have HB3 := Lib.hid ((h3.alloc _).ex he2)
  have HB4 := Lib.hid ((h4.alloc _).ex he2)
  clear h0 h1 h3 h4 he2 HCC
  have k0 := HB0.out.cell 0
  go_wp2_with fail
  clear k0
  go_loopw [10, 11] (fun cd i wr => ∃ k : Nat, k ≤ t2.length ∧ cd = .int .i64 2 ∧ i = .int .i64 (k : Int) ∧ Hid (Ex w wr) ∧ Hid (Has wr (w.heap.size + 1 + 1 + 1) 36 #[.int .i64 0, .slice none 0 0])) (fun _ _ _ => 0)
  case atStart => exact ⟨0, Nat.zero_le _, rfl, rfl, HE2, HB4⟩
  case round =>
    obtain ⟨k, hk, rfl, rfl, HE, HA4⟩ := hrel
    by_cases hlt : k < t2.length
    · skip
      have c4 := HA4.out.cell 0
      have c4' := HA4.out.cell 1
      have f4 := HA4.out.free 0
      have f4' := HA4.out.free 1
      go_wp2_with fail
      have H4 := HA4.out.put2 (u := .int .i64 0) (v := .slice none 0 0)
      have c4 := H4.cell 0
      have c4' := H4.cell 1
      refine bodyPost_ret (v := .tuple #[.agg #[.int .i64 0, .slice none 0 0], .int .i64 2]) (by simp [results, Try.results40, go_sem, c4, c4']) rfl (RsPost.of ⟨none, 0, by rw [HQ.out.1, HQ.out.2.1, HQ.out.2.2]; rfl, ((HE.out).setCell (by show w.heap.size ≤ w.heap.size + 1 + 1 + 1; omega) _).setCell (by show w.heap.size ≤ w.heap.size + 1 + 1 + 1; omega) _, by rw [HQ.out.2.1]; exact OwnL.nil _ _ _ (Nat.le_refl _)⟩)
    · skip
      have c4 := HA4.out.cell 0
      have c4' := HA4.out.cell 1
      have f4 := HA4.out.free 0
      have f4' := HA4.out.free 1
      go_wp2_with fail
      have H4 := HA4.out.put2 (u := .int .i64 0) (v := .slice none 0 0)
      have c4 := H4.cell 0
      have c4' := H4.cell 1
      refine bodyPost_ret (v := .tuple #[.agg #[.int .i64 0, .slice none 0 0], .int .i64 2]) (by simp [results, Try.results40, go_sem, c4, c4']) rfl (RsPost.of ⟨none, 0, by rw [HQ.out.1, HQ.out.2.1, HQ.out.2.2]; rfl, ((HE.out).setCell (by show w.heap.size ≤ w.heap.size + 1 + 1 + 1; omega) _).setCell (by show w.heap.size ≤ w.heap.size + 1 + 1 + 1; omega) _, by rw [HQ.out.2.1]; exact OwnL.nil _ _ _ (Nat.le_refl _)⟩)

end Go.Proofs.Ytdehalkebneaoaa
