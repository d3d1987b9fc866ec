/- Forms of factor sets, by the program. -/
import Derived.BigQuiet
import Derived.Test.YtcdijeeabgmgmaaGreatDoorA3
import Derived.Test.YtcdijeeabgmgmaaGreatDoorA4
namespace Go.Proofs.YtcdijeeabgmgmaaGreatDoor
open Go.RowKit Go.Shelf

attribute [local go_sem] Oper.semAt_some

theorem ints_pair {w : World} {b : Nat} {x y : Int} (h : Has w b 2 #[.int .i64 x, .int .i64 y]) : IntsW w (some ⟨b, 0, none⟩) [x, y] :=
  .inr ⟨b, 0, rfl, h.lt, fun j hj => by
    rw [Nat.zero_add, h.cell j]
    match j, hj with
    | 0, _ => rfl
    | 1, _ => rfl⟩
theorem below_pair {N x y : Nat} (hx : x < N) (hy : y < N) : belowB (N : Int) [(x : Int), (y : Int)] = true := by
  simp [belowB, inB]
  omega
theorem sqA_zero (N : Nat) : (tab 64 fun _ => .int .i64 0) = sqA N fun _ _ => 0 := by
  unfold sqA
  exact tab_congr fun p _ => by split <;> rfl

set_option maxRecDepth 100000 in
set_option maxHeartbeats 1000000 in
theorem fsValue_any (B0 B2 : Option Addr) (t : List (List Int)) (M x y : Nat) (fs : List Int) (d0 d2 : Nat) (w : World) (hF : IntsW w B2 fs) (h : FacF t M fs) (hx : x < t.length) (hy : y < t.length) :
    Calls Tryz.prog 140 #[.agg #[.slice B0 t.length d0, .int .i64 (M : Int), .int .i64 2, .slice B2 fs.length d2], .int .i64 (x : Int), .int .i64 (y : Int)] w fun e w' => e = .returned (.int .i64 (vF t.length fs x y)) ∧ Ex w w' := by
  have e0 : Ex w ((w.alloc (.cells #[.slice B0 t.length d0, .int .i64 (M : Int), .int .i64 2, .slice B2 fs.length d2] 62)).alloc (.cells #[.int .i64 (x : Int), .int .i64 (y : Int)] 2)) := ((Ex.refl w).alloc _).alloc _
  have b0 : Has ((w.alloc (.cells #[.slice B0 t.length d0, .int .i64 (M : Int), .int .i64 2, .slice B2 fs.length d2] 62)).alloc (.cells #[.int .i64 (x : Int), .int .i64 (y : Int)] 2)) (w.heap.size) 62 #[.slice B0 t.length d0, .int .i64 (M : Int), .int .i64 2, .slice B2 fs.length d2] := ((Has.newAt (w := w) (e := 62) (cs := #[.slice B0 t.length d0, .int .i64 (M : Int), .int .i64 2, .slice B2 fs.length d2]) (k := w.heap.size) (by simp)).alloc _)
  have b1 : Has ((w.alloc (.cells #[.slice B0 t.length d0, .int .i64 (M : Int), .int .i64 2, .slice B2 fs.length d2] 62)).alloc (.cells #[.int .i64 (x : Int), .int .i64 (y : Int)] 2)) (w.heap.size + 1) 2 #[.int .i64 (x : Int), .int .i64 (y : Int)] := (Has.newAt (w := (w.alloc (.cells #[.slice B0 t.length d0, .int .i64 (M : Int), .int .i64 2, .slice B2 fs.length d2] 62))) (e := 2) (cs := #[.int .i64 (x : Int), .int .i64 (y : Int)]) (k := w.heap.size + 1) (by simp))
  have hn8 := h.m.g.n8
  have hn1 := h.m.g.n1
  have HV : Hid (Calls Tryz.prog 98 #[.agg #[.slice B0 t.length d0], .agg #[.int .i64 2, .slice B2 fs.length d2], .slice (some ⟨w.heap.size + 1, 0, none⟩) 2 2] ((w.alloc (.cells #[.slice B0 t.length d0, .int .i64 (M : Int), .int .i64 2, .slice B2 fs.length d2] 62)).alloc (.cells #[.int .i64 (x : Int), .int .i64 (y : Int)] 2)) fun e w' => e = .returned (.int .i64 (vF t.length fs x y)) ∧ Ex ((w.alloc (.cells #[.slice B0 t.length d0, .int .i64 (M : Int), .int .i64 2, .slice B2 fs.length d2] 62)).alloc (.cells #[.int .i64 (x : Int), .int .i64 (y : Int)] 2)) w') := Lib.hid (valueAt_yes B0 B2 (some ⟨w.heap.size + 1, 0, none⟩) 2 t.length fs [(x : Int), (y : Int)] d0 d2 2 _ (hF.ex e0) (ints_pair b1) hn8 hn1 (by omega) rfl h.len (below_pair hx hy))
  have c0 := b0.cell 0
  have c2 := b0.cell 2
  have c3 := b0.cell 3
  have HE := Lib.hid e0
  obtain ⟨v, hv⟩ : ∃ v, vF t.length fs x y = v := ⟨_, rfl⟩
  rw [hv] at HV ⊢
  clear b0 b1 e0 hF h hx hy hv
  go_enter Tryz.func140, Tryz.ntmps140
  go_wp2_with fail
  generalize ((w.alloc (.cells #[.slice B0 t.length d0, .int .i64 (M : Int), .int .i64 2, .slice B2 fs.length d2] 62)).alloc (.cells #[.int .i64 (x : Int), .int .i64 (y : Int)] 2)) = W0 at *
  refine HV.out.mono ?_
  rintro e W1 ⟨rfl, he1⟩
  have HE1 := Lib.hid (HE.out.trans he1)
  clear he1
  go_wp2_with fail
  go_ret
  exact ⟨rfl, HE1.out⟩

set_option maxRecDepth 100000 in
set_option maxHeartbeats 4000000 in
theorem dif1_any (Bs : Nat) (B0 B2 : Option Addr) (t : List (List Int)) (M x y : Nat) (fs : List Int) (d0 d2 : Nat) (w : World) (hB : Has w Bs 62 #[.slice B0 t.length d0, .int .i64 (M : Int), .int .i64 2, .slice B2 fs.length d2]) (hF : IntsW w B2 fs) (h : FacF t M fs) (hx : x < t.length) (hy : y < t.length) :
    Calls Tryz.prog 139 #[.int .i64 (x : Int), .int .i64 (y : Int), .pointer (some ⟨Bs, 0, none⟩)] w fun e w' => e = .returned (.int .i64 (dF t.length M fs x y)) ∧ Ex w w' := by
  have h2 := h.m.m2
  have h12 := h.m.m12
  have hv1 := h.v_in hx hy
  have hv2 := h.v_in hy hx
  have HV1 := Lib.hid (fun W (he : Ex w W) => fsValue_any B0 B2 t M x y fs d0 d2 W (hF.ex he) h hx hy)
  have HV2 := Lib.hid (fun W (he : Ex w W) => fsValue_any B0 B2 t M y x fs d0 d2 W (hF.ex he) h hy hx)
  have HD : Hid (dF t.length M fs x y = (vF t.length fs x y - vF t.length fs y x) % (M : Int)) := Lib.hid rfl
  have HK := Lib.hid (fun (W' : World) (he : Ex w W') => And.intro ((hB.ex he).cell 0) (And.intro ((hB.ex he).cell 1) (And.intro ((hB.ex he).cell 2) ((hB.ex he).cell 3))))
  obtain ⟨u, hu⟩ : ∃ u, vF t.length fs x y = u := ⟨_, rfl⟩
  obtain ⟨v, hv⟩ : ∃ v, vF t.length fs y x = v := ⟨_, rfl⟩
  rw [hu] at HV1 HD hv1
  rw [hv] at HV2 HD hv2
  have hws : IntKind.i64.wrap (u - v) = u - v := IntWalk.i64_in _ (by omega)
  have HR := Lib.hid (fun W => restOf_w (u - v) M W (by omega) h12 (by omega) (by omega))
  rw [HD.out]
  clear hB hF h hx hy hu hv HD hv1 hv2
  go_enter Tryz.func139, Tryz.ntmps139
  go_wp2_with fail
  have hC0 := HK.out _ (Ex.refl w).drew
  refine Late.region (C := fun w' => w'.cell? ⟨Bs, 0, none⟩ = some (.slice B0 t.length d0) ∧ w'.cell? ⟨Bs, 1, none⟩ = some (.int .i64 (M : Int)) ∧ w'.cell? ⟨Bs, 2, none⟩ = some (.int .i64 2) ∧ w'.cell? ⟨Bs, 3, none⟩ = some (.slice B2 fs.length d2)) (fun j => decide (j < 12)) (by kernel_rfl) hC0 (fun hC => ?_)
  refine Late.take (i := 0) (oi := _) (v := ?_) rfl (by kernel_rfl) (by kernel_rfl) (by kernel_rfl) (by kernel_rfl) (fun _ _ _ h => h) (Or.inl ⟨by rfl, ?_⟩) hC ?_
  rotate_left
  · (intro w hSw; (try dsimp only at hSw); go_simp; first | done | with_reducible rfl)
  simp only [Act.put]
  refine Late.take (i := 1) (oi := _) (v := ?_) rfl (by kernel_rfl) (by kernel_rfl) (by kernel_rfl) (by kernel_rfl) (fun _ _ _ h => h) (Or.inl ⟨by rfl, ?_⟩) hC ?_
  rotate_left
  · (intro w hSw; (try dsimp only at hSw); go_simp; first | done | with_reducible rfl)
  simp only [Act.put]
  refine Late.take (i := 2) (oi := _) (v := ?_) rfl (by kernel_rfl) (by kernel_rfl) (by kernel_rfl) (by kernel_rfl) (fun _ _ _ h => h) (Or.inl ⟨by rfl, ?_⟩) hC ?_
  rotate_left
  · (intro w hSw; (try dsimp only at hSw); go_simp; first | done | with_reducible rfl)
  simp only [Act.put]
  refine Late.take (i := 4) (oi := _) (v := ?_) rfl (by kernel_rfl) (by kernel_rfl) (by kernel_rfl) (by kernel_rfl) (fun _ _ _ h => h) (Or.inl ⟨by rfl, ?_⟩) hC ?_
  rotate_left
  · (intro w hSw; (try dsimp only at hSw); go_simp; first | done | with_reducible rfl)
  simp only [Act.put]
  refine Late.take (i := 5) (oi := _) (v := ?_) rfl (by kernel_rfl) (by kernel_rfl) (by kernel_rfl) (by kernel_rfl) (fun _ _ _ h => h) (Or.inl ⟨by rfl, ?_⟩) hC ?_
  rotate_left
  · (intro w hSw; (try dsimp only at hSw); go_simp; first | done | with_reducible rfl)
  simp only [Act.put]
  refine Late.take (i := 6) (oi := _) (v := ?_) rfl (by kernel_rfl) (by kernel_rfl) (by kernel_rfl) (by kernel_rfl) (fun _ _ _ h => h) (Or.inl ⟨by rfl, ?_⟩) hC ?_
  rotate_left
  · (intro w hSw; (try dsimp only at hSw); go_simp; first | done | with_reducible rfl)
  simp only [Act.put]
  refine Late.take (i := 9) (oi := _) (v := ?_) rfl (by kernel_rfl) (by kernel_rfl) (by kernel_rfl) (by kernel_rfl) (fun _ _ _ h => h) (Or.inl ⟨by rfl, ?_⟩) hC ?_
  rotate_left
  · (intro w hSw; (try dsimp only at hSw); go_simp; first | done | with_reducible rfl)
  simp only [Act.put]
  refine Late.take (i := 10) (oi := _) (v := ?_) rfl (by kernel_rfl) (by kernel_rfl) (by kernel_rfl) (by kernel_rfl) (fun _ _ _ h => h) (Or.inl ⟨by rfl, ?_⟩) hC ?_
  rotate_left
  · (intro w hSw; (try dsimp only at hSw); go_simp; first | done | with_reducible rfl)
  simp only [Act.put]
  refine Late.one (i := 3) (o := _) (by kernel_rfl) rfl (fun K' hK' => ?_)
  try rw [if_pos (by rfl)]
  go_simp
  refine (HV1.out _ (Ex.refl w).drew).mono ?_
  rintro e W1 ⟨rfl, he1⟩
  have HE1 := Lib.hid ((Ex.refl w).drew.trans he1)
  have hC1 := HK.out _ HE1.out
  refine hK'.out _ _ (fun _ => hC1) (fun _ => ?_)
  clear hK' K' hC hC0 he1
  try simp only [Act.put, List.setIfInBounds_toArray, List.set_cons_zero, List.set_cons_succ]
  refine Late.one (i := 7) (o := _) (by kernel_rfl) rfl (fun K' hK' => ?_)
  try rw [if_pos (by rfl)]
  go_simp
  refine (HV2.out _ HE1.out).mono ?_
  rintro e W2 ⟨rfl, he2⟩
  have HE2 := Lib.hid (HE1.out.trans he2)
  have hC2 := HK.out _ HE2.out
  refine hK'.out _ _ (fun _ => hC2) (fun _ => ?_)
  clear hK' K' hC1 he2
  try simp only [Act.put, List.setIfInBounds_toArray, List.set_cons_zero, List.set_cons_succ]
  refine Late.take (i := 8) (oi := _) (v := ?_) rfl (by kernel_rfl) (by kernel_rfl) (by kernel_rfl) (by kernel_rfl) (fun _ _ _ h => h) (Or.inl ⟨by rfl, ?_⟩) hC2 ?_
  rotate_left
  · (intro w hSw; (try dsimp only at hSw); go_simp; first | done | with_reducible rfl)
  simp only [Act.put]
  refine Late.one (i := 11) (o := _) (by kernel_rfl) rfl (fun K' hK' => ?_)
  try rw [if_pos (by rfl)]
  go_simp
  refine (HR.out _).mono ?_
  rintro e W3 ⟨rfl, rfl⟩
  refine hK'.out _ _ (fun _ => hC2) (fun _ => ?_)
  clear hK' K'
  try simp only [Act.put, List.setIfInBounds_toArray, List.set_cons_zero, List.set_cons_succ]
  refine Late.one (i := 12) (o := _) (by kernel_rfl) rfl (fun K' hK' => ?_)
  go_simp
  refine hK'.out _ _ (fun h => by cases h) (fun _ => ?_)
  clear hK' K'
  try simp only [Act.put, List.setIfInBounds_toArray, List.set_cons_zero, List.set_cons_succ]
  refine Late.done (by kernel_rfl) ?_ _
  go_wp2_with fail
  go_ret
  exact ⟨rfl, HE2.out⟩

set_option maxRecDepth 100000 in
set_option maxHeartbeats 2000000 in
theorem differences_any (B0 B2 : Option Addr) (t : List (List Int)) (M : Nat) (fs : List Int) (d0 d2 : Nat) (w : World) (hF : IntsW w B2 fs) (h : FacF t M fs) :
    Calls Tryz.prog 106 #[.agg #[.slice B0 t.length d0, .int .i64 (M : Int), .int .i64 2, .slice B2 fs.length d2]] w fun e w' => e = .returned (.agg (sqA t.length (dF t.length M fs))) ∧ Ex w w' := by
  have e0 : Ex w ((w.alloc (.cells #[.slice B0 t.length d0, .int .i64 (M : Int), .int .i64 2, .slice B2 fs.length d2] 62)).alloc (.cells #[.int .i64 0, .int .i64 0, .int .i64 0, .int .i64 0, .int .i64 0, .int .i64 0, .int .i64 0, .int .i64 0, .int .i64 0, .int .i64 0, .int .i64 0, .int .i64 0, .int .i64 0, .int .i64 0, .int .i64 0, .int .i64 0, .int .i64 0, .int .i64 0, .int .i64 0, .int .i64 0, .int .i64 0, .int .i64 0, .int .i64 0, .int .i64 0, .int .i64 0, .int .i64 0, .int .i64 0, .int .i64 0, .int .i64 0, .int .i64 0, .int .i64 0, .int .i64 0, .int .i64 0, .int .i64 0, .int .i64 0, .int .i64 0, .int .i64 0, .int .i64 0, .int .i64 0, .int .i64 0, .int .i64 0, .int .i64 0, .int .i64 0, .int .i64 0, .int .i64 0, .int .i64 0, .int .i64 0, .int .i64 0, .int .i64 0, .int .i64 0, .int .i64 0, .int .i64 0, .int .i64 0, .int .i64 0, .int .i64 0, .int .i64 0, .int .i64 0, .int .i64 0, .int .i64 0, .int .i64 0, .int .i64 0, .int .i64 0, .int .i64 0, .int .i64 0] 109)) := ((Ex.refl w).alloc _).alloc _
  have b0 : Has ((w.alloc (.cells #[.slice B0 t.length d0, .int .i64 (M : Int), .int .i64 2, .slice B2 fs.length d2] 62)).alloc (.cells #[.int .i64 0, .int .i64 0, .int .i64 0, .int .i64 0, .int .i64 0, .int .i64 0, .int .i64 0, .int .i64 0, .int .i64 0, .int .i64 0, .int .i64 0, .int .i64 0, .int .i64 0, .int .i64 0, .int .i64 0, .int .i64 0, .int .i64 0, .int .i64 0, .int .i64 0, .int .i64 0, .int .i64 0, .int .i64 0, .int .i64 0, .int .i64 0, .int .i64 0, .int .i64 0, .int .i64 0, .int .i64 0, .int .i64 0, .int .i64 0, .int .i64 0, .int .i64 0, .int .i64 0, .int .i64 0, .int .i64 0, .int .i64 0, .int .i64 0, .int .i64 0, .int .i64 0, .int .i64 0, .int .i64 0, .int .i64 0, .int .i64 0, .int .i64 0, .int .i64 0, .int .i64 0, .int .i64 0, .int .i64 0, .int .i64 0, .int .i64 0, .int .i64 0, .int .i64 0, .int .i64 0, .int .i64 0, .int .i64 0, .int .i64 0, .int .i64 0, .int .i64 0, .int .i64 0, .int .i64 0, .int .i64 0, .int .i64 0, .int .i64 0, .int .i64 0] 109)) (w.heap.size) 62 #[.slice B0 t.length d0, .int .i64 (M : Int), .int .i64 2, .slice B2 fs.length d2] := ((Has.newAt (w := w) (e := 62) (cs := #[.slice B0 t.length d0, .int .i64 (M : Int), .int .i64 2, .slice B2 fs.length d2]) (k := w.heap.size) (by simp)).alloc _)
  have b1 : Has ((w.alloc (.cells #[.slice B0 t.length d0, .int .i64 (M : Int), .int .i64 2, .slice B2 fs.length d2] 62)).alloc (.cells #[.int .i64 0, .int .i64 0, .int .i64 0, .int .i64 0, .int .i64 0, .int .i64 0, .int .i64 0, .int .i64 0, .int .i64 0, .int .i64 0, .int .i64 0, .int .i64 0, .int .i64 0, .int .i64 0, .int .i64 0, .int .i64 0, .int .i64 0, .int .i64 0, .int .i64 0, .int .i64 0, .int .i64 0, .int .i64 0, .int .i64 0, .int .i64 0, .int .i64 0, .int .i64 0, .int .i64 0, .int .i64 0, .int .i64 0, .int .i64 0, .int .i64 0, .int .i64 0, .int .i64 0, .int .i64 0, .int .i64 0, .int .i64 0, .int .i64 0, .int .i64 0, .int .i64 0, .int .i64 0, .int .i64 0, .int .i64 0, .int .i64 0, .int .i64 0, .int .i64 0, .int .i64 0, .int .i64 0, .int .i64 0, .int .i64 0, .int .i64 0, .int .i64 0, .int .i64 0, .int .i64 0, .int .i64 0, .int .i64 0, .int .i64 0, .int .i64 0, .int .i64 0, .int .i64 0, .int .i64 0, .int .i64 0, .int .i64 0, .int .i64 0, .int .i64 0] 109)) (w.heap.size + 1) 109 #[.int .i64 0, .int .i64 0, .int .i64 0, .int .i64 0, .int .i64 0, .int .i64 0, .int .i64 0, .int .i64 0, .int .i64 0, .int .i64 0, .int .i64 0, .int .i64 0, .int .i64 0, .int .i64 0, .int .i64 0, .int .i64 0, .int .i64 0, .int .i64 0, .int .i64 0, .int .i64 0, .int .i64 0, .int .i64 0, .int .i64 0, .int .i64 0, .int .i64 0, .int .i64 0, .int .i64 0, .int .i64 0, .int .i64 0, .int .i64 0, .int .i64 0, .int .i64 0, .int .i64 0, .int .i64 0, .int .i64 0, .int .i64 0, .int .i64 0, .int .i64 0, .int .i64 0, .int .i64 0, .int .i64 0, .int .i64 0, .int .i64 0, .int .i64 0, .int .i64 0, .int .i64 0, .int .i64 0, .int .i64 0, .int .i64 0, .int .i64 0, .int .i64 0, .int .i64 0, .int .i64 0, .int .i64 0, .int .i64 0, .int .i64 0, .int .i64 0, .int .i64 0, .int .i64 0, .int .i64 0, .int .i64 0, .int .i64 0, .int .i64 0, .int .i64 0] := (Has.newAt (w := (w.alloc (.cells #[.slice B0 t.length d0, .int .i64 (M : Int), .int .i64 2, .slice B2 fs.length d2] 62))) (e := 109) (cs := #[.int .i64 0, .int .i64 0, .int .i64 0, .int .i64 0, .int .i64 0, .int .i64 0, .int .i64 0, .int .i64 0, .int .i64 0, .int .i64 0, .int .i64 0, .int .i64 0, .int .i64 0, .int .i64 0, .int .i64 0, .int .i64 0, .int .i64 0, .int .i64 0, .int .i64 0, .int .i64 0, .int .i64 0, .int .i64 0, .int .i64 0, .int .i64 0, .int .i64 0, .int .i64 0, .int .i64 0, .int .i64 0, .int .i64 0, .int .i64 0, .int .i64 0, .int .i64 0, .int .i64 0, .int .i64 0, .int .i64 0, .int .i64 0, .int .i64 0, .int .i64 0, .int .i64 0, .int .i64 0, .int .i64 0, .int .i64 0, .int .i64 0, .int .i64 0, .int .i64 0, .int .i64 0, .int .i64 0, .int .i64 0, .int .i64 0, .int .i64 0, .int .i64 0, .int .i64 0, .int .i64 0, .int .i64 0, .int .i64 0, .int .i64 0, .int .i64 0, .int .i64 0, .int .i64 0, .int .i64 0, .int .i64 0, .int .i64 0, .int .i64 0, .int .i64 0]) (k := w.heap.size + 1) (by simp))
  have hn8 := h.m.g.n8
  have hmf : ∀ (fn : Fn) (first cap : Array Value) (w : World), (Instr.makeFunc fn first cap).run Tryz.prog w = .ok (.func fn first cap) w := fun _ _ _ _ => rfl
  have HS : Hid (Calls Tryz.prog 107 #[.agg #[.slice B0 t.length d0], .func (.func 139) #[] #[.pointer (some ⟨w.heap.size, 0, none⟩)]] ((w.alloc (.cells #[.slice B0 t.length d0, .int .i64 (M : Int), .int .i64 2, .slice B2 fs.length d2] 62)).alloc (.cells #[.int .i64 0, .int .i64 0, .int .i64 0, .int .i64 0, .int .i64 0, .int .i64 0, .int .i64 0, .int .i64 0, .int .i64 0, .int .i64 0, .int .i64 0, .int .i64 0, .int .i64 0, .int .i64 0, .int .i64 0, .int .i64 0, .int .i64 0, .int .i64 0, .int .i64 0, .int .i64 0, .int .i64 0, .int .i64 0, .int .i64 0, .int .i64 0, .int .i64 0, .int .i64 0, .int .i64 0, .int .i64 0, .int .i64 0, .int .i64 0, .int .i64 0, .int .i64 0, .int .i64 0, .int .i64 0, .int .i64 0, .int .i64 0, .int .i64 0, .int .i64 0, .int .i64 0, .int .i64 0, .int .i64 0, .int .i64 0, .int .i64 0, .int .i64 0, .int .i64 0, .int .i64 0, .int .i64 0, .int .i64 0, .int .i64 0, .int .i64 0, .int .i64 0, .int .i64 0, .int .i64 0, .int .i64 0, .int .i64 0, .int .i64 0, .int .i64 0, .int .i64 0, .int .i64 0, .int .i64 0, .int .i64 0, .int .i64 0, .int .i64 0, .int .i64 0] 109)) fun e w' => e = .returned (.agg (sqA t.length (dF t.length M fs))) ∧ Ex ((w.alloc (.cells #[.slice B0 t.length d0, .int .i64 (M : Int), .int .i64 2, .slice B2 fs.length d2] 62)).alloc (.cells #[.int .i64 0, .int .i64 0, .int .i64 0, .int .i64 0, .int .i64 0, .int .i64 0, .int .i64 0, .int .i64 0, .int .i64 0, .int .i64 0, .int .i64 0, .int .i64 0, .int .i64 0, .int .i64 0, .int .i64 0, .int .i64 0, .int .i64 0, .int .i64 0, .int .i64 0, .int .i64 0, .int .i64 0, .int .i64 0, .int .i64 0, .int .i64 0, .int .i64 0, .int .i64 0, .int .i64 0, .int .i64 0, .int .i64 0, .int .i64 0, .int .i64 0, .int .i64 0, .int .i64 0, .int .i64 0, .int .i64 0, .int .i64 0, .int .i64 0, .int .i64 0, .int .i64 0, .int .i64 0, .int .i64 0, .int .i64 0, .int .i64 0, .int .i64 0, .int .i64 0, .int .i64 0, .int .i64 0, .int .i64 0, .int .i64 0, .int .i64 0, .int .i64 0, .int .i64 0, .int .i64 0, .int .i64 0, .int .i64 0, .int .i64 0, .int .i64 0, .int .i64 0, .int .i64 0, .int .i64 0, .int .i64 0, .int .i64 0, .int .i64 0, .int .i64 0] 109)) w') := Lib.hid (squareOf_has B0 t.length d0 139 #[.pointer (some ⟨w.heap.size, 0, none⟩)] (dF t.length M fs) _ hn8 (enters_of Tryz.func139 (by kernel_rfl) rfl)
    (fun W' he x y hx hy => dif1_any w.heap.size B0 B2 t M x y fs d0 d2 W' (b0.ex he) (hF.ex (e0.trans he)) h hx hy))
  have c0 := b0.cell 0
  have HB1 := Lib.hid b1
  have HE := Lib.hid e0
  clear b0 b1 e0 hF h
  go_enter Tryz.func106, Tryz.ntmps106
  go_wp2_with fail
  generalize ((w.alloc (.cells #[.slice B0 t.length d0, .int .i64 (M : Int), .int .i64 2, .slice B2 fs.length d2] 62)).alloc (.cells #[.int .i64 0, .int .i64 0, .int .i64 0, .int .i64 0, .int .i64 0, .int .i64 0, .int .i64 0, .int .i64 0, .int .i64 0, .int .i64 0, .int .i64 0, .int .i64 0, .int .i64 0, .int .i64 0, .int .i64 0, .int .i64 0, .int .i64 0, .int .i64 0, .int .i64 0, .int .i64 0, .int .i64 0, .int .i64 0, .int .i64 0, .int .i64 0, .int .i64 0, .int .i64 0, .int .i64 0, .int .i64 0, .int .i64 0, .int .i64 0, .int .i64 0, .int .i64 0, .int .i64 0, .int .i64 0, .int .i64 0, .int .i64 0, .int .i64 0, .int .i64 0, .int .i64 0, .int .i64 0, .int .i64 0, .int .i64 0, .int .i64 0, .int .i64 0, .int .i64 0, .int .i64 0, .int .i64 0, .int .i64 0, .int .i64 0, .int .i64 0, .int .i64 0, .int .i64 0, .int .i64 0, .int .i64 0, .int .i64 0, .int .i64 0, .int .i64 0, .int .i64 0, .int .i64 0, .int .i64 0, .int .i64 0, .int .i64 0, .int .i64 0, .int .i64 0] 109)) = W0 at *
  refine HS.out.mono ?_
  rintro e W1 ⟨rfl, he1⟩
  have HB2 := Lib.hid (HB1.out.ex he1)
  have HE1 := Lib.hid (HE.out.trans he1)
  clear he1 c0 hmf
  go_wp2_with (refine wpList_store_row rfl 109 _ _ rfl (w.heap.size + 1) (sqA t.length (dF t.length M fs)) rfl rfl 109 _ HB2.out (by rw [sqA_size]; exact infoSq) (by rw [sqA_size]; rfl) (sqA_cells _ _) ?_)
  refine bodyPost_ret (results_cell_row Tryz.results106 _ _ (w.heap.size + 1) 109 (sqA t.length (dF t.length M fs)) (0, 0) _ rfl HB2.out.row_set Tryz.underlying109 rfl (by rw [sqA_size]; exact infoSq)) rfl ⟨rfl, HE1.out.row (by omega) _⟩

set_option maxRecDepth 100000 in
set_option maxHeartbeats 2000000 in
theorem fw1_any (Bg Bq : Nat) (A : Option Addr) (t : List (List Int)) (D : Nat → Nat → Int) (c x y : Nat) (w : World) (hG : Has w Bg 32 #[.slice A t.length c]) (hQ : Has w Bq 109 (sqA t.length D)) (hR : RwsW w A t) (hg : IsGrp t) (hx : x < t.length) (hy : y < t.length) :
    Calls Tryz.prog 108 #[.int .i64 (x : Int), .int .i64 (y : Int), .pointer (some ⟨Bg, 0, none⟩), .pointer (some ⟨Bq, 0, none⟩)] w fun e w' => e = .returned (.int .i64 (if mul t x y = mul t y x then D x y else -1)) ∧ Ex w w' := by
  have hn8 := hg.n8
  obtain ⟨b, o, bb, oo, C, rfl, hS⟩ := hR.sq hg
  have k0 := hG.cell 0
  have kq := hQ.cell (x * 8 + y)
  rw [sqA_get hn8 hx hy] at kq
  have r1 := hS.row_ hx
  have r2 := hS.row_ hy
  have e1 := hS.ent_ hx hy
  have e2 := hS.ent_ hy hx
  rw [hg.ent hx hy] at e1
  rw [hg.ent hy hx] at e2
  have hx0 : (0 : Int) ≤ (x : Int) := by omega
  have hy0 : (0 : Int) ≤ (y : Int) := by omega
  have hx8 : (x : Int) < 8 := by omega
  have hy8 : (y : Int) < 8 := by omega
  by_cases hm : mul t x y = mul t y x
  · rw [if_pos hm]
    rw [hm] at e1
    obtain ⟨p, hp⟩ : ∃ p, mul t y x = p := ⟨_, rfl⟩
    rw [hp] at e1 e2
    clear hG hQ hR hg hS hp hm
    go_enter Tryz.func108, Tryz.ntmps108
    go_wp2_with fail
    go_quiet (fail)
    go_wp2_with fail
    go_ret
    exact ⟨rfl, by first | exact (Ex.refl w).drewN _ | exact (Ex.refl w).drew⟩
  · rw [if_neg hm]
    obtain ⟨p, hp⟩ : ∃ p, mul t x y = p := ⟨_, rfl⟩
    obtain ⟨q, hq⟩ : ∃ q, mul t y x = q := ⟨_, rfl⟩
    rw [hp, hq] at hm
    rw [hp] at e1
    rw [hq] at e2
    have hne : ((p : Int) != (q : Int)) = true := by simpa using fun e => hm (by omega)
    clear hG hQ hR hg hS hp hq hm
    go_enter Tryz.func108, Tryz.ntmps108
    go_wp2_with fail
    go_quiet (fail)
    go_wp2_with fail
    go_ret
    exact ⟨rfl, by first | exact (Ex.refl w).drewN _ | exact (Ex.refl w).drew⟩

set_option maxRecDepth 100000 in
set_option maxHeartbeats 2000000 in
theorem formWith_any (A : Option Addr) (t : List (List Int)) (D : Nat → Nat → Int) (c : Nat) (w : World) (hR : RwsW w A t) (hg : IsGrp t) :
    Calls Tryz.prog 73 #[.agg #[.slice A t.length c], .agg (sqA t.length D)] w fun e w' => e = .returned (.agg (sqA t.length fun x y => if mul t x y = mul t y x then D x y else -1)) ∧ Ex w w' := by
  have e0 : Ex w (((w.alloc (.cells #[.slice A t.length c] 32)).alloc (.cells (sqA t.length D) 109)).alloc (.cells #[.int .i64 0, .int .i64 0, .int .i64 0, .int .i64 0, .int .i64 0, .int .i64 0, .int .i64 0, .int .i64 0, .int .i64 0, .int .i64 0, .int .i64 0, .int .i64 0, .int .i64 0, .int .i64 0, .int .i64 0, .int .i64 0, .int .i64 0, .int .i64 0, .int .i64 0, .int .i64 0, .int .i64 0, .int .i64 0, .int .i64 0, .int .i64 0, .int .i64 0, .int .i64 0, .int .i64 0, .int .i64 0, .int .i64 0, .int .i64 0, .int .i64 0, .int .i64 0, .int .i64 0, .int .i64 0, .int .i64 0, .int .i64 0, .int .i64 0, .int .i64 0, .int .i64 0, .int .i64 0, .int .i64 0, .int .i64 0, .int .i64 0, .int .i64 0, .int .i64 0, .int .i64 0, .int .i64 0, .int .i64 0, .int .i64 0, .int .i64 0, .int .i64 0, .int .i64 0, .int .i64 0, .int .i64 0, .int .i64 0, .int .i64 0, .int .i64 0, .int .i64 0, .int .i64 0, .int .i64 0, .int .i64 0, .int .i64 0, .int .i64 0, .int .i64 0] 109)) := (((Ex.refl w).alloc _).alloc _).alloc _
  have b0 : Has (((w.alloc (.cells #[.slice A t.length c] 32)).alloc (.cells (sqA t.length D) 109)).alloc (.cells #[.int .i64 0, .int .i64 0, .int .i64 0, .int .i64 0, .int .i64 0, .int .i64 0, .int .i64 0, .int .i64 0, .int .i64 0, .int .i64 0, .int .i64 0, .int .i64 0, .int .i64 0, .int .i64 0, .int .i64 0, .int .i64 0, .int .i64 0, .int .i64 0, .int .i64 0, .int .i64 0, .int .i64 0, .int .i64 0, .int .i64 0, .int .i64 0, .int .i64 0, .int .i64 0, .int .i64 0, .int .i64 0, .int .i64 0, .int .i64 0, .int .i64 0, .int .i64 0, .int .i64 0, .int .i64 0, .int .i64 0, .int .i64 0, .int .i64 0, .int .i64 0, .int .i64 0, .int .i64 0, .int .i64 0, .int .i64 0, .int .i64 0, .int .i64 0, .int .i64 0, .int .i64 0, .int .i64 0, .int .i64 0, .int .i64 0, .int .i64 0, .int .i64 0, .int .i64 0, .int .i64 0, .int .i64 0, .int .i64 0, .int .i64 0, .int .i64 0, .int .i64 0, .int .i64 0, .int .i64 0, .int .i64 0, .int .i64 0, .int .i64 0, .int .i64 0] 109)) (w.heap.size) 32 #[.slice A t.length c] := (((Has.newAt (w := w) (e := 32) (cs := #[.slice A t.length c]) (k := w.heap.size) (by simp)).alloc _).alloc _)
  have b1 : Has (((w.alloc (.cells #[.slice A t.length c] 32)).alloc (.cells (sqA t.length D) 109)).alloc (.cells #[.int .i64 0, .int .i64 0, .int .i64 0, .int .i64 0, .int .i64 0, .int .i64 0, .int .i64 0, .int .i64 0, .int .i64 0, .int .i64 0, .int .i64 0, .int .i64 0, .int .i64 0, .int .i64 0, .int .i64 0, .int .i64 0, .int .i64 0, .int .i64 0, .int .i64 0, .int .i64 0, .int .i64 0, .int .i64 0, .int .i64 0, .int .i64 0, .int .i64 0, .int .i64 0, .int .i64 0, .int .i64 0, .int .i64 0, .int .i64 0, .int .i64 0, .int .i64 0, .int .i64 0, .int .i64 0, .int .i64 0, .int .i64 0, .int .i64 0, .int .i64 0, .int .i64 0, .int .i64 0, .int .i64 0, .int .i64 0, .int .i64 0, .int .i64 0, .int .i64 0, .int .i64 0, .int .i64 0, .int .i64 0, .int .i64 0, .int .i64 0, .int .i64 0, .int .i64 0, .int .i64 0, .int .i64 0, .int .i64 0, .int .i64 0, .int .i64 0, .int .i64 0, .int .i64 0, .int .i64 0, .int .i64 0, .int .i64 0, .int .i64 0, .int .i64 0] 109)) (w.heap.size + 1) 109 (sqA t.length D) := ((Has.newAt (w := (w.alloc (.cells #[.slice A t.length c] 32))) (e := 109) (cs := (sqA t.length D)) (k := w.heap.size + 1) (by simp)).alloc _)
  have b2 : Has (((w.alloc (.cells #[.slice A t.length c] 32)).alloc (.cells (sqA t.length D) 109)).alloc (.cells #[.int .i64 0, .int .i64 0, .int .i64 0, .int .i64 0, .int .i64 0, .int .i64 0, .int .i64 0, .int .i64 0, .int .i64 0, .int .i64 0, .int .i64 0, .int .i64 0, .int .i64 0, .int .i64 0, .int .i64 0, .int .i64 0, .int .i64 0, .int .i64 0, .int .i64 0, .int .i64 0, .int .i64 0, .int .i64 0, .int .i64 0, .int .i64 0, .int .i64 0, .int .i64 0, .int .i64 0, .int .i64 0, .int .i64 0, .int .i64 0, .int .i64 0, .int .i64 0, .int .i64 0, .int .i64 0, .int .i64 0, .int .i64 0, .int .i64 0, .int .i64 0, .int .i64 0, .int .i64 0, .int .i64 0, .int .i64 0, .int .i64 0, .int .i64 0, .int .i64 0, .int .i64 0, .int .i64 0, .int .i64 0, .int .i64 0, .int .i64 0, .int .i64 0, .int .i64 0, .int .i64 0, .int .i64 0, .int .i64 0, .int .i64 0, .int .i64 0, .int .i64 0, .int .i64 0, .int .i64 0, .int .i64 0, .int .i64 0, .int .i64 0, .int .i64 0] 109)) (w.heap.size + 1 + 1) 109 #[.int .i64 0, .int .i64 0, .int .i64 0, .int .i64 0, .int .i64 0, .int .i64 0, .int .i64 0, .int .i64 0, .int .i64 0, .int .i64 0, .int .i64 0, .int .i64 0, .int .i64 0, .int .i64 0, .int .i64 0, .int .i64 0, .int .i64 0, .int .i64 0, .int .i64 0, .int .i64 0, .int .i64 0, .int .i64 0, .int .i64 0, .int .i64 0, .int .i64 0, .int .i64 0, .int .i64 0, .int .i64 0, .int .i64 0, .int .i64 0, .int .i64 0, .int .i64 0, .int .i64 0, .int .i64 0, .int .i64 0, .int .i64 0, .int .i64 0, .int .i64 0, .int .i64 0, .int .i64 0, .int .i64 0, .int .i64 0, .int .i64 0, .int .i64 0, .int .i64 0, .int .i64 0, .int .i64 0, .int .i64 0, .int .i64 0, .int .i64 0, .int .i64 0, .int .i64 0, .int .i64 0, .int .i64 0, .int .i64 0, .int .i64 0, .int .i64 0, .int .i64 0, .int .i64 0, .int .i64 0, .int .i64 0, .int .i64 0, .int .i64 0, .int .i64 0] := (Has.newAt (w := ((w.alloc (.cells #[.slice A t.length c] 32)).alloc (.cells (sqA t.length D) 109))) (e := 109) (cs := #[.int .i64 0, .int .i64 0, .int .i64 0, .int .i64 0, .int .i64 0, .int .i64 0, .int .i64 0, .int .i64 0, .int .i64 0, .int .i64 0, .int .i64 0, .int .i64 0, .int .i64 0, .int .i64 0, .int .i64 0, .int .i64 0, .int .i64 0, .int .i64 0, .int .i64 0, .int .i64 0, .int .i64 0, .int .i64 0, .int .i64 0, .int .i64 0, .int .i64 0, .int .i64 0, .int .i64 0, .int .i64 0, .int .i64 0, .int .i64 0, .int .i64 0, .int .i64 0, .int .i64 0, .int .i64 0, .int .i64 0, .int .i64 0, .int .i64 0, .int .i64 0, .int .i64 0, .int .i64 0, .int .i64 0, .int .i64 0, .int .i64 0, .int .i64 0, .int .i64 0, .int .i64 0, .int .i64 0, .int .i64 0, .int .i64 0, .int .i64 0, .int .i64 0, .int .i64 0, .int .i64 0, .int .i64 0, .int .i64 0, .int .i64 0, .int .i64 0, .int .i64 0, .int .i64 0, .int .i64 0, .int .i64 0, .int .i64 0, .int .i64 0, .int .i64 0]) (k := w.heap.size + 1 + 1) (by simp))
  have hn8 := hg.n8
  have hmf : ∀ (fn : Fn) (first cap : Array Value) (w : World), (Instr.makeFunc fn first cap).run Tryz.prog w = .ok (.func fn first cap) w := fun _ _ _ _ => rfl
  obtain ⟨F, hFd⟩ : ∃ F : Nat → Nat → Int, F = fun x y => if mul t x y = mul t y x then D x y else -1 := ⟨_, rfl⟩
  have HS0 := squareOf_has A t.length c 108 #[.pointer (some ⟨w.heap.size, 0, none⟩), .pointer (some ⟨w.heap.size + 1, 0, none⟩)] F (((w.alloc (.cells #[.slice A t.length c] 32)).alloc (.cells (sqA t.length D) 109)).alloc (.cells #[.int .i64 0, .int .i64 0, .int .i64 0, .int .i64 0, .int .i64 0, .int .i64 0, .int .i64 0, .int .i64 0, .int .i64 0, .int .i64 0, .int .i64 0, .int .i64 0, .int .i64 0, .int .i64 0, .int .i64 0, .int .i64 0, .int .i64 0, .int .i64 0, .int .i64 0, .int .i64 0, .int .i64 0, .int .i64 0, .int .i64 0, .int .i64 0, .int .i64 0, .int .i64 0, .int .i64 0, .int .i64 0, .int .i64 0, .int .i64 0, .int .i64 0, .int .i64 0, .int .i64 0, .int .i64 0, .int .i64 0, .int .i64 0, .int .i64 0, .int .i64 0, .int .i64 0, .int .i64 0, .int .i64 0, .int .i64 0, .int .i64 0, .int .i64 0, .int .i64 0, .int .i64 0, .int .i64 0, .int .i64 0, .int .i64 0, .int .i64 0, .int .i64 0, .int .i64 0, .int .i64 0, .int .i64 0, .int .i64 0, .int .i64 0, .int .i64 0, .int .i64 0, .int .i64 0, .int .i64 0, .int .i64 0, .int .i64 0, .int .i64 0, .int .i64 0] 109)) hn8 (enters_of Tryz.func108 (by kernel_rfl) rfl)
    (fun W' he x y hx hy => by rw [hFd]; exact fw1_any w.heap.size (w.heap.size + 1) A t D c x y W' (b0.ex he) (b1.ex he) (hR.ex (e0.trans he)) hg hx hy)
  have HS : Hid (Calls Tryz.prog 107 #[.agg #[.slice A t.length c], .func (.func 108) #[] #[.pointer (some ⟨w.heap.size, 0, none⟩), .pointer (some ⟨w.heap.size + 1, 0, none⟩)]] (((w.alloc (.cells #[.slice A t.length c] 32)).alloc (.cells (sqA t.length D) 109)).alloc (.cells #[.int .i64 0, .int .i64 0, .int .i64 0, .int .i64 0, .int .i64 0, .int .i64 0, .int .i64 0, .int .i64 0, .int .i64 0, .int .i64 0, .int .i64 0, .int .i64 0, .int .i64 0, .int .i64 0, .int .i64 0, .int .i64 0, .int .i64 0, .int .i64 0, .int .i64 0, .int .i64 0, .int .i64 0, .int .i64 0, .int .i64 0, .int .i64 0, .int .i64 0, .int .i64 0, .int .i64 0, .int .i64 0, .int .i64 0, .int .i64 0, .int .i64 0, .int .i64 0, .int .i64 0, .int .i64 0, .int .i64 0, .int .i64 0, .int .i64 0, .int .i64 0, .int .i64 0, .int .i64 0, .int .i64 0, .int .i64 0, .int .i64 0, .int .i64 0, .int .i64 0, .int .i64 0, .int .i64 0, .int .i64 0, .int .i64 0, .int .i64 0, .int .i64 0, .int .i64 0, .int .i64 0, .int .i64 0, .int .i64 0, .int .i64 0, .int .i64 0, .int .i64 0, .int .i64 0, .int .i64 0, .int .i64 0, .int .i64 0, .int .i64 0, .int .i64 0] 109)) fun e w' => e = .returned (.agg (sqA t.length F)) ∧ Ex (((w.alloc (.cells #[.slice A t.length c] 32)).alloc (.cells (sqA t.length D) 109)).alloc (.cells #[.int .i64 0, .int .i64 0, .int .i64 0, .int .i64 0, .int .i64 0, .int .i64 0, .int .i64 0, .int .i64 0, .int .i64 0, .int .i64 0, .int .i64 0, .int .i64 0, .int .i64 0, .int .i64 0, .int .i64 0, .int .i64 0, .int .i64 0, .int .i64 0, .int .i64 0, .int .i64 0, .int .i64 0, .int .i64 0, .int .i64 0, .int .i64 0, .int .i64 0, .int .i64 0, .int .i64 0, .int .i64 0, .int .i64 0, .int .i64 0, .int .i64 0, .int .i64 0, .int .i64 0, .int .i64 0, .int .i64 0, .int .i64 0, .int .i64 0, .int .i64 0, .int .i64 0, .int .i64 0, .int .i64 0, .int .i64 0, .int .i64 0, .int .i64 0, .int .i64 0, .int .i64 0, .int .i64 0, .int .i64 0, .int .i64 0, .int .i64 0, .int .i64 0, .int .i64 0, .int .i64 0, .int .i64 0, .int .i64 0, .int .i64 0, .int .i64 0, .int .i64 0, .int .i64 0, .int .i64 0, .int .i64 0, .int .i64 0, .int .i64 0, .int .i64 0] 109)) w') := Lib.hid HS0
  rw [← hFd]
  have c0 := b0.cell 0
  have HB1 := Lib.hid b2
  have HE := Lib.hid e0
  clear b0 b1 b2 e0 hR hg hFd HS0
  obtain ⟨S, hS⟩ : ∃ S, sqA t.length D = S := ⟨_, rfl⟩
  rw [hS] at HS c0 HB1 HE ⊢
  clear hS
  go_enter Tryz.func73, Tryz.ntmps73
  go_wp2_with fail
  generalize (((w.alloc (.cells #[.slice A t.length c] 32)).alloc (.cells S 109)).alloc (.cells #[.int .i64 0, .int .i64 0, .int .i64 0, .int .i64 0, .int .i64 0, .int .i64 0, .int .i64 0, .int .i64 0, .int .i64 0, .int .i64 0, .int .i64 0, .int .i64 0, .int .i64 0, .int .i64 0, .int .i64 0, .int .i64 0, .int .i64 0, .int .i64 0, .int .i64 0, .int .i64 0, .int .i64 0, .int .i64 0, .int .i64 0, .int .i64 0, .int .i64 0, .int .i64 0, .int .i64 0, .int .i64 0, .int .i64 0, .int .i64 0, .int .i64 0, .int .i64 0, .int .i64 0, .int .i64 0, .int .i64 0, .int .i64 0, .int .i64 0, .int .i64 0, .int .i64 0, .int .i64 0, .int .i64 0, .int .i64 0, .int .i64 0, .int .i64 0, .int .i64 0, .int .i64 0, .int .i64 0, .int .i64 0, .int .i64 0, .int .i64 0, .int .i64 0, .int .i64 0, .int .i64 0, .int .i64 0, .int .i64 0, .int .i64 0, .int .i64 0, .int .i64 0, .int .i64 0, .int .i64 0, .int .i64 0, .int .i64 0, .int .i64 0, .int .i64 0] 109)) = W0 at *
  refine HS.out.mono ?_
  rintro e W1 ⟨rfl, he1⟩
  have HB2 := Lib.hid (HB1.out.ex he1)
  have HE1 := Lib.hid (HE.out.trans he1)
  clear he1 c0 hmf
  go_wp2_with (refine wpList_store_row rfl 109 _ _ rfl (w.heap.size + 1 + 1) (sqA t.length F) rfl rfl 109 _ HB2.out (by rw [sqA_size]; exact infoSq) (by rw [sqA_size]; rfl) (sqA_cells _ _) ?_)
  refine bodyPost_ret (results_cell_row Tryz.results73 _ _ (w.heap.size + 1 + 1) 109 (sqA t.length F) (0, 0) _ rfl HB2.out.row_set Tryz.underlying109 rfl (by rw [sqA_size]; exact infoSq)) rfl ⟨rfl, HE1.out.row (by omega) _⟩

set_option maxRecDepth 100000 in
set_option maxHeartbeats 4000000 in
theorem fsForm_any (B0 B2 : Option Addr) (t : List (List Int)) (M : Nat) (fs : List Int) (d0 d2 : Nat) (w : World) (hR : RwsW w B0 t) (hF : IntsW w B2 fs) (h : FacF t M fs) :
    Calls Tryz.prog 72 #[.agg #[.slice B0 t.length d0, .int .i64 (M : Int), .int .i64 2, .slice B2 fs.length d2]] w fun e w' => e = .returned (.agg (sqA t.length (fF t M fs))) ∧ Ex w w' := by
  have e0 : Ex w ((w.alloc (.cells #[.slice B0 t.length d0, .int .i64 (M : Int), .int .i64 2, .slice B2 fs.length d2] 62)).alloc (.cells #[.int .i64 0, .int .i64 0, .int .i64 0, .int .i64 0, .int .i64 0, .int .i64 0, .int .i64 0, .int .i64 0, .int .i64 0, .int .i64 0, .int .i64 0, .int .i64 0, .int .i64 0, .int .i64 0, .int .i64 0, .int .i64 0, .int .i64 0, .int .i64 0, .int .i64 0, .int .i64 0, .int .i64 0, .int .i64 0, .int .i64 0, .int .i64 0, .int .i64 0, .int .i64 0, .int .i64 0, .int .i64 0, .int .i64 0, .int .i64 0, .int .i64 0, .int .i64 0, .int .i64 0, .int .i64 0, .int .i64 0, .int .i64 0, .int .i64 0, .int .i64 0, .int .i64 0, .int .i64 0, .int .i64 0, .int .i64 0, .int .i64 0, .int .i64 0, .int .i64 0, .int .i64 0, .int .i64 0, .int .i64 0, .int .i64 0, .int .i64 0, .int .i64 0, .int .i64 0, .int .i64 0, .int .i64 0, .int .i64 0, .int .i64 0, .int .i64 0, .int .i64 0, .int .i64 0, .int .i64 0, .int .i64 0, .int .i64 0, .int .i64 0, .int .i64 0] 109)) := ((Ex.refl w).alloc _).alloc _
  have b0 : Has ((w.alloc (.cells #[.slice B0 t.length d0, .int .i64 (M : Int), .int .i64 2, .slice B2 fs.length d2] 62)).alloc (.cells #[.int .i64 0, .int .i64 0, .int .i64 0, .int .i64 0, .int .i64 0, .int .i64 0, .int .i64 0, .int .i64 0, .int .i64 0, .int .i64 0, .int .i64 0, .int .i64 0, .int .i64 0, .int .i64 0, .int .i64 0, .int .i64 0, .int .i64 0, .int .i64 0, .int .i64 0, .int .i64 0, .int .i64 0, .int .i64 0, .int .i64 0, .int .i64 0, .int .i64 0, .int .i64 0, .int .i64 0, .int .i64 0, .int .i64 0, .int .i64 0, .int .i64 0, .int .i64 0, .int .i64 0, .int .i64 0, .int .i64 0, .int .i64 0, .int .i64 0, .int .i64 0, .int .i64 0, .int .i64 0, .int .i64 0, .int .i64 0, .int .i64 0, .int .i64 0, .int .i64 0, .int .i64 0, .int .i64 0, .int .i64 0, .int .i64 0, .int .i64 0, .int .i64 0, .int .i64 0, .int .i64 0, .int .i64 0, .int .i64 0, .int .i64 0, .int .i64 0, .int .i64 0, .int .i64 0, .int .i64 0, .int .i64 0, .int .i64 0, .int .i64 0, .int .i64 0] 109)) (w.heap.size) 62 #[.slice B0 t.length d0, .int .i64 (M : Int), .int .i64 2, .slice B2 fs.length d2] := ((Has.newAt (w := w) (e := 62) (cs := #[.slice B0 t.length d0, .int .i64 (M : Int), .int .i64 2, .slice B2 fs.length d2]) (k := w.heap.size) (by simp)).alloc _)
  have b1 : Has ((w.alloc (.cells #[.slice B0 t.length d0, .int .i64 (M : Int), .int .i64 2, .slice B2 fs.length d2] 62)).alloc (.cells #[.int .i64 0, .int .i64 0, .int .i64 0, .int .i64 0, .int .i64 0, .int .i64 0, .int .i64 0, .int .i64 0, .int .i64 0, .int .i64 0, .int .i64 0, .int .i64 0, .int .i64 0, .int .i64 0, .int .i64 0, .int .i64 0, .int .i64 0, .int .i64 0, .int .i64 0, .int .i64 0, .int .i64 0, .int .i64 0, .int .i64 0, .int .i64 0, .int .i64 0, .int .i64 0, .int .i64 0, .int .i64 0, .int .i64 0, .int .i64 0, .int .i64 0, .int .i64 0, .int .i64 0, .int .i64 0, .int .i64 0, .int .i64 0, .int .i64 0, .int .i64 0, .int .i64 0, .int .i64 0, .int .i64 0, .int .i64 0, .int .i64 0, .int .i64 0, .int .i64 0, .int .i64 0, .int .i64 0, .int .i64 0, .int .i64 0, .int .i64 0, .int .i64 0, .int .i64 0, .int .i64 0, .int .i64 0, .int .i64 0, .int .i64 0, .int .i64 0, .int .i64 0, .int .i64 0, .int .i64 0, .int .i64 0, .int .i64 0, .int .i64 0, .int .i64 0] 109)) (w.heap.size + 1) 109 #[.int .i64 0, .int .i64 0, .int .i64 0, .int .i64 0, .int .i64 0, .int .i64 0, .int .i64 0, .int .i64 0, .int .i64 0, .int .i64 0, .int .i64 0, .int .i64 0, .int .i64 0, .int .i64 0, .int .i64 0, .int .i64 0, .int .i64 0, .int .i64 0, .int .i64 0, .int .i64 0, .int .i64 0, .int .i64 0, .int .i64 0, .int .i64 0, .int .i64 0, .int .i64 0, .int .i64 0, .int .i64 0, .int .i64 0, .int .i64 0, .int .i64 0, .int .i64 0, .int .i64 0, .int .i64 0, .int .i64 0, .int .i64 0, .int .i64 0, .int .i64 0, .int .i64 0, .int .i64 0, .int .i64 0, .int .i64 0, .int .i64 0, .int .i64 0, .int .i64 0, .int .i64 0, .int .i64 0, .int .i64 0, .int .i64 0, .int .i64 0, .int .i64 0, .int .i64 0, .int .i64 0, .int .i64 0, .int .i64 0, .int .i64 0, .int .i64 0, .int .i64 0, .int .i64 0, .int .i64 0, .int .i64 0, .int .i64 0, .int .i64 0, .int .i64 0] := (Has.newAt (w := (w.alloc (.cells #[.slice B0 t.length d0, .int .i64 (M : Int), .int .i64 2, .slice B2 fs.length d2] 62))) (e := 109) (cs := #[.int .i64 0, .int .i64 0, .int .i64 0, .int .i64 0, .int .i64 0, .int .i64 0, .int .i64 0, .int .i64 0, .int .i64 0, .int .i64 0, .int .i64 0, .int .i64 0, .int .i64 0, .int .i64 0, .int .i64 0, .int .i64 0, .int .i64 0, .int .i64 0, .int .i64 0, .int .i64 0, .int .i64 0, .int .i64 0, .int .i64 0, .int .i64 0, .int .i64 0, .int .i64 0, .int .i64 0, .int .i64 0, .int .i64 0, .int .i64 0, .int .i64 0, .int .i64 0, .int .i64 0, .int .i64 0, .int .i64 0, .int .i64 0, .int .i64 0, .int .i64 0, .int .i64 0, .int .i64 0, .int .i64 0, .int .i64 0, .int .i64 0, .int .i64 0, .int .i64 0, .int .i64 0, .int .i64 0, .int .i64 0, .int .i64 0, .int .i64 0, .int .i64 0, .int .i64 0, .int .i64 0, .int .i64 0, .int .i64 0, .int .i64 0, .int .i64 0, .int .i64 0, .int .i64 0, .int .i64 0, .int .i64 0, .int .i64 0, .int .i64 0, .int .i64 0]) (k := w.heap.size + 1) (by simp))
  have HD := Lib.hid (fun W (he : Ex w W) => differences_any B0 B2 t M fs d0 d2 W (hF.ex he) h)
  have HW : Hid (∀ W, Ex w W → Calls Tryz.prog 73 #[.agg #[.slice B0 t.length d0], .agg (sqA t.length (dF t.length M fs))] W fun e w' => e = .returned (.agg (sqA t.length (fF t M fs))) ∧ Ex W w') := Lib.hid (fun W he => formWith_any B0 t (dF t.length M fs) d0 W (hR.ex he) h.m.g)
  have HK := Lib.hid (fun (W' : World) (he : Ex ((w.alloc (.cells #[.slice B0 t.length d0, .int .i64 (M : Int), .int .i64 2, .slice B2 fs.length d2] 62)).alloc (.cells #[.int .i64 0, .int .i64 0, .int .i64 0, .int .i64 0, .int .i64 0, .int .i64 0, .int .i64 0, .int .i64 0, .int .i64 0, .int .i64 0, .int .i64 0, .int .i64 0, .int .i64 0, .int .i64 0, .int .i64 0, .int .i64 0, .int .i64 0, .int .i64 0, .int .i64 0, .int .i64 0, .int .i64 0, .int .i64 0, .int .i64 0, .int .i64 0, .int .i64 0, .int .i64 0, .int .i64 0, .int .i64 0, .int .i64 0, .int .i64 0, .int .i64 0, .int .i64 0, .int .i64 0, .int .i64 0, .int .i64 0, .int .i64 0, .int .i64 0, .int .i64 0, .int .i64 0, .int .i64 0, .int .i64 0, .int .i64 0, .int .i64 0, .int .i64 0, .int .i64 0, .int .i64 0, .int .i64 0, .int .i64 0, .int .i64 0, .int .i64 0, .int .i64 0, .int .i64 0, .int .i64 0, .int .i64 0, .int .i64 0, .int .i64 0, .int .i64 0, .int .i64 0, .int .i64 0, .int .i64 0, .int .i64 0, .int .i64 0, .int .i64 0, .int .i64 0] 109)) W') => And.intro ((b0.ex he).cell 0) (And.intro ((b0.ex he).cell 1) (And.intro ((b0.ex he).cell 2) ((b0.ex he).cell 3))))
  have HB1 := Lib.hid b1
  have HE := Lib.hid e0
  clear b0 b1 e0 hR hF h
  obtain ⟨D, hD⟩ : ∃ D, sqA t.length (dF t.length M fs) = D := ⟨_, rfl⟩
  rw [hD] at HD HW
  clear hD
  go_enter Tryz.func72, Tryz.ntmps72
  go_wp2_with fail
  generalize ((w.alloc (.cells #[.slice B0 t.length d0, .int .i64 (M : Int), .int .i64 2, .slice B2 fs.length d2] 62)).alloc (.cells #[.int .i64 0, .int .i64 0, .int .i64 0, .int .i64 0, .int .i64 0, .int .i64 0, .int .i64 0, .int .i64 0, .int .i64 0, .int .i64 0, .int .i64 0, .int .i64 0, .int .i64 0, .int .i64 0, .int .i64 0, .int .i64 0, .int .i64 0, .int .i64 0, .int .i64 0, .int .i64 0, .int .i64 0, .int .i64 0, .int .i64 0, .int .i64 0, .int .i64 0, .int .i64 0, .int .i64 0, .int .i64 0, .int .i64 0, .int .i64 0, .int .i64 0, .int .i64 0, .int .i64 0, .int .i64 0, .int .i64 0, .int .i64 0, .int .i64 0, .int .i64 0, .int .i64 0, .int .i64 0, .int .i64 0, .int .i64 0, .int .i64 0, .int .i64 0, .int .i64 0, .int .i64 0, .int .i64 0, .int .i64 0, .int .i64 0, .int .i64 0, .int .i64 0, .int .i64 0, .int .i64 0, .int .i64 0, .int .i64 0, .int .i64 0, .int .i64 0, .int .i64 0, .int .i64 0, .int .i64 0, .int .i64 0, .int .i64 0, .int .i64 0, .int .i64 0] 109)) = W0 at *
  have hC0 := HK.out _ (Ex.refl W0).drew
  refine Late.region (C := fun w' => w'.cell? ⟨w.heap.size, 0, none⟩ = some (.slice B0 t.length d0) ∧ w'.cell? ⟨w.heap.size, 1, none⟩ = some (.int .i64 (M : Int)) ∧ w'.cell? ⟨w.heap.size, 2, none⟩ = some (.int .i64 2) ∧ w'.cell? ⟨w.heap.size, 3, none⟩ = some (.slice B2 fs.length d2)) (fun j => decide (j < 5)) (by kernel_rfl) hC0 (fun hC => ?_)
  refine Late.take (i := 0) (oi := _) (v := ?_) rfl (by kernel_rfl) (by kernel_rfl) (by kernel_rfl) (by kernel_rfl) (fun _ _ _ h => h) (Or.inl ⟨by rfl, ?_⟩) hC ?_
  rotate_left
  · (intro w hSw; (try dsimp only at hSw); go_simp; first | done | with_reducible rfl)
  simp only [Act.put]
  refine Late.take (i := 1) (oi := _) (v := ?_) rfl (by kernel_rfl) (by kernel_rfl) (by kernel_rfl) (by kernel_rfl) (fun _ _ _ h => h) (Or.inl ⟨by rfl, ?_⟩) hC ?_
  rotate_left
  · (intro w hSw; (try dsimp only at hSw); go_simp; first | done | with_reducible rfl)
  simp only [Act.put]
  refine Late.take (i := 2) (oi := _) (v := ?_) rfl (by kernel_rfl) (by kernel_rfl) (by kernel_rfl) (by kernel_rfl) (fun _ _ _ h => h) (Or.inl ⟨by rfl, ?_⟩) hC ?_
  rotate_left
  · (intro w hSw; (try dsimp only at hSw); go_simp; first | done | with_reducible rfl)
  simp only [Act.put]
  refine Late.one (i := 3) (o := _) (by kernel_rfl) rfl (fun K' hK' => ?_)
  try rw [if_pos (by rfl)]
  go_simp
  refine (HD.out _ (HE.out.trans (Ex.refl W0).drew)).mono ?_
  rintro e W1 ⟨rfl, he1⟩
  have HE1 := Lib.hid ((Ex.refl W0).drew.trans he1)
  have hC1 := HK.out _ HE1.out
  refine hK'.out _ _ (fun _ => hC1) (fun _ => ?_)
  clear hK' K' hC hC0 he1
  try simp only [Act.put, List.setIfInBounds_toArray, List.set_cons_zero, List.set_cons_succ]
  refine Late.one (i := 4) (o := _) (by kernel_rfl) rfl (fun K' hK' => ?_)
  try rw [if_pos (by rfl)]
  go_simp
  refine (HW.out _ (HE.out.trans HE1.out)).mono ?_
  rintro e W2 ⟨rfl, he2⟩
  have HE2 := Lib.hid (HE1.out.trans he2)
  have hC2 := HK.out _ HE2.out
  have HB2 := Lib.hid (HB1.out.ex HE2.out)
  refine hK'.out _ _ (fun _ => hC2) (fun _ => ?_)
  clear hK' K' hC1 he2
  try simp only [Act.put, List.setIfInBounds_toArray, List.set_cons_zero, List.set_cons_succ]
  refine Late.one (i := 5) (o := _) (by kernel_rfl) rfl (fun K' hK' => ?_)
  refine wp_store_row 109 _ _ rfl (w.heap.size + 1) (sqA t.length (fF t M fs)) rfl rfl 109 _ HB2.out (by rw [sqA_size]; exact infoSq) (by rw [sqA_size]; rfl) (sqA_cells _ _) ?_
  refine hK'.out _ _ (fun h => by cases h) (fun _ => ?_)
  clear hK' K'
  try simp only [Act.put, List.setIfInBounds_toArray]
  refine Late.done (by kernel_rfl) ?_ _
  go_wp2_with fail
  refine bodyPost_ret (results_cell_row Tryz.results72 _ _ (w.heap.size + 1) 109 (sqA t.length (fF t M fs)) (0, 0) _ rfl HB2.out.row_set Tryz.underlying109 rfl (by rw [sqA_size]; exact infoSq)) rfl ⟨rfl, (HE.out.trans HE2.out).row (by omega) _⟩

end Go.Proofs.YtcdijeeabgmgmaaGreatDoor
