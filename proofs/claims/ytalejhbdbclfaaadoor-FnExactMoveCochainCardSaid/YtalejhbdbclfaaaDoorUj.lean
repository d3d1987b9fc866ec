/- MoveCochain: the program's contract (its code since dacb63e6). -/
import Derived.Test.YtalejhbdbclfaaaDoorUi
import Derived.Test.YtalejhbdbclfaaaDoorMx
namespace Go.Proofs.YtalejhbdbclfaaaDoor
open Go.RowKit

theorem pbY_in {V : Nat → Int} {fs : List Int} {N K M d : Nat} (hM : 0 < M) (hV : ∀ x, x < N → 0 ≤ V x ∧ V x < K) (hfl : fs.length = cellsN K d) (hfr : InR M fs) : InR M (pbY V fs N K d) := fun k hk => by
  rw [pbY_len] at hk
  rw [show nth (pbY V fs N K d) k = valR K fs (pbL V N d k) by simp [nth, pbY, hk, pbV]]
  exact valR_in hM (pbL_in hV (cells_posU hk)) (pbL_len V N d k) hfl hfr

set_option maxHeartbeats 1000000 in
theorem mvk_ex (Bg Bb : Nat) (A : Option Addr) (t : List (List Int)) (c x b : Nat) (w : World) (hG : Has w Bg 27 #[.slice A t.length c]) (hB : Has w Bb 2 #[.int .i64 (b : Int)]) (hR : RwsW w A t) (hg : IsGrp t) (hx : x < t.length) (hb : b < t.length) :
    Calls Tryd.prog 90 #[.int .i64 (x : Int), .pointer (some ⟨Bg, 0, none⟩), .pointer (some ⟨Bb, 0, none⟩)] w fun e w' => e = .returned (.int .i64 (con t x b : Int)) ∧ Ex w w' := by
  have HC := Lib.hid (conjugateOf_any A t c x b w hR hg hx hb)
  have c0 := hG.cell 0
  have c1 := hB.cell 0
  clear hG hB hR hg
  go_enter Tryd.func90, Tryd.ntmps90
  go_wp2_with fail
  refine HC.out.mono ?_
  rintro e' w' ⟨rfl, he⟩
  have HE := Lib.hid he
  clear he
  go_wp2_with fail
  go_ret
  exact ⟨rfl, HE.out⟩

set_option maxRecDepth 100000 in
set_option maxHeartbeats 4000000 in
theorem implMoveCochain2_ex (t0 : List (List Int)) (m1 : Int) (t1 : List Int) (m2 : Int) (t2 : List Int) (m3 : Int) : ∀ (B0 : Option Addr) (d0 : Nat) (B1 : Option Addr) (d1 : Nat) (B2 : Option Addr) (d2 : Nat) (W : World), RwsW W B0 t0 → IntsW W B1 t1 → IntsW W B2 t2 → SmallT t0 → t1.length ≤ 1048576 → t2.length ≤ 1048576 →
    Calls Tryd.prog 44 #[.agg #[.slice B0 t0.length d0], .agg #[.int .i64 m1, .slice B1 t1.length d1], .agg #[.int .i64 m2, .slice B2 t2.length d2], .int .i64 m3] W fun e W' => ∃ (C0 : Option Addr) (e0 : Nat), e = .returned (.tuple #[.agg #[.int .i64 (qMoveCochain0 t0 m1 t1 m2 t2 m3), .slice C0 (yMoveCochain0 t0 m1 t1 m2 t2 m3).length e0], .int .i64 (qMoveCochain1 t0 m1 t1 m2 t2 m3)]) ∧ Ex W W' ∧ OwnL W' W.heap.size W'.heap.size C0 (yMoveCochain0 t0 m1 t1 m2 t2 m3) := by
  intro B0 d0 B1 d1 B2 d2 w hR hX hF hs hu hf
  have e0 : Ex w ((((w.alloc (.cells #[.slice B0 t0.length d0] 27)).alloc (.cells #[.int .i64 m1, .slice B1 t1.length d1] 40)).alloc (.cells #[.int .i64 m2, .slice B2 t2.length d2] 57)).alloc (.cells #[.int .i64 0, .slice none 0 0] 57)) := ((((Ex.refl w).alloc _).alloc _).alloc _).alloc _
  have b0 : Has ((((w.alloc (.cells #[.slice B0 t0.length d0] 27)).alloc (.cells #[.int .i64 m1, .slice B1 t1.length d1] 40)).alloc (.cells #[.int .i64 m2, .slice B2 t2.length d2] 57)).alloc (.cells #[.int .i64 0, .slice none 0 0] 57)) (w.heap.size) 27 #[.slice B0 t0.length d0] := ((((Has.newAt (w := w) (e := 27) (cs := #[.slice B0 t0.length d0]) (k := w.heap.size) (by simp)).alloc _).alloc _).alloc _)
  have b1 : Has ((((w.alloc (.cells #[.slice B0 t0.length d0] 27)).alloc (.cells #[.int .i64 m1, .slice B1 t1.length d1] 40)).alloc (.cells #[.int .i64 m2, .slice B2 t2.length d2] 57)).alloc (.cells #[.int .i64 0, .slice none 0 0] 57)) (w.heap.size + 1) 40 #[.int .i64 m1, .slice B1 t1.length d1] := (((Has.newAt (w := (w.alloc (.cells #[.slice B0 t0.length d0] 27))) (e := 40) (cs := #[.int .i64 m1, .slice B1 t1.length d1]) (k := w.heap.size + 1) (by simp)).alloc _).alloc _)
  have b2 : Has ((((w.alloc (.cells #[.slice B0 t0.length d0] 27)).alloc (.cells #[.int .i64 m1, .slice B1 t1.length d1] 40)).alloc (.cells #[.int .i64 m2, .slice B2 t2.length d2] 57)).alloc (.cells #[.int .i64 0, .slice none 0 0] 57)) (w.heap.size + 1 + 1) 57 #[.int .i64 m2, .slice B2 t2.length d2] := ((Has.newAt (w := ((w.alloc (.cells #[.slice B0 t0.length d0] 27)).alloc (.cells #[.int .i64 m1, .slice B1 t1.length d1] 40))) (e := 57) (cs := #[.int .i64 m2, .slice B2 t2.length d2]) (k := w.heap.size + 1 + 1) (by simp)).alloc _)
  have b4 : Has ((((w.alloc (.cells #[.slice B0 t0.length d0] 27)).alloc (.cells #[.int .i64 m1, .slice B1 t1.length d1] 40)).alloc (.cells #[.int .i64 m2, .slice B2 t2.length d2] 57)).alloc (.cells #[.int .i64 0, .slice none 0 0] 57)) (w.heap.size + 1 + 1 + 1) 57 #[.int .i64 0, .slice none 0 0] := (Has.newAt (w := (((w.alloc (.cells #[.slice B0 t0.length d0] 27)).alloc (.cells #[.int .i64 m1, .slice B1 t1.length d1] 40)).alloc (.cells #[.int .i64 m2, .slice B2 t2.length d2] 57))) (e := 57) (cs := #[.int .i64 0, .slice none 0 0]) (k := w.heap.size + 1 + 1 + 1) (by simp))
  have hmf : ∀ (fn : Fn) (first cap : Array Value) (w : World), (Instr.makeFunc fn first cap).run Tryd.prog w = .ok (.func fn first cap) w := fun _ _ _ _ => rfl
  have hC := isCochain_any B0 B1 B2 t0 m1 t1 m2 t2 d0 d1 d2 _ (hR.ex e0) (hX.ex e0) (hF.ex e0) hs hu hf
  rw [show (gmB t0 m1 t1 && cocB t0.length m1 m2 t2) = gmcB t0 m1 t1 m2 t2 from rfl] at hC
  have HC := Lib.hid hC
  have hN6 := hs.1
  clear hC
  cases hg : gmcB t0 m1 t1 m2 t2 with
  | false =>
    rw [hg] at HC
    have HQ := Lib.hid (mv_no (c := m3) hg)
    clear hg hR hX hF
    go_enter Tryd.func44, Tryd.ntmps44
    go_wp2_with fail
    generalize ((((w.alloc (.cells #[.slice B0 t0.length d0] 27)).alloc (.cells #[.int .i64 m1, .slice B1 t1.length d1] 40)).alloc (.cells #[.int .i64 m2, .slice B2 t2.length d2] 57)).alloc (.cells #[.int .i64 0, .slice none 0 0] 57)) = W0 at *
    refine HC.out.mono ?_
    rintro e W1 ⟨rfl, he1⟩
    have HB4 := Lib.hid (b4.ex he1)
    have c2 := HB4.out.cell 0
    have c2' := HB4.out.cell 1
    have f2 := HB4.out.free 0
    have f2' := HB4.out.free 1
    clear b0 b1 b2 b4
    go_wp2_with fail
    have H4 := HB4.out.put2 (u := .int .i64 0) (v := .slice none 0 0)
    have c4 := H4.cell 0
    have c4' := H4.cell 1
    refine bodyPost_ret (v := .tuple #[.agg #[.int .i64 0, .slice none 0 0], .int .i64 1]) (by simp [results, Tryd.results44, go_sem, c4, c4']) rfl ⟨none, 0, by rw [HQ.out.1, HQ.out.2.1, HQ.out.2.2]; rfl, ((e0.trans he1).setCell (by show w.heap.size ≤ w.heap.size + 1 + 1 + 1; omega) _).setCell (by show w.heap.size ≤ w.heap.size + 1 + 1 + 1; omega) _, by rw [HQ.out.2.1]; exact OwnL.nil _ _ _ (Nat.le_refl _)⟩
  | true =>
    rw [hg] at HC
    obtain ⟨M, k, rfl, rfl, hMF, hk3, hlen, h343, hfr⟩ := gmc_facts hg
    have hN8 := hMF.g.n8
    have hN1 := hMF.g.n1
    have HIS := Lib.hid (fun W => isElement_any B0 t0.length d0 m3 W (by omega))
    cases hmb : movB t0.length m3 with
    | false =>
      have HQ := Lib.hid (mv_out hg hmb)
      rw [show decide (0 ≤ m3 ∧ m3 < t0.length) = false from hmb] at HIS
      clear hg hR hX hF hMF hs hu hf hlen hfr hmb
      go_enter Tryd.func44, Tryd.ntmps44
      go_wp2_with fail
      generalize ((((w.alloc (.cells #[.slice B0 t0.length d0] 27)).alloc (.cells #[.int .i64 (M : Int), .slice B1 t1.length d1] 40)).alloc (.cells #[.int .i64 (k : Int), .slice B2 t2.length d2] 57)).alloc (.cells #[.int .i64 0, .slice none 0 0] 57)) = W0 at *
      refine HC.out.mono ?_
      rintro e W1 ⟨rfl, he1⟩
      have HE1 := Lib.hid (e0.trans he1)
      have HB1 := Lib.hid (b4.ex he1)
      have c0 := (b0.ex he1).cell 0
      clear b0 b1 b2 b4 e0 he1
      go_wp2_with fail
      refine (HIS.out _).mono ?_
      rintro e W2 ⟨rfl, he2⟩
      have HE2 := Lib.hid (HE1.out.trans he2)
      have HB4 := Lib.hid (HB1.out.ex he2)
      have c2 := HB4.out.cell 0
      have c2' := HB4.out.cell 1
      have f2 := HB4.out.free 0
      have f2' := HB4.out.free 1
      clear he2 c0
      go_wp2_with fail
      have H4 := HB4.out.put2 (u := .int .i64 0) (v := .slice none 0 0)
      have c4 := H4.cell 0
      have c4' := H4.cell 1
      refine bodyPost_ret (v := .tuple #[.agg #[.int .i64 0, .slice none 0 0], .int .i64 2]) (by simp [results, Tryd.results44, go_sem, c4, c4']) rfl ⟨none, 0, by rw [HQ.out.1, HQ.out.2.1, HQ.out.2.2]; rfl, (HE2.out.setCell (by show w.heap.size ≤ w.heap.size + 1 + 1 + 1; omega) _).setCell (by show w.heap.size ≤ w.heap.size + 1 + 1 + 1; omega) _, by rw [HQ.out.2.1]; exact OwnL.nil _ _ _ (Nat.le_refl _)⟩
    | true =>
      have hm3 : 0 ≤ m3 ∧ m3 < t0.length := of_decide_eq_true hmb
      obtain ⟨a, rfl⟩ : ∃ a : Nat, m3 = (a : Int) := ⟨m3.toNat, by omega⟩
      have ha : a < t0.length := by omega
      have hib := (iv_spec hMF.g ha).1
      have HQ := Lib.hid (mv_yes hg hmb)
      rw [show decide (0 ≤ (a : Int) ∧ (a : Int) < t0.length) = true from hmb] at HIS
      have HIV := Lib.hid (fun W (he : Ex w W) => inverseOf_any B0 t0 d0 a W (hR.ex he) hMF.g ha)
      have HPB := Lib.hid (fun (D : Nat) W (he : Ex _ W) (hb : Has W D 2 #[.int .i64 (iv t0 a : Int)]) =>
        pulledBack_any B0 B0 B2 t0.length t0.length k 90 #[.pointer (some ⟨w.heap.size, 0, none⟩), .pointer (some ⟨D, 0, none⟩)] (fun x => (con t0 x (iv t0 a) : Int)) t2 d0 d0 d2 W (hF.ex (e0.trans he)) hN8 hN1 hN8 hN1 hk3
          (fun x hx => by have := con_lt hMF.g hx hib; omega) hlen (enters_of Tryd.func90 (by kernel_rfl) rfl)
          (fun W' he' x hx => mvk_ex w.heap.size D B0 t0 d0 x (iv t0 a) W' (b0.ex (he.trans he')) (hb.ex he') (hR.ex (e0.trans (he.trans he'))) hMF.g hx hib))
      have hyl := pbY_len (fun x => (con t0 x (iv t0 a) : Int)) t2 t0.length t0.length k
      have hyr : InR M (pbY (fun x => (con t0 x (iv t0 a) : Int)) t2 t0.length t0.length k) := pbY_in (by have := hMF.m2; omega) (fun x hx => by have := con_lt hMF.g hx hib; omega) hlen hfr
      have hc24 := cellsN_le hN8 (show k ≤ 4 by omega)
      have HLD := Lib.hid (fun (X : Option Addr) (e : Nat) W (he : Ex w W) (hX' : IntsW W X (pbY (fun x => (con t0 x (iv t0 a) : Int)) t2 t0.length t0.length k)) => ledCochain_any B1 X M k a t1 (pbY (fun x => (con t0 x (iv t0 a) : Int)) t2 t0.length t0.length k) d1 e W (hX.ex he) hX' hMF.m2 hMF.m12 (by rw [hMF.len]; exact hN8) hMF.rng (by rw [hMF.len]; exact ha) hyr (by rw [hyl]; omega))
      have hled : ledY M (nth t1 a) (pbY (fun x => (con t0 x (iv t0 a) : Int)) t2 t0.length t0.length k) = (List.range (cellsN t0.length k)).map fun j => movV t0 M t1 t2 k j (iv t0 a) a := by
        unfold ledY
        rw [hyl]
        refine List.map_congr_left fun j hj => ?_
        have hj' := List.mem_range.1 hj
        rw [show nth (pbY (fun x => (con t0 x (iv t0 a) : Int)) t2 t0.length t0.length k) j = valR t0.length t2 (movL t0 k j (iv t0 a)) by simp [nth, pbY, hj', pbV, pbL, movL]]
        rfl
      rw [hled] at HLD
      rw [hyl] at HLD
      have HV : Hid (((List.range (cellsN t0.length k)).map fun j => movV t0 M t1 t2 k j (iv t0 a) a).length = cellsN t0.length k) := Lib.hid (by simp)
      obtain ⟨zs, hzs⟩ : ∃ zs, ((List.range (cellsN t0.length k)).map fun j => movV t0 M t1 t2 k j (iv t0 a) a) = zs := ⟨_, rfl⟩
      rw [hzs] at HLD HQ HV
      obtain ⟨ys, hys⟩ : ∃ ys, pbY (fun x => (con t0 x (iv t0 a) : Int)) t2 t0.length t0.length k = ys := ⟨_, rfl⟩
      rw [hys] at HLD HPB
      obtain ⟨b, hbe⟩ : ∃ b, iv t0 a = b := ⟨_, rfl⟩
      rw [hbe] at HIV HPB
      obtain ⟨cn, hcn⟩ : ∃ cn, cellsN t0.length k = cn := ⟨_, rfl⟩
      rw [hcn] at HPB HLD HV
      have HE0 := Lib.hid e0
      have HB0 := Lib.hid b0
      have HB1 := Lib.hid b1
      have HB2 := Lib.hid b2
      have HB4 := Lib.hid b4
      have c0 := b0.cell 0
      clear hg hR hX hF hMF hs hu hf hlen hfr hmb hm3 ha hib hbe hyl hyr hc24 hled hzs hys hcn b0 b1 b2 b4 e0
      go_enter Tryd.func44, Tryd.ntmps44
      go_wp2_with fail
      generalize ((((w.alloc (.cells #[.slice B0 t0.length d0] 27)).alloc (.cells #[.int .i64 (M : Int), .slice B1 t1.length d1] 40)).alloc (.cells #[.int .i64 (k : Int), .slice B2 t2.length d2] 57)).alloc (.cells #[.int .i64 0, .slice none 0 0] 57)) = W0 at *
      refine HC.out.mono ?_
      rintro e W1 ⟨rfl, he1⟩
      have c1 := (HB0.out.ex he1).cell 0
      clear c0
      go_wp2_with fail
      refine (HIS.out _).mono ?_
      rintro e W2 ⟨rfl, he2⟩
      have he02 := he1.trans he2
      have c2 := (HB0.out.ex he02).cell 0
      clear c1
      go_wp2_with fail
      refine (HIV.out _ (HE0.out.trans he02)).mono ?_
      rintro e W3 ⟨rfl, he3⟩
      have he03 := he02.trans he3
      obtain ⟨D, hD⟩ : ∃ D, W3.heap.size = D := ⟨_, rfl⟩
      have he4 := he03.alloc (.cells #[.int .i64 (b : Int)] 2)
      have hbb := Has.newAt (w := W3) (e := 2) (cs := #[.int .i64 (b : Int)]) hD
      have HX4 := Lib.hid he4
      have HBB := Lib.hid hbb
      have hC0 := And.intro ((HB1.out.ex he4).cell 0) (And.intro ((HB1.out.ex he4).cell 1) (And.intro ((HB0.out.ex he4).cell 0) (And.intro ((HB2.out.ex he4).cell 0) ((HB2.out.ex he4).cell 1))))
      clear he1 he2 he3 he02 he03 he4 hbb c2
      go_wp2_with fail
      simp only [hD] at *
      generalize (W3.alloc (.cells #[.int .i64 (b : Int)] 2)) = W4 at *
      refine Late.region (C := fun w' => w'.cell? ⟨w.heap.size + 1, 0, none⟩ = some (.int .i64 (M : Int)) ∧ w'.cell? ⟨w.heap.size + 1, 1, none⟩ = some (.slice B1 t1.length d1) ∧ w'.cell? ⟨w.heap.size, 0, none⟩ = some (.slice B0 t0.length d0) ∧ w'.cell? ⟨w.heap.size + 1 + 1, 0, none⟩ = some (.int .i64 (k : Int)) ∧ w'.cell? ⟨w.heap.size + 1 + 1, 1, none⟩ = some (.slice B2 t2.length d2)) (fun j => decide (j < 8)) (by kernel_rfl) hC0 (fun hC => ?_)
      refine Late.take (i := 0) (oi := _) (v := ?_) rfl (by kernel_rfl) (by kernel_rfl) (by kernel_rfl) (by kernel_rfl) (fun _ _ _ h => h) (Or.inl ⟨by rfl, ?_⟩) hC ?_
      rotate_left
      · (intro w hSw; (try dsimp only at hSw); go_simp; first | done | with_reducible rfl)
      simp only [Act.put]
      refine Late.take (i := 1) (oi := _) (v := ?_) rfl (by kernel_rfl) (by kernel_rfl) (by kernel_rfl) (by kernel_rfl) (fun _ _ _ h => h) (Or.inl ⟨by rfl, ?_⟩) hC ?_
      rotate_left
      · (intro w hSw; (try dsimp only at hSw); go_simp; first | done | with_reducible rfl)
      simp only [Act.put]
      refine Late.take (i := 2) (oi := _) (v := ?_) rfl (by kernel_rfl) (by kernel_rfl) (by kernel_rfl) (by kernel_rfl) (fun _ _ _ h => h) (Or.inl ⟨by rfl, ?_⟩) hC ?_
      rotate_left
      · (intro w hSw; (try dsimp only at hSw); go_simp; first | done | with_reducible rfl)
      simp only [Act.put]
      refine Late.take (i := 3) (oi := _) (v := ?_) rfl (by kernel_rfl) (by kernel_rfl) (by kernel_rfl) (by kernel_rfl) (fun _ _ _ h => h) (Or.inl ⟨by rfl, ?_⟩) hC ?_
      rotate_left
      · (intro w hSw; (try dsimp only at hSw); go_simp; first | done | with_reducible rfl)
      simp only [Act.put]
      refine Late.take (i := 4) (oi := _) (v := ?_) rfl (by kernel_rfl) (by kernel_rfl) (by kernel_rfl) (by kernel_rfl) (fun _ _ _ h => h) (Or.inl ⟨by rfl, ?_⟩) hC ?_
      rotate_left
      · (intro w hSw; (try dsimp only at hSw); go_simp; first | done | with_reducible rfl)
      simp only [Act.put]
      refine Late.take (i := 5) (oi := _) (v := ?_) rfl (by kernel_rfl) (by kernel_rfl) (by kernel_rfl) (by kernel_rfl) (fun _ _ _ h => h) (Or.inl ⟨by rfl, ?_⟩) hC ?_
      rotate_left
      · (intro w hSw; (try dsimp only at hSw); go_simp; first | done | with_reducible rfl)
      simp only [Act.put]
      refine Late.one (i := 6) (o := _) (by kernel_rfl) rfl (fun K' hK' => ?_)
      go_simp
      refine (HPB.out D _ HX4.out.drew HBB.out).mono ?_
      rintro e W5 ⟨A5, n5, rfl, he5, ho5⟩
      have hx5 := HX4.out.drew.trans he5
      have hC5 := And.intro ((HB1.out.ex hx5).cell 0) (And.intro ((HB1.out.ex hx5).cell 1) (And.intro ((HB0.out.ex hx5).cell 0) (And.intro ((HB2.out.ex hx5).cell 0) ((HB2.out.ex hx5).cell 1))))
      have HX5 := Lib.hid hx5
      have HI5 := Lib.hid ho5.ints
      refine hK'.out _ _ (fun _ => hC5) (fun _ => ?_)
      clear hK' K' hC hC0 he5 ho5 hx5
      try simp only [Act.put, List.setIfInBounds_toArray, List.set_cons_zero, List.set_cons_succ]
      refine Late.one (i := 7) (o := _) (by kernel_rfl) rfl (fun K' hK' => ?_)
      go_simp
      refine (HLD.out A5 n5 W5 (HE0.out.trans HX5.out) HI5.out).mono ?_
      rintro e W6 ⟨A6, n6, rfl, he6, ho6⟩
      have hx6 := HX5.out.trans he6
      have hC6 := And.intro ((HB1.out.ex hx6).cell 0) (And.intro ((HB1.out.ex hx6).cell 1) (And.intro ((HB0.out.ex hx6).cell 0) (And.intro ((HB2.out.ex hx6).cell 0) ((HB2.out.ex hx6).cell 1))))
      have HB6 := Lib.hid (HB4.out.ex hx6)
      have HE6 := Lib.hid (HE0.out.trans hx6)
      have HO6 := Lib.hid ho6
      have k0 := HB6.out.cell 0
      have k1 := HB6.out.cell 1
      have f0 := HB6.out.free 0
      have f1 := HB6.out.free 1
      have hlt : w.heap.size + 1 + 1 + 1 < W5.heap.size := (HB4.out.ex HX5.out).lt
      have hlw : w.heap.size ≤ W5.heap.size := by omega
      refine hK'.out _ _ (fun _ => hC6) (fun _ => ?_)
      clear hK' K' hC5 he6 ho6 hx6
      try simp only [Act.put, List.setIfInBounds_toArray, List.set_cons_zero, List.set_cons_succ]
      refine Late.one (i := 8) (o := _) (by kernel_rfl) rfl (fun K' hK' => ?_)
      go_simp
      refine hK'.out _ _ (fun h => by cases h) (fun _ => ?_)
      clear hK' K' hC6
      try simp only [Act.put, List.setIfInBounds_toArray, List.set_cons_zero, List.set_cons_succ]
      refine Late.one (i := 9) (o := _) (by kernel_rfl) rfl (fun K' hK' => ?_)
      go_simp
      refine hK'.out _ _ (fun h => by cases h) (fun _ => ?_)
      clear hK' K'
      try simp only [Act.put, List.setIfInBounds_toArray, List.set_cons_zero, List.set_cons_succ]
      refine Late.done (by kernel_rfl) ?_ _
      go_wp2_with fail
      have H4 := HB6.out.put2 (u := .int .i64 (k : Int)) (v := .slice A6 zs.length n6)
      have c4 := H4.cell 0
      have c4' := H4.cell 1
      refine bodyPost_ret (v := .tuple #[.agg #[.int .i64 (k : Int), .slice A6 zs.length n6], .int .i64 0]) (by simp [results, Tryd.results44, go_sem, c4, c4']) rfl ⟨A6, n6, by rw [HQ.out.1, HQ.out.2.1, HQ.out.2.2], (HE6.out.setCell (by show w.heap.size ≤ w.heap.size + 1 + 1 + 1; omega) _).setCell (by show w.heap.size ≤ w.heap.size + 1 + 1 + 1; omega) _, ?_⟩
      rw [HQ.out.2.1]
      exact ((HO6.out.above (Only.set _ _ _ _) hlt).above (Only.set _ _ _ _) hlt).mono hlw (by simp) (Nat.le_refl _)

end Go.Proofs.YtalejhbdbclfaaaDoor
