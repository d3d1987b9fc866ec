/- B1 B2 Scc B3 B4 B5 B6 B7 B8 B9 B10 in one text. -/
import Derived.IntWalk
import Derived.Deep.RegionHeld3
import Derived.BigQuiet
import Derived.Test.YtcdijeeabgmgmaaGreatDoorOy
import Derived.Test.YtcdijeeabgmgmaaGreatDoorZx
import Derived.Test.YtcdijeeabgmgmaaGreatDoorBo
import Derived.Test.YtcdijeeabgmgmaaGreatDoorVal
import Derived.Test.YtcdijeeabgmgmaaGreatDoorInc
import Derived.Test.YtcdijeeabgmgmaaGreatDoorUn
import Derived.Test.YtcdijeeabgmgmaaGreatDoorTwo
import Derived.Test.YtcdijeeabgmgmaaGreatDoorZy
import Derived.Test.YtcdijeeabgmgmaaGreatDoorTkt
/- TransferCochain: representatives and the model. No program here. -/
namespace Go.Proofs.YtcdijeeabgmgmaaGreatDoor
open Go.RowKit

theorem cos_apart {t : List (List Int)} {els : List Nat} : ∀ fst : List Nat, (cosL t els fst).Nodup → ∀ a ∈ fst, ∀ a' ∈ fst, ∀ x, x ∈ els.map (mul t a) → x ∈ els.map (mul t a') → a = a'
  | [], _, a, ha, _, _, _, _, _ => by cases ha
  | c :: fst, hn, a, ha, a', ha', x, hx, hx' => by
    have e : cosL t els (c :: fst) = els.map (mul t c) ++ cosL t els fst := by simp [cosL]
    rw [e, List.nodup_append] at hn
    obtain ⟨-, h2, h3⟩ := hn
    have hin : ∀ {b : Nat}, b ∈ fst → x ∈ els.map (mul t b) → x ∈ cosL t els fst := fun {b} hb hxb => by
      obtain ⟨z, hz, rfl⟩ := List.mem_map.1 hxb
      exact mem_cosL.2 ⟨b, hb, z, hz, rfl⟩
    rcases List.mem_cons.1 ha with h4 | h4
    · rcases List.mem_cons.1 ha' with h5 | h5
      · rw [h4, h5]
      · subst h4
        exact absurd rfl (h3 x hx x (hin h5 hx'))
    · rcases List.mem_cons.1 ha' with h5 | h5
      · subst h5
        exact absurd rfl (h3 x hx' x (hin h4 hx))
      · exact cos_apart fst h2 a h4 a' h5 x hx hx'
/-- A representative is that of its own coset. -/
theorem fst_own {t : List (List Int)} {xs : List Int} (h : SubX t xs) {i : Nat} (hi : i < (cosS t xs).fst.length) : fstA (cosS t xs) ((cosS t xs).num (fstA (cosS t xs) i)) = fstA (cosS t xs) i := by
  have hI := cosK_inv h.g h.s t.length (Nat.le_refl _)
  have hS : cosK t (elsL xs) t.length = cosS t xs := rfl
  rw [hS] at hI
  have hm := fstA_mem hi
  have hl := hI.lt _ hm
  obtain ⟨h1, b, hb, e⟩ := hI.num _ ((hI.met _).2 (hI.all _ hl))
  refine cos_apart _ hI.nd _ (fstA_mem h1) _ hm (fstA (cosS t xs) i) (List.mem_map.2 ⟨b, hb, e.symm⟩) (List.mem_map.2 ⟨0, h.s.z, h.g.mul_zero hl⟩)

/-- The element that stands for a list's number. -/
def tcX (d k : Nat) : Nat := if d = 0 then 0 else k + 1
/-- The list handed to the cochain. -/
noncomputable def tcP (t : List (List Int)) (xs : List Int) (d x i : Nat) : List Int := if d = 0 then [] else [(plN xs (trB t (cosS t xs) x i) : Int)]
/-- The representative's number. -/
noncomputable def tcU (t : List (List Int)) (xs : List Int) (x i : Nat) : Nat := fstA (cosS t xs) ((cosS t xs).num (mul t x (fstA (cosS t xs) i)))
noncomputable def tcT (t : List (List Int)) (us xs fs : List Int) (d x i : Nat) : Int := nth us (tcU t xs x i) * valR xs.length fs (tcP t xs d x i)
noncomputable def tcV (t : List (List Int)) (M : Nat) (us xs fs : List Int) (d k : Nat) : Int := sumT (tcT t us xs fs d (tcX d k)) (cosS t xs).fst.length % (M : Int)
noncomputable def tcY (t : List (List Int)) (M : Nat) (us xs fs : List Int) (d : Nat) : List Int := (List.range (cellsN t.length d)).map (tcV t M us xs fs d)
theorem tcY_len (t : List (List Int)) (M : Nat) (us xs fs : List Int) (d : Nat) : (tcY t M us xs fs d).length = cellsN t.length d := by simp [tcY]

noncomputable def tcC (t : List (List Int)) (m : Int) (us xs : List Int) (n : Int) (fs : List Int) : Int := if scC t m us xs n fs [] = 0 then (if n > 1 then 2 else 0) else scC t m us xs n fs []
noncomputable def qTransferCochain0 (t : List (List Int)) (m : Int) (us xs : List Int) (n : Int) (fs : List Int) : Int := if tcC t m us xs n fs = 0 then n else 0
noncomputable def yTransferCochain0 (t : List (List Int)) (m : Int) (us xs : List Int) (n : Int) (fs : List Int) : List Int := if tcC t m us xs n fs = 0 then tcY t m.toNat us xs fs n.toNat else []
noncomputable def qTransferCochain1 (t : List (List Int)) (m : Int) (us xs : List Int) (n : Int) (fs : List Int) : Int := tcC t m us xs n fs
section
variable {t : List (List Int)} {m n : Int} {us xs fs : List Int}
theorem tc_no {z : Int} (h : tcC t m us xs n fs = z) (hz : z ≠ 0) : qTransferCochain0 t m us xs n fs = 0 ∧ yTransferCochain0 t m us xs n fs = [] ∧ qTransferCochain1 t m us xs n fs = z := by simp [qTransferCochain0, yTransferCochain0, qTransferCochain1, h, hz]
theorem tc_yes {M d : Nat} (h : tcC t (M : Int) us xs (d : Int) fs = 0) : qTransferCochain0 t (M : Int) us xs (d : Int) fs = (d : Int) ∧ yTransferCochain0 t (M : Int) us xs (d : Int) fs = tcY t M us xs fs d ∧ qTransferCochain1 t (M : Int) us xs (d : Int) fs = 0 := by
  simp only [qTransferCochain0, yTransferCochain0, qTransferCochain1, h, if_true, Int.toNat_natCast, and_self]
theorem tcC_err {z : Int} (h : scC t m us xs n fs [] = z) (hz : z ≠ 0) : tcC t m us xs n fs = z := by rw [tcC, h, if_neg hz]
theorem tcC_big (h : scC t m us xs n fs [] = 0) (hn : n > 1) : tcC t m us xs n fs = 2 := by rw [tcC, if_pos h, if_pos hn]
theorem tcC_yes (h : scC t m us xs n fs [] = 0) (hn : ¬ n > 1) : tcC t m us xs n fs = 0 := by rw [tcC, if_pos h, if_neg hn]
/-- What the code 0 says. -/
structure TcF (t : List (List Int)) (M : Nat) (us xs : List Int) (d : Nat) (fs : List Int) : Prop where
  m : ModF t M us
  s : SubX t xs
  d1 : d ≤ 1
  len : fs.length = cellsN xs.length d
  rng : InR M fs
theorem scC_zero (h : scC t m us xs n fs [] = 0) : ∃ M d : Nat, m = (M : Int) ∧ n = (d : Int) ∧ mgE t m us xs [] = 0 ∧ cocB xs.length m n fs = true ∧ ModF t M us ∧ SubX t xs ∧ d ≤ 3 ∧ fs.length = cellsN xs.length d ∧ InR M fs := by
  unfold scC at h
  split at h
  · rename_i h1
    split at h
    · rename_i h2
      obtain ⟨M, rfl, hMF, hs, -⟩ := mgE_zero h1
      obtain ⟨h0, h3, hl, hr⟩ := cocB_yes h2
      obtain ⟨d, rfl⟩ : ∃ d : Nat, n = (d : Int) := ⟨n.toNat, by omega⟩
      rw [Int.toNat_natCast] at hl
      exact ⟨M, d, rfl, rfl, h1, h2, hMF, hs, by omega, hl, belowB_inR hr⟩
    · cases h
  · rename_i h1
    exact absurd h h1
theorem tcC_zero (h : tcC t m us xs n fs = 0) : ∃ M d : Nat, m = (M : Int) ∧ n = (d : Int) ∧ scC t m us xs n fs [] = 0 ∧ TcF t M us xs d fs := by
  unfold tcC at h
  split at h
  · rename_i h1
    split at h
    · cases h
    · rename_i hn
      obtain ⟨M, d, rfl, rfl, -, -, hm, hs, -, hl, hr⟩ := scC_zero h1
      exact ⟨M, d, rfl, rfl, h1, hm, hs, by omega, hl, hr⟩
  · rename_i h1
    exact absurd h h1
theorem transferCochain_small0 (t : List (List Int)) (m : Int) (us xs : List Int) (n : Int) (fs : List Int) : (yTransferCochain0 t m us xs n fs).length ≤ 1048576 := by
  unfold yTransferCochain0
  split
  · rename_i h
    obtain ⟨M, d, rfl, rfl, -, hf⟩ := tcC_zero h
    rw [tcY_len, Int.toNat_natCast]
    have := cellsN_le hf.s.g.n8 (show d ≤ 4 by have := hf.d1; omega)
    omega
  · simp
end

section
variable {t : List (List Int)} {M d : Nat} {us xs fs : List Int} (h : TcF t M us xs d fs)
include h
theorem TcF.x_lt {k : Nat} (hk : k < cellsN t.length d) : tcX d k < t.length := by
  have h1 := h.s.g.n1
  unfold tcX
  rcases (by have := h.d1; omega : d = 0 ∨ d = 1) with rfl | rfl
  · simp; omega
  · have e : cellsN t.length 1 = t.length - 1 := by simp [cellsN]
    rw [e] at hk
    rw [if_neg (by decide)]
    omega
theorem TcF.i_lt {i : Nat} (hi : i < (cosS t xs).fst.length) : fstA (cosS t xs) i < t.length := (cosK_inv h.s.g h.s.s t.length (Nat.le_refl _)).lt _ (fstA_mem hi)
theorem TcF.u_lt {x i : Nat} (hx : x < t.length) (hi : i < (cosS t xs).fst.length) : tcU t xs x i < t.length := (coset_at h.s.g h.s.s (h.s.g.mul_lt hx (h.i_lt hi))).2.1
theorem TcF.b_mem {x i : Nat} (hx : x < t.length) (hi : i < (cosS t xs).fst.length) : trB t (cosS t xs) x i ∈ elsL xs := (coset_at h.s.g h.s.s (h.s.g.mul_lt hx (h.i_lt hi))).2.2
theorem TcF.p_in {x i : Nat} (hx : x < t.length) (hi : i < (cosS t xs).fst.length) : InR xs.length (tcP t xs d x i) ∧ (tcP t xs d x i).length = d := by
  have hp := (h.s.pl (h.b_mem hx hi)).1
  unfold tcP
  rcases (by have := h.d1; omega : d = 0 ∨ d = 1) with rfl | rfl
  · rw [if_pos rfl]
    exact ⟨fun j hj => by simp at hj, rfl⟩
  · rw [if_neg (by decide)]
    refine ⟨fun j hj => ?_, rfl⟩
    match j, hj with
    | 0, _ =>
      show 0 ≤ (plN xs (trB t (cosS t xs) x i) : Int) ∧ (plN xs (trB t (cosS t xs) x i) : Int) < xs.length
      omega
theorem TcF.v_in {x i : Nat} (hx : x < t.length) (hi : i < (cosS t xs).fst.length) : 0 ≤ valR xs.length fs (tcP t xs d x i) ∧ valR xs.length fs (tcP t xs d x i) < (M : Int) :=
  valR_in (by have := h.m.m2; omega) (h.p_in hx hi).1 (h.p_in hx hi).2 h.len h.rng
theorem TcF.n_in {x i : Nat} (hx : x < t.length) (hi : i < (cosS t xs).fst.length) : 0 ≤ nth us (tcU t xs x i) ∧ nth us (tcU t xs x i) < (M : Int) := h.m.rng _ (by rw [h.m.len]; exact h.u_lt hx hi)
theorem TcF.t_in {x i : Nat} (hx : x < t.length) (hi : i < (cosS t xs).fst.length) : 0 ≤ tcT t us xs fs d x i ∧ tcT t us xs fs d x i ≤ 144 := by
  have h1 := h.v_in hx hi
  have h2 := h.n_in hx hi
  have hM := h.m.m12
  refine ⟨Int.mul_nonneg h2.1 h1.1, ?_⟩
  have h3 : nth us (tcU t xs x i) * valR xs.length fs (tcP t xs d x i) ≤ 12 * valR xs.length fs (tcP t xs d x i) := Int.mul_le_mul_of_nonneg_right (by omega) h1.1
  show nth us (tcU t xs x i) * valR xs.length fs (tcP t xs d x i) ≤ 144
  omega
theorem TcF.len8 : (cosS t xs).fst.length ≤ 8 := by
  have hc := cosets_count h.s.g h.s.s
  have hl : 0 < (elsL xs).length := List.length_pos_of_mem h.s.s.z
  have h8 := h.s.g.n8
  have : (cosS t xs).fst.length * 1 ≤ (cosS t xs).fst.length * (elsL xs).length := Nat.mul_le_mul_left _ hl
  have e : (cosS t xs).fst.length * (elsL xs).length = t.length := hc
  omega
end
end Go.Proofs.YtcdijeeabgmgmaaGreatDoor

/- TransferCochain: the program's parts. -/
namespace Go.Proofs.YtcdijeeabgmgmaaGreatDoor
open Go.RowKit

theorem ints_sing {w : World} {b : Nat} {x : Int} (h : Has w b 2 #[.int .i64 x]) : IntsW w (some ⟨b, 0, none⟩) [x] :=
  .inr ⟨b, 0, rfl, h.lt, fun j hj => by
    obtain rfl : j = 0 := by simp at hj; exact hj
    exact h.cell 0⟩
theorem below_sing {N x : Nat} (hx : x < N) : belowB (N : Int) [(x : Int)] = true := by
  simp [belowB, inB]
  omega

set_option maxRecDepth 100000 in
set_option maxHeartbeats 4000000 in
theorem trPart_zero (P A Lh U F L : Option Addr) (pc c ch c1 c2 e kf u b : Nat) (cap : Array Value) (t : List (List Int)) (M : Nat) (us xs fs : List Int) (w : World) (hU : IntsW w U us) (hF : IntsW w F fs) (h : TcF t M us xs 0 fs)
    (eg : ∀ args w, (callFunc kf args).run Tryz.prog w = .ok (.enter kf args) w) (hu : u < t.length)
    (hC : ∀ W, Ex w W → Calls Tryz.prog kf (#[.int .i64 0] ++ cap) W fun e w' => e = .returned (.tuple #[.int .i64 (u : Int), .int .i64 (b : Int)]) ∧ Ex W w') :
    Calls Tryz.prog 64 #[.agg #[.slice P xs.length pc, .slice A t.length c, .slice Lh xs.length ch], .agg #[.int .i64 (M : Int), .slice U us.length c1], .agg #[.int .i64 0, .slice F fs.length c2], .func (.func kf) #[] cap, .slice L 0 e] w fun e w' => e = .returned (.int .i64 (nth us u * valR xs.length fs [])) ∧ Ex w w' := by
  have hM2 := h.m.m2
  have hM12 := h.m.m12
  have hl := h.m.len
  have hg8 := h.s.g.n8
  obtain ⟨bu, ou, rfl, hbu, hcu⟩ := hU.ints.at_ (j := u) (by omega)
  have hnu := h.m.rng u (by omega)
  have hvv : 0 ≤ valR xs.length fs [] ∧ valR xs.length fs [] < (M : Int) := valR_in (d := 0) (by omega) (fun j hj => by simp at hj) rfl h.len h.rng
  have e0 : Ex w (((w.alloc (.cells #[.slice P xs.length pc, .slice A t.length c, .slice Lh xs.length ch] 90)).alloc (.cells #[.int .i64 (M : Int), .slice (some ⟨bu, ou, none⟩) us.length c1] 52)).alloc (.cells #[.int .i64 0, .slice F fs.length c2] 34)) := (((Ex.refl w).alloc _).alloc _).alloc _
  have b0 : Has (((w.alloc (.cells #[.slice P xs.length pc, .slice A t.length c, .slice Lh xs.length ch] 90)).alloc (.cells #[.int .i64 (M : Int), .slice (some ⟨bu, ou, none⟩) us.length c1] 52)).alloc (.cells #[.int .i64 0, .slice F fs.length c2] 34)) (w.heap.size) 90 #[.slice P xs.length pc, .slice A t.length c, .slice Lh xs.length ch] := (((Has.newAt (w := w) (e := 90) (cs := #[.slice P xs.length pc, .slice A t.length c, .slice Lh xs.length ch]) (k := w.heap.size) (by simp)).alloc _).alloc _)
  have b1 : Has (((w.alloc (.cells #[.slice P xs.length pc, .slice A t.length c, .slice Lh xs.length ch] 90)).alloc (.cells #[.int .i64 (M : Int), .slice (some ⟨bu, ou, none⟩) us.length c1] 52)).alloc (.cells #[.int .i64 0, .slice F fs.length c2] 34)) (w.heap.size + 1) 52 #[.int .i64 (M : Int), .slice (some ⟨bu, ou, none⟩) us.length c1] := ((Has.newAt (w := (w.alloc (.cells #[.slice P xs.length pc, .slice A t.length c, .slice Lh xs.length ch] 90))) (e := 52) (cs := #[.int .i64 (M : Int), .slice (some ⟨bu, ou, none⟩) us.length c1]) (k := w.heap.size + 1) (by simp)).alloc _)
  have b2 : Has (((w.alloc (.cells #[.slice P xs.length pc, .slice A t.length c, .slice Lh xs.length ch] 90)).alloc (.cells #[.int .i64 (M : Int), .slice (some ⟨bu, ou, none⟩) us.length c1] 52)).alloc (.cells #[.int .i64 0, .slice F fs.length c2] 34)) (w.heap.size + 1 + 1) 34 #[.int .i64 0, .slice F fs.length c2] := (Has.newAt (w := ((w.alloc (.cells #[.slice P xs.length pc, .slice A t.length c, .slice Lh xs.length ch] 90)).alloc (.cells #[.int .i64 (M : Int), .slice (some ⟨bu, ou, none⟩) us.length c1] 52))) (e := 34) (cs := #[.int .i64 0, .slice F fs.length c2]) (k := w.heap.size + 1 + 1) (by simp))
  have HV := Lib.hid (fun W (he : Ex w W) => show Calls Tryz.prog 98 #[.agg #[.slice P xs.length pc], .agg #[.int .i64 0, .slice F fs.length c2], .slice none 0 0] W fun e w' => e = .returned (.int .i64 (valR xs.length fs [])) ∧ Ex W w' from valueAt_yes P F none 0 xs.length fs [] pc c2 0 W (hF.ex he) (.inl rfl) h.s.len8 h.s.pos (by omega) rfl h.len rfl)
  have HC := Lib.hid (hC _ e0)
  have HSU := Lib.hid (fun W (he : Ex w W) => (he.below.cell (p := ⟨bu, ou + u, none⟩) hbu).trans hcu)
  have HE := Lib.hid e0
  have HB0 := Lib.hid b0
  have HB1 := Lib.hid b1
  have HB2 := Lib.hid b2
  obtain ⟨v, hv⟩ : ∃ v, valR xs.length fs [] = v := ⟨_, rfl⟩
  obtain ⟨n, hn⟩ : ∃ n, nth us u = n := ⟨_, rfl⟩
  rw [hv] at HV hvv
  rw [hn] at HSU hnu
  rw [hv, hn]
  have hp0 : 0 ≤ n * v := Int.mul_nonneg hnu.1 hvv.1
  have hp1 : n * v ≤ 12 * v := Int.mul_le_mul_of_nonneg_right (by omega) hvv.1
  have hw1 : IntKind.i64.wrap (n * v) = n * v := IntWalk.i64_in _ (by omega)
  have hu0 : (0 : Int) ≤ (u : Int) := by omega
  have hul : (u : Int) < (us.length : Int) := by omega
  clear hU hF h hC b0 b1 b2 e0 hcu hv hn hp0 hp1 hnu hvv hl
  go_enter Tryz.func64, Tryz.ntmps64
  go_wp2_with fail
  generalize (((w.alloc (.cells #[.slice P xs.length pc, .slice A t.length c, .slice Lh xs.length ch] 90)).alloc (.cells #[.int .i64 (M : Int), .slice (some ⟨bu, ou, none⟩) us.length c1] 52)).alloc (.cells #[.int .i64 0, .slice F fs.length c2] 34)) = W0 at *
  refine HC.out.mono ?_
  rintro e W1 ⟨rfl, he1⟩
  have HE1 := Lib.hid (HE.out.trans he1)
  have HE2 := Lib.hid he1.drew
  have HSK := Lib.hid (fun W (he : Ex W1.drew W) => And.intro ((HB0.out.ex (HE2.out.trans he)).cell 0) (And.intro ((HB1.out.ex (HE2.out.trans he)).cell 1) (And.intro ((HB2.out.ex (HE2.out.trans he)).cell 0) (And.intro ((HB2.out.ex (HE2.out.trans he)).cell 1) (HSU.out W ((HE.out.trans HE2.out).trans he))))))
  clear he1
  go_wp2_with fail
  refine wp_region_quiet (C := fun w' => Ex W1.drew w') (by kernel_rfl) (by kernel_rfl) (Ex.refl _) ?_
  refine BigFrame.wpQuiet_want (by rfl) fun K hK => ⟨?_, fun w' hC => ?_, hK _ ?_⟩
  rotate_left
  · (obtain ⟨q0, q1, q2, q3, q4⟩ := HSK.out _ hC; go_simp; first | done | with_reducible rfl | exact ⟨rfl, hC⟩)
  clear hK K
  simp only [Act.put, List.setIfInBounds_toArray, List.set_cons_zero, List.set_cons_succ]
  refine BigFrame.wpQuiet_want (by rfl) fun K hK => ⟨?_, fun w' hC => ?_, hK _ ?_⟩
  rotate_left
  · (obtain ⟨q0, q1, q2, q3, q4⟩ := HSK.out _ hC; go_simp; first | done | with_reducible rfl | exact ⟨rfl, hC⟩)
  clear hK K
  simp only [Act.put, List.setIfInBounds_toArray, List.set_cons_zero, List.set_cons_succ]
  refine BigFrame.wpQuiet_want (by rfl) fun K hK => ⟨?_, fun w' hC => ?_, hK _ ?_⟩
  rotate_left
  · (obtain ⟨q0, q1, q2, q3, q4⟩ := HSK.out _ hC; go_simp; first | done | with_reducible rfl | exact ⟨rfl, hC⟩)
  clear hK K
  simp only [Act.put, List.setIfInBounds_toArray, List.set_cons_zero, List.set_cons_succ]
  refine BigFrame.wpQuiet_want (by rfl) fun K hK => ⟨?_, fun w' hC => ?_, hK _ ?_⟩
  rotate_left
  · (obtain ⟨q0, q1, q2, q3, q4⟩ := HSK.out _ hC; go_simp; first | done | with_reducible rfl | exact ⟨rfl, hC⟩)
  clear hK K
  simp only [Act.put, List.setIfInBounds_toArray, List.set_cons_zero, List.set_cons_succ]
  refine BigFrame.wpQuiet_want (by rfl) fun K hK => ⟨?_, fun w' hC => ?_, hK _ ?_⟩
  rotate_left
  · (obtain ⟨q0, q1, q2, q3, q4⟩ := HSK.out _ hC; go_simp; first | done | with_reducible rfl | exact ⟨rfl, hC⟩)
  clear hK K
  simp only [Act.put, List.setIfInBounds_toArray, List.set_cons_zero, List.set_cons_succ]
  refine BigFrame.wpQuiet_want (by rfl) fun K hK => ⟨?_, fun w' hC => ?_, hK _ ?_⟩
  rotate_left
  · (obtain ⟨q0, q1, q2, q3, q4⟩ := HSK.out _ hC; go_simp; first | done | with_reducible rfl | exact ⟨rfl, hC⟩)
  clear hK K
  simp only [Act.put, List.setIfInBounds_toArray, List.set_cons_zero, List.set_cons_succ]
  refine BigFrame.wpQuiet_want (by rfl) fun K hK => ⟨?_, fun w' hC => ?_, hK _ ?_⟩
  rotate_left
  · (obtain ⟨q0, q1, q2, q3, q4⟩ := HSK.out _ hC; go_simp; first | done | with_reducible rfl | exact ⟨rfl, hC⟩)
  clear hK K
  simp only [Act.put, List.setIfInBounds_toArray, List.set_cons_zero, List.set_cons_succ]
  refine BigFrame.wpQuiet_want (by rfl) fun K hK => ⟨?_, fun w' hC => ?_, hK _ ?_⟩
  rotate_left
  · (obtain ⟨q0, q1, q2, q3, q4⟩ := HSK.out _ hC; go_simp; first | done | with_reducible rfl | exact ⟨rfl, hC⟩)
  clear hK K
  simp only [Act.put, List.setIfInBounds_toArray, List.set_cons_zero, List.set_cons_succ]
  refine BigFrame.wpQuiet_want (by rfl) fun K hK => ⟨.int .i64 v, fun w' hC => (by go_simp; refine ((HV.out w' ((HE.out.trans HE2.out).trans hC))).mono ?_; rintro e w2 ⟨rfl, hb⟩; exact ⟨rfl, hC.trans hb⟩), hK _ ?_⟩
  clear hK K
  simp only [Act.put, List.setIfInBounds_toArray, List.set_cons_zero, List.set_cons_succ]
  refine BigFrame.wpQuiet_want (by rfl) fun K hK => ⟨?_, fun w' hC => ?_, hK _ ?_⟩
  rotate_left
  · (obtain ⟨q0, q1, q2, q3, q4⟩ := HSK.out _ hC; go_simp; first | done | with_reducible rfl | exact ⟨rfl, hC⟩)
  clear hK K
  simp only [Act.put, List.setIfInBounds_toArray, List.set_cons_zero, List.set_cons_succ]
  refine BigFrame.wpQuiet_want (by rfl) fun K hK => ⟨?_, fun w' hC => ?_, hK _ ?_⟩
  rotate_left
  · (obtain ⟨q0, q1, q2, q3, q4⟩ := HSK.out _ hC; go_simp; first | done | with_reducible rfl | exact ⟨rfl, hC⟩)
  clear hK K
  simp only [Act.put, List.setIfInBounds_toArray, List.set_cons_zero, List.set_cons_succ]
  refine wpQuiet_nil ?_
  intro w2 hC2
  have HC2 := Lib.hid hC2
  clear hC2
  go_wp2_with fail
  go_ret
  exact ⟨rfl, (HE.out.trans HE2.out).trans HC2.out⟩

set_option maxRecDepth 100000 in
set_option maxHeartbeats 4000000 in
theorem trPart_one (P A Lh U F L : Option Addr) (pc c ch c1 c2 e kf x u b : Nat) (cap : Array Value) (t : List (List Int)) (M : Nat) (us xs fs : List Int) (w : World) (hX : IntsW w Lh xs) (hU : IntsW w U us) (hF : IntsW w F fs) (hL : IntsW w L [(x : Int)]) (h : TcF t M us xs 1 fs)
    (eg : ∀ args w, (callFunc kf args).run Tryz.prog w = .ok (.enter kf args) w) (hu : u < t.length) (hb : b ∈ elsL xs)
    (hC : ∀ W, Ex w W → Calls Tryz.prog kf (#[.int .i64 (x : Int)] ++ cap) W fun e w' => e = .returned (.tuple #[.int .i64 (u : Int), .int .i64 (b : Int)]) ∧ Ex W w') :
    Calls Tryz.prog 64 #[.agg #[.slice P xs.length pc, .slice A t.length c, .slice Lh xs.length ch], .agg #[.int .i64 (M : Int), .slice U us.length c1], .agg #[.int .i64 1, .slice F fs.length c2], .func (.func kf) #[] cap, .slice L 1 e] w fun e w' => e = .returned (.int .i64 (nth us u * valR xs.length fs [(plN xs b : Int)])) ∧ Ex w w' := by
  have hM2 := h.m.m2
  have hM12 := h.m.m12
  have hl := h.m.len
  have hg8 := h.s.g.n8
  obtain ⟨bu, ou, rfl, hbu, hcu⟩ := hU.ints.at_ (j := u) (by omega)
  obtain ⟨bx, ox, rfl, hbx, hcx⟩ := hL.ints.at_ (j := 0) (by simp)
  have hcx' : w.cell? ⟨bx, ox, none⟩ = some (.int .i64 (x : Int)) := hcx
  have hnu := h.m.rng u (by omega)
  have hpl := (h.s.pl hb).1
  have hvv : 0 ≤ valR xs.length fs [(plN xs b : Int)] ∧ valR xs.length fs [(plN xs b : Int)] < (M : Int) := valR_in (d := 1) (by omega) (fun j hj => by
    obtain rfl : j = 0 := by simp at hj; exact hj
    show 0 ≤ (plN xs b : Int) ∧ (plN xs b : Int) < xs.length
    omega) rfl h.len h.rng
  have e0 : Ex w (((w.alloc (.cells #[.slice P xs.length pc, .slice A t.length c, .slice Lh xs.length ch] 90)).alloc (.cells #[.int .i64 (M : Int), .slice (some ⟨bu, ou, none⟩) us.length c1] 52)).alloc (.cells #[.int .i64 1, .slice F fs.length c2] 34)) := (((Ex.refl w).alloc _).alloc _).alloc _
  have b0 : Has (((w.alloc (.cells #[.slice P xs.length pc, .slice A t.length c, .slice Lh xs.length ch] 90)).alloc (.cells #[.int .i64 (M : Int), .slice (some ⟨bu, ou, none⟩) us.length c1] 52)).alloc (.cells #[.int .i64 1, .slice F fs.length c2] 34)) (w.heap.size) 90 #[.slice P xs.length pc, .slice A t.length c, .slice Lh xs.length ch] := (((Has.newAt (w := w) (e := 90) (cs := #[.slice P xs.length pc, .slice A t.length c, .slice Lh xs.length ch]) (k := w.heap.size) (by simp)).alloc _).alloc _)
  have b1 : Has (((w.alloc (.cells #[.slice P xs.length pc, .slice A t.length c, .slice Lh xs.length ch] 90)).alloc (.cells #[.int .i64 (M : Int), .slice (some ⟨bu, ou, none⟩) us.length c1] 52)).alloc (.cells #[.int .i64 1, .slice F fs.length c2] 34)) (w.heap.size + 1) 52 #[.int .i64 (M : Int), .slice (some ⟨bu, ou, none⟩) us.length c1] := ((Has.newAt (w := (w.alloc (.cells #[.slice P xs.length pc, .slice A t.length c, .slice Lh xs.length ch] 90))) (e := 52) (cs := #[.int .i64 (M : Int), .slice (some ⟨bu, ou, none⟩) us.length c1]) (k := w.heap.size + 1) (by simp)).alloc _)
  have b2 : Has (((w.alloc (.cells #[.slice P xs.length pc, .slice A t.length c, .slice Lh xs.length ch] 90)).alloc (.cells #[.int .i64 (M : Int), .slice (some ⟨bu, ou, none⟩) us.length c1] 52)).alloc (.cells #[.int .i64 1, .slice F fs.length c2] 34)) (w.heap.size + 1 + 1) 34 #[.int .i64 1, .slice F fs.length c2] := (Has.newAt (w := ((w.alloc (.cells #[.slice P xs.length pc, .slice A t.length c, .slice Lh xs.length ch] 90)).alloc (.cells #[.int .i64 (M : Int), .slice (some ⟨bu, ou, none⟩) us.length c1] 52))) (e := 34) (cs := #[.int .i64 1, .slice F fs.length c2]) (k := w.heap.size + 1 + 1) (by simp))
  have HV := Lib.hid (fun (k : Nat) W (he : Ex w W) (hk : Has W k 2 #[.int .i64 (plN xs b : Int)]) => show Calls Tryz.prog 98 #[.agg #[.slice P xs.length pc], .agg #[.int .i64 1, .slice F fs.length c2], .slice (some ⟨k, 0, none⟩) 1 1] W fun e w' => e = .returned (.int .i64 (valR xs.length fs [(plN xs b : Int)])) ∧ Ex W w' from valueAt_yes P F (some ⟨k, 0, none⟩) 1 xs.length fs [(plN xs b : Int)] pc c2 1 W (hF.ex he) (ints_sing hk) h.s.len8 h.s.pos (by omega) rfl h.len (below_sing hpl))
  have HN := Lib.hid (fun W (he : Ex w W) => number_any P A Lh xs.length pc t.length c ch b t xs W h.s (hX.ex he) hb)
  have HC := Lib.hid (hC _ e0)
  have HSU := Lib.hid (fun W (he : Ex w W) => (he.below.cell (p := ⟨bu, ou + u, none⟩) hbu).trans hcu)
  have cx := (e0.below.cell (p := ⟨bx, ox, none⟩) hbx).trans hcx'
  have HE := Lib.hid e0
  have HB0 := Lib.hid b0
  have HB1 := Lib.hid b1
  have HB2 := Lib.hid b2
  obtain ⟨q, hq⟩ : ∃ q, plN xs b = q := ⟨_, rfl⟩
  rw [hq] at HV HN hvv
  obtain ⟨v, hv⟩ : ∃ v, valR xs.length fs [(q : Int)] = v := ⟨_, rfl⟩
  obtain ⟨n, hn⟩ : ∃ n, nth us u = n := ⟨_, rfl⟩
  rw [hv] at HV hvv
  rw [hn] at HSU hnu
  rw [hq, hv, hn]
  have hp0 : 0 ≤ n * v := Int.mul_nonneg hnu.1 hvv.1
  have hp1 : n * v ≤ 12 * v := Int.mul_le_mul_of_nonneg_right (by omega) hvv.1
  have hw1 : IntKind.i64.wrap (n * v) = n * v := IntWalk.i64_in _ (by omega)
  have hu0 : (0 : Int) ≤ (u : Int) := by omega
  have hul : (u : Int) < (us.length : Int) := by omega
  clear hX hU hF hL h hC b0 b1 b2 e0 hcu hcx hcx' hv hn hp0 hp1 hnu hvv hq hpl hb hl
  go_enter Tryz.func64, Tryz.ntmps64
  go_wp2_with fail
  generalize (((w.alloc (.cells #[.slice P xs.length pc, .slice A t.length c, .slice Lh xs.length ch] 90)).alloc (.cells #[.int .i64 (M : Int), .slice (some ⟨bu, ou, none⟩) us.length c1] 52)).alloc (.cells #[.int .i64 1, .slice F fs.length c2] 34)) = W0 at *
  refine HC.out.mono ?_
  rintro e W1 ⟨rfl, he1⟩
  have HE2 := Lib.hid he1.drew
  have HCC := Lib.hid (fun W (he : Ex W0 W) => And.intro ((HB0.out.ex he).cell 0) (And.intro ((HB0.out.ex he).cell 1) (And.intro ((HB0.out.ex he).cell 2) (And.intro ((HB1.out.ex he).cell 1) (And.intro ((HB2.out.ex he).cell 0) (And.intro ((HB2.out.ex he).cell 1) (HSU.out W (HE.out.trans he))))))))
  clear he1 cx
  go_wp2_with fail
  have hC0 := HCC.out _ HE2.out
  refine Late.region (C := fun W => W.cell? ⟨w.heap.size, 0, none⟩ = some (.slice P xs.length pc) ∧ W.cell? ⟨w.heap.size, 1, none⟩ = some (.slice A t.length c) ∧ W.cell? ⟨w.heap.size, 2, none⟩ = some (.slice Lh xs.length ch) ∧ W.cell? ⟨w.heap.size + 1, 1, none⟩ = some (.slice (some ⟨bu, ou, none⟩) us.length c1) ∧ W.cell? ⟨w.heap.size + 1 + 1, 0, none⟩ = some (.int .i64 1) ∧ W.cell? ⟨w.heap.size + 1 + 1, 1, none⟩ = some (.slice F fs.length c2) ∧ W.cell? ⟨bu, ou + u, none⟩ = some (.int .i64 n)) (fun _ => true) (by kernel_rfl) hC0 (fun hC => ?_)
  refine Late.take (i := 0) (oi := _) (v := ?_) rfl (by kernel_rfl) (by kernel_rfl) (by kernel_rfl) (by kernel_rfl) (fun _ _ _ h => h) (Or.inl ⟨by rfl, ?_⟩) hC ?_
  rotate_left
  · (intro w hSw; (try dsimp only at hSw); go_simp; first | done | with_reducible rfl)
  simp only [Act.put]
  refine Late.take (i := 1) (oi := _) (v := ?_) rfl (by kernel_rfl) (by kernel_rfl) (by kernel_rfl) (by kernel_rfl) (fun _ _ _ h => h) (Or.inl ⟨by rfl, ?_⟩) hC ?_
  rotate_left
  · (intro w hSw; (try dsimp only at hSw); go_simp; first | done | with_reducible rfl)
  simp only [Act.put]
  refine Late.take (i := 2) (oi := _) (v := ?_) rfl (by kernel_rfl) (by kernel_rfl) (by kernel_rfl) (by kernel_rfl) (fun _ _ _ h => h) (Or.inl ⟨by rfl, ?_⟩) hC ?_
  rotate_left
  · (intro w hSw; (try dsimp only at hSw); go_simp; first | done | with_reducible rfl)
  simp only [Act.put]
  refine Late.take (i := 3) (oi := _) (v := ?_) rfl (by kernel_rfl) (by kernel_rfl) (by kernel_rfl) (by kernel_rfl) (fun _ _ _ h => h) (Or.inl ⟨by rfl, ?_⟩) hC ?_
  rotate_left
  · (intro w hSw; (try dsimp only at hSw); go_simp; first | done | with_reducible rfl)
  simp only [Act.put]
  refine Late.take (i := 4) (oi := _) (v := ?_) rfl (by kernel_rfl) (by kernel_rfl) (by kernel_rfl) (by kernel_rfl) (fun _ _ _ h => h) (Or.inl ⟨by rfl, ?_⟩) hC ?_
  rotate_left
  · (intro w hSw; (try dsimp only at hSw); go_simp; first | done | with_reducible rfl)
  simp only [Act.put]
  refine Late.take (i := 5) (oi := _) (v := ?_) rfl (by kernel_rfl) (by kernel_rfl) (by kernel_rfl) (by kernel_rfl) (fun _ _ _ h => h) (Or.inl ⟨by rfl, ?_⟩) hC ?_
  rotate_left
  · (intro w hSw; (try dsimp only at hSw); go_simp; first | done | with_reducible rfl)
  simp only [Act.put]
  refine Late.take (i := 6) (oi := _) (v := ?_) rfl (by kernel_rfl) (by kernel_rfl) (by kernel_rfl) (by kernel_rfl) (fun _ _ _ h => h) (Or.inl ⟨by rfl, ?_⟩) hC ?_
  rotate_left
  · (intro w hSw; (try dsimp only at hSw); go_simp; first | done | with_reducible rfl)
  simp only [Act.put]
  refine Late.take (i := 7) (oi := _) (v := ?_) rfl (by kernel_rfl) (by kernel_rfl) (by kernel_rfl) (by kernel_rfl) (fun _ _ _ h => h) (Or.inl ⟨by rfl, ?_⟩) hC ?_
  rotate_left
  · (intro w hSw; (try dsimp only at hSw); go_simp; first | done | with_reducible rfl)
  simp only [Act.put]
  refine Late.take (i := 8) (oi := _) (v := ?_) rfl (by kernel_rfl) (by kernel_rfl) (by kernel_rfl) (by kernel_rfl) (fun _ _ _ h => h) (Or.inl ⟨by rfl, ?_⟩) hC ?_
  rotate_left
  · (intro w hSw; (try dsimp only at hSw); go_simp; first | done | with_reducible rfl)
  simp only [Act.put]
  refine Late.take (i := 9) (oi := _) (v := ?_) rfl (by kernel_rfl) (by kernel_rfl) (by kernel_rfl) (by kernel_rfl) (fun _ _ _ h => h) (Or.inl ⟨by rfl, ?_⟩) hC ?_
  rotate_left
  · (intro w hSw; (try dsimp only at hSw); go_simp; first | done | with_reducible rfl)
  simp only [Act.put]
  refine Late.one (i := 10) (o := _) (by kernel_rfl) rfl (fun K' hK' => ?_)
  try rw [if_pos (by rfl)]
  go_simp
  refine (HN.out _ (HE.out.trans HE2.out)).mono ?_
  rintro e W3 ⟨rfl, he3⟩
  have HE3 := Lib.hid (HE2.out.trans he3)
  refine hK'.out _ _ (fun _ => HCC.out _ HE3.out) (fun _ => ?_)
  clear hK' K' hC hC0 he3
  try simp only [Act.put, List.setIfInBounds_toArray, List.set_cons_zero, List.set_cons_succ]
  refine Late.one (i := 11) (o := _) (by kernel_rfl) rfl (fun K' hK' => ?_)
  try rw [if_pos (by rfl)]
  go_simp
  have e4 := HE3.out.alloc (.cells #[.int .i64 (q : Int)] 2)
  have hb4 := Has.new W3 2 #[.int .i64 (q : Int)]
  refine hK'.out _ _ (fun _ => HCC.out _ e4) (fun _ => ?_)
  clear hK' K'
  generalize W3.alloc (.cells #[.int .i64 (q : Int)] 2) = W4 at *
  try simp only [Act.put, List.setIfInBounds_toArray, List.set_cons_zero, List.set_cons_succ]
  refine Late.one (i := 12) (o := _) (by kernel_rfl) rfl (fun K' hK' => ?_)
  try rw [if_pos (by rfl)]
  go_simp
  refine (HV.out _ W4 (HE.out.trans e4) hb4).mono ?_
  rintro e W5 ⟨rfl, he5⟩
  have HE5 := Lib.hid (e4.trans he5)
  have hC5 := HCC.out _ HE5.out
  refine hK'.out _ _ (fun _ => hC5) (fun _ => ?_)
  clear hK' K' he5
  try simp only [Act.put, List.setIfInBounds_toArray, List.set_cons_zero, List.set_cons_succ]
  refine Late.take (i := 13) (oi := _) (v := ?_) rfl (by kernel_rfl) (by kernel_rfl) (by kernel_rfl) (by kernel_rfl) (fun _ _ _ h => h) (Or.inl ⟨by rfl, ?_⟩) hC5 ?_
  rotate_left
  · (intro w hSw; (try dsimp only at hSw); go_simp; first | done | with_reducible rfl)
  simp only [Act.put]
  refine Late.one (i := 14) (o := _) (by kernel_rfl) rfl (fun K' hK' => ?_)
  go_simp
  refine hK'.out _ _ (fun _ => hC5) (fun _ => ?_)
  clear hK' K'
  try simp only [Act.put, List.setIfInBounds_toArray, List.set_cons_zero, List.set_cons_succ]
  refine Late.done (by kernel_rfl) ?_ _
  go_wp2_with fail
  go_ret
  exact ⟨rfl, HE.out.trans HE5.out⟩

/-- Both in one. -/
theorem trPart_any (P A Lh U F L : Option Addr) (pc c ch c1 c2 e kf d x i : Nat) (cap : Array Value) (t : List (List Int)) (M : Nat) (us xs fs : List Int) (w : World) (hX : IntsW w Lh xs) (hU : IntsW w U us) (hF : IntsW w F fs) (hL : d = 1 → IntsW w L [(x : Int)]) (h : TcF t M us xs d fs) (hx0 : d = 0 → x = 0)
    (eg : ∀ args w, (callFunc kf args).run Tryz.prog w = .ok (.enter kf args) w) (hx : x < t.length) (hi : i < (cosS t xs).fst.length)
    (hC : ∀ W, Ex w W → Calls Tryz.prog kf (#[.int .i64 (x : Int)] ++ cap) W fun e w' => e = .returned (.tuple #[.int .i64 (tcU t xs x i : Int), .int .i64 (trB t (cosS t xs) x i : Int)]) ∧ Ex W w') :
    Calls Tryz.prog 64 #[.agg #[.slice P xs.length pc, .slice A t.length c, .slice Lh xs.length ch], .agg #[.int .i64 (M : Int), .slice U us.length c1], .agg #[.int .i64 (d : Int), .slice F fs.length c2], .func (.func kf) #[] cap, .slice L d e] w fun e w' => e = .returned (.int .i64 (tcT t us xs fs d x i)) ∧ Ex w w' := by
  have hu := h.u_lt hx hi
  have hb := h.b_mem hx hi
  unfold tcT tcP
  rcases (by have := h.d1; omega : d = 0 ∨ d = 1) with rfl | rfl
  · obtain rfl := hx0 rfl
    rw [if_pos rfl]
    exact trPart_zero P A Lh U F L pc c ch c1 c2 e kf _ _ cap t M us xs fs w hU hF h eg hu hC
  · rw [if_neg (by decide)]
    exact trPart_one P A Lh U F L pc c ch c1 c2 e kf x _ _ cap t M us xs fs w hX hU hF (hL rfl) h eg hu hb hC

theorem sumT_bnd {T : Nat → Int} {n : Nat} (h : ∀ j, j < n → 0 ≤ T j ∧ T j ≤ 144) : ∀ k, k ≤ n → 0 ≤ sumT T k ∧ sumT T k ≤ 144 * (k : Int)
  | 0, _ => by simp [sumT]
  | k + 1, hk => by
    have h1 := sumT_bnd h k (by omega)
    have h2 := h k (by omega)
    rw [sumT]
    omega

set_option maxRecDepth 100000 in
set_option maxHeartbeats 2000000 in
theorem sumOfC_any (F : Option Addr) (n n2 M kf : Nat) (V : Nat → Value) (cap : Array Value) (T : Nat → Int) (w : World) (hn8 : n ≤ 8) (hM : 0 < M) (hM12 : M ≤ 12)
    (hF : ∀ j, j < n → ∃ b, F = some ⟨b, 0, none⟩ ∧ b < w.heap.size ∧ w.cell? ⟨b, j, none⟩ = some (V j))
    (hV : ∀ j, j < n → ∃ g c, V j = .func (.func g) #[] c)
    (eg : ∀ args w, (callFunc kf args).run Tryz.prog w = .ok (.enter kf args) w) (hT : ∀ j, j < n → 0 ≤ T j ∧ T j ≤ 144)
    (hC : ∀ W', Ex w W' → ∀ j, j < n → Calls Tryz.prog kf (#[V j] ++ cap) W' fun e w' => e = .returned (.int .i64 (T j)) ∧ Ex W' w') :
    Calls Tryz.prog 62 #[.int .i64 (M : Int), .slice F n n2, .func (.func kf) #[] cap] w fun e w' => e = .returned (.int .i64 (sumT T n % (M : Int))) ∧ Ex w w' := by
  have HSB := Lib.hid (sumT_bnd hT)
  have HFF := Lib.hid hF
  have HVV := Lib.hid hV
  have HCC := Lib.hid hC
  have HT := Lib.hid hT
  have HEG := Lib.hid eg
  clear hF hV hC hT eg
  go_enter Tryz.func62, Tryz.ntmps62
  go_wp2_with fail
  go_loopw [7, 12] (fun s i' wr => ∃ j : Nat, j ≤ n ∧ i' = .int .i64 (j : Int) ∧ s = .int .i64 (sumT T j) ∧ Hid (Ex w wr)) (fun _ i' _ => n - (intOf i').toNat)
  case atStart => exact ⟨0, Nat.zero_le _, rfl, rfl, Lib.hid (Ex.refl _)⟩
  case round =>
    obtain ⟨j, hj, rfl, rfl, HE⟩ := hrel
    by_cases hlt : j < n
    · obtain ⟨b, rfl, hb, hc⟩ := HFF.out j hlt
      obtain ⟨g, cg, hv⟩ := HVV.out j hlt
      have c0 := (HE.out.below.cell (p := ⟨b, j, none⟩) hb).trans hc
      have hbn := HSB.out (j + 1) (by omega)
      have hbn2 := HSB.out j (by omega)
      have htn := HT.out j hlt
      have HSE := Lib.hid (show sumT T (j + 1) = sumT T j + T j from rfl)
      rw [HSE.out] at hbn
      have HFJ := Lib.hid (fun W' (he : Ex w W') => HCC.out W' he j hlt)
      rw [hv] at c0 HFJ
      obtain ⟨s, hs⟩ : ∃ s, sumT T j = s := ⟨_, rfl⟩
      obtain ⟨tv, htv⟩ : ∃ tv, T j = tv := ⟨_, rfl⟩
      rw [hs, htv] at hbn HSE
      rw [hs] at hbn2 ⊢
      rw [htv] at HFJ htn
      have hegw := HEG.out
      have hj0 : (0 : Int) ≤ (j : Int) := by omega
      have hjn : (j : Int) < (n : Int) := by omega
      clear hv hs htv hc
      go_wp2_with fail
      refine (HFJ.out _ HE.out).mono ?_
      rintro e w' ⟨rfl, he⟩
      have HE2 := Lib.hid (HE.out.trans he)
      clear he hegw c0
      go_wp2_with fail
      go_roundw
      case rel => exact ⟨j + 1, by omega, by go_num, by rw [HSE.out], HE2⟩
      case measure => simp [intOf]; omega
    · obtain rfl : j = n := by omega
      have hbn2 := HSB.out j (by omega)
      obtain ⟨s, hs⟩ : ∃ s, sumT T j = s := ⟨_, rfl⟩
      have HSS := Lib.hid hs
      rw [hs] at hbn2 ⊢
      clear hs
      go_wp2_with (go_at_call 97; refine (restOf_w s M _ hM hM12 (by omega) (by omega)).mono ?_; rintro e w' ⟨rfl, rfl⟩)
      go_ret
      exact ⟨by rw [HSS.out]; rfl, HE.out⟩

end Go.Proofs.YtcdijeeabgmgmaaGreatDoor

/- The code of a cochain of a subgroup's module, by the program. -/
namespace Go.Proofs.YtcdijeeabgmgmaaGreatDoor
open Go.RowKit Go.Shelf

attribute [local go_sem] Oper.semAt_some

set_option maxRecDepth 100000 in
set_option maxHeartbeats 4000000 in
theorem subgroupCochainCode_any (A U L F E : Option Addr) (t : List (List Int)) (m : Int) (us xs : List Int) (n : Int) (fs es : List Int) (c c1 c2 c3 c4 : Nat) (w : World) (hR : RwsW w A t) (hU : IntsW w U us) (hX : IntsW w L xs) (hF : IntsW w F fs) (hY : IntsW w E es) (hs : SmallT t) (hu : us.length ≤ 1048576) (hx : xs.length ≤ 1048576) (hf : fs.length ≤ 1048576) (hy : es.length ≤ 1048576) (hT : TabL w) :
    Calls Tryz.prog 57 #[.agg #[.slice A t.length c], .agg #[.int .i64 m, .slice U us.length c1], .slice L xs.length c2, .agg #[.int .i64 n, .slice F fs.length c3], .slice E es.length c4] w fun e w' => e = .returned (.int .i64 (scC t m us xs n fs es)) ∧ Ex w w' := by
  have e0 : Ex w (((w.alloc (.cells #[.slice A t.length c] 32)).alloc (.cells #[.int .i64 m, .slice U us.length c1] 52)).alloc (.cells #[.int .i64 n, .slice F fs.length c3] 34)) := (((Ex.refl w).alloc _).alloc _).alloc _
  have b0 : Has (((w.alloc (.cells #[.slice A t.length c] 32)).alloc (.cells #[.int .i64 m, .slice U us.length c1] 52)).alloc (.cells #[.int .i64 n, .slice F fs.length c3] 34)) (w.heap.size) 32 #[.slice A t.length c] := (((Has.newAt (w := w) (e := 32) (cs := #[.slice A t.length c]) (k := w.heap.size) (by simp)).alloc _).alloc _)
  have b1 : Has (((w.alloc (.cells #[.slice A t.length c] 32)).alloc (.cells #[.int .i64 m, .slice U us.length c1] 52)).alloc (.cells #[.int .i64 n, .slice F fs.length c3] 34)) (w.heap.size + 1) 52 #[.int .i64 m, .slice U us.length c1] := ((Has.newAt (w := (w.alloc (.cells #[.slice A t.length c] 32))) (e := 52) (cs := #[.int .i64 m, .slice U us.length c1]) (k := w.heap.size + 1) (by simp)).alloc _)
  have b2 : Has (((w.alloc (.cells #[.slice A t.length c] 32)).alloc (.cells #[.int .i64 m, .slice U us.length c1] 52)).alloc (.cells #[.int .i64 n, .slice F fs.length c3] 34)) (w.heap.size + 1 + 1) 34 #[.int .i64 n, .slice F fs.length c3] := (Has.newAt (w := ((w.alloc (.cells #[.slice A t.length c] 32)).alloc (.cells #[.int .i64 m, .slice U us.length c1] 52))) (e := 34) (cs := #[.int .i64 n, .slice F fs.length c3]) (k := w.heap.size + 1 + 1) (by simp))
  have HMG := Lib.hid (fun W (he : Ex w W) => subgroupModuleCode_any A U L E t m us xs es c c1 c2 c4 W (hR.ex he) (hU.ex he) (hX.ex he) (hY.ex he) hs hu hx hy (hT.ex he))
  have k0 := b0.cell 0
  have k1 := b1.cell 0
  have k1' := b1.cell 1
  by_cases hz : mgE t m us xs es = 0
  · obtain ⟨M, rfl, hMF, hsx, -⟩ := mgE_zero hz
    have HIN := Lib.hid (fun W (he : Ex w W) => inclusionOf_any A L t xs c c2 W (hR.ex he) (hX.ex he) hsx)
    have hN8 := hMF.g.n8
    have hul := hMF.len
    have HMA := Lib.hid (fun (W : World) (R : Nat) (he : Ex w W) => moduleAlong_any (some ⟨R, 0, none⟩) A L U xs.length xs.length t.length c c2 c1 (M : Int) us xs W (hU.ex he) (hX.ex he) rfl hsx.len8 (by omega) (fun i hi => by have := hsx.rng hi; omega))
    have HFM := Lib.hid (fun (W : World) (P A' : Option Addr) (q n' : Nat) (he : Ex w W) => fitsModule_any P A' F (grT t xs) M xs n fs q n' c3 W (by rw [grT_len]; exact hsx.pos) (by rw [grT_len]; exact hsx.len8) hMF.m12 (hF.ex he) hf)
    rw [grT_len] at HFM
    have HQ : Hid (scC t (M : Int) us xs n fs es = if cocB xs.length (M : Int) n fs = true then 0 else 1) := Lib.hid (by rw [scC, if_pos hz])
    obtain ⟨b, hb⟩ : ∃ b, cocB xs.length (M : Int) n fs = b := ⟨_, rfl⟩
    rw [hb] at HQ HFM
    rw [hz] at HMG
    clear hz hMF hsx hN8 hul hb hR hU hX hF hY hs hu hx hf hy hT
    go_enter Tryz.func57, Tryz.ntmps57
    go_wp2_with fail
    generalize (((w.alloc (.cells #[.slice A t.length c] 32)).alloc (.cells #[.int .i64 (M : Int), .slice U us.length c1] 52)).alloc (.cells #[.int .i64 n, .slice F fs.length c3] 34)) = W0 at *
    refine (HMG.out W0 e0).mono ?_
    rintro e W1 ⟨rfl, he1⟩
    have HE1 := Lib.hid (e0.trans he1)
    have HB0 := Lib.hid (b0.ex he1)
    have HB1 := Lib.hid (b1.ex he1)
    have HB2 := Lib.hid (b2.ex he1)
    have q0 := HB0.out.cell 0
    clear b0 b1 b2 e0 he1 k0 k1 k1'
    go_wp2_with fail
    refine (HIN.out W1 HE1.out).mono ?_
    rintro e W2 ⟨G, R, rfl, he2, -, -, -, -⟩
    obtain ⟨s, hs⟩ : ∃ s, W2.heap.size = s := ⟨_, rfl⟩
    have ea := he2.trans (Ex.new W2 (.cells #[.slice (some ⟨R, 0, none⟩) xs.length xs.length, .slice A t.length c, .slice L xs.length c2] 90))
    have HE3 := Lib.hid (HE1.out.trans ea)
    have HB13 := Lib.hid (HB1.out.ex ea)
    have HB23 := Lib.hid (HB2.out.ex ea)
    have HI3 : Hid (Has (W2.alloc (.cells #[.slice (some ⟨R, 0, none⟩) xs.length xs.length, .slice A t.length c, .slice L xs.length c2] 90)) s 90 #[.slice (some ⟨R, 0, none⟩) xs.length xs.length, .slice A t.length c, .slice L xs.length c2]) := Lib.hid (Has.newAt hs)
    clear he2 ea q0
    go_upto_region 5 with (fail)
    simp only [hs] at *
    clear hs
    generalize W2.alloc (.cells #[.slice (some ⟨R, 0, none⟩) xs.length xs.length, .slice A t.length c, .slice L xs.length c2] 90) = W3 at *
    have HCF := Lib.hid (fun (W : World) (he : Ex W3 W) => And.intro ((HI3.out.ex he).cell 0) (And.intro ((HI3.out.ex he).cell 1) (And.intro ((HI3.out.ex he).cell 2) (And.intro ((HB13.out.ex he).cell 0) (And.intro ((HB13.out.ex he).cell 1) (And.intro ((HB23.out.ex he).cell 0) ((HB23.out.ex he).cell 1)))))))
    have hC0 := HCF.out W3 (Ex.refl _)
    refine Late.region (C := fun w' => w'.cell? ⟨s, 0, none⟩ = some (.slice (some ⟨R, 0, none⟩) xs.length xs.length) ∧ w'.cell? ⟨s, 1, none⟩ = some (.slice A t.length c) ∧ w'.cell? ⟨s, 2, none⟩ = some (.slice L xs.length c2) ∧ w'.cell? ⟨w.heap.size + 1, 0, none⟩ = some (.int .i64 (M : Int)) ∧ w'.cell? ⟨w.heap.size + 1, 1, none⟩ = some (.slice U us.length c1) ∧ w'.cell? ⟨w.heap.size + 1 + 1, 0, none⟩ = some (.int .i64 n) ∧ w'.cell? ⟨w.heap.size + 1 + 1, 1, none⟩ = some (.slice F fs.length c3)) (fun _ => true) (by kernel_rfl) hC0 (fun hC => ?_)
    refine Late.take (i := 0) (oi := _) (v := ?_) rfl (by kernel_rfl) (by kernel_rfl) (by kernel_rfl) (by kernel_rfl) (fun _ _ _ h => h) (Or.inl ⟨by rfl, ?_⟩) hC ?_
    rotate_left
    · (intro w hSw; (try dsimp only at hSw); go_simp; first | done | with_reducible rfl)
    simp only [Act.put]
    refine Late.take (i := 1) (oi := _) (v := ?_) rfl (by kernel_rfl) (by kernel_rfl) (by kernel_rfl) (by kernel_rfl) (fun _ _ _ h => h) (Or.inl ⟨by rfl, ?_⟩) hC ?_
    rotate_left
    · (intro w hSw; (try dsimp only at hSw); go_simp; first | done | with_reducible rfl)
    simp only [Act.put]
    refine Late.take (i := 2) (oi := _) (v := ?_) rfl (by kernel_rfl) (by kernel_rfl) (by kernel_rfl) (by kernel_rfl) (fun _ _ _ h => h) (Or.inl ⟨by rfl, ?_⟩) hC ?_
    rotate_left
    · (intro w hSw; (try dsimp only at hSw); go_simp; first | done | with_reducible rfl)
    simp only [Act.put]
    refine Late.take (i := 3) (oi := _) (v := ?_) rfl (by kernel_rfl) (by kernel_rfl) (by kernel_rfl) (by kernel_rfl) (fun _ _ _ h => h) (Or.inl ⟨by rfl, ?_⟩) hC ?_
    rotate_left
    · (intro w hSw; (try dsimp only at hSw); go_simp; first | done | with_reducible rfl)
    simp only [Act.put]
    refine Late.take (i := 4) (oi := _) (v := ?_) rfl (by kernel_rfl) (by kernel_rfl) (by kernel_rfl) (by kernel_rfl) (fun _ _ _ h => h) (Or.inl ⟨by rfl, ?_⟩) hC ?_
    rotate_left
    · (intro w hSw; (try dsimp only at hSw); go_simp; first | done | with_reducible rfl)
    simp only [Act.put]
    refine Late.take (i := 6) (oi := _) (v := ?_) rfl (by kernel_rfl) (by kernel_rfl) (by kernel_rfl) (by kernel_rfl) (fun _ _ _ h => h) (Or.inl ⟨by rfl, ?_⟩) hC ?_
    rotate_left
    · (intro w hSw; (try dsimp only at hSw); go_simp; first | done | with_reducible rfl)
    simp only [Act.put]
    clear hC hC0
    refine Late.one (i := 5) (o := _) (by kernel_rfl) rfl (fun K' hK' => ?_)
    go_simp
    refine (HMA.out W3.drew R HE3.out.drew).mono ?_
    rintro e W4 ⟨A', n', rfl, he4, -⟩
    have HX4 := Lib.hid ((Ex.refl W3).drew.trans he4)
    refine hK'.out _ _ (fun _ => HCF.out W4 HX4.out) (fun _ => ?_)
    clear hK' K' he4
    try simp only [Act.put, List.setIfInBounds_toArray, List.set_cons_zero, List.set_cons_succ]
    refine Late.one (i := 7) (o := _) (by kernel_rfl) rfl (fun K' hK' => ?_)
    go_simp
    refine (HFM.out W4 (some ⟨R, 0, none⟩) A' xs.length n' (HE3.out.trans HX4.out)).mono ?_
    rintro e W5 ⟨rfl, he5⟩
    have HX5 := Lib.hid (HX4.out.trans he5)
    have HE5 := Lib.hid (HE3.out.trans HX5.out)
    have hC5 := HCF.out W5 HX5.out
    refine hK'.out _ _ (fun _ => hC5) (fun _ => ?_)
    clear hK' K' he5
    try simp only [Act.put, List.setIfInBounds_toArray, List.set_cons_zero, List.set_cons_succ]
    refine Late.take (i := 8) (oi := _) (v := ?_) rfl (by kernel_rfl) (by kernel_rfl) (by kernel_rfl) (by kernel_rfl) (fun _ _ _ h => h) (Or.inl ⟨by rfl, ?_⟩) hC5 ?_
    rotate_left
    · (intro w hSw; (try dsimp only at hSw); go_simp; first | done | with_reducible rfl)
    simp only [Act.put]
    refine Late.done (by kernel_rfl) ?_ _
    cases b <;>
    · go_wp2_with fail
      go_ret
      exact ⟨by rw [HQ.out]; rfl, HE5.out⟩
  · obtain ⟨z, hzz⟩ : ∃ z, mgE t m us xs es = z := ⟨_, rfl⟩
    have HQ : Hid (scC t m us xs n fs es = z) := Lib.hid (by rw [scC, if_neg hz, hzz])
    rw [hzz] at HMG hz
    have hzb : (z != 0) = true := by simpa using hz
    clear hz hzz hR hU hX hF hY hs hu hx hf hy hT
    go_enter Tryz.func57, Tryz.ntmps57
    go_wp2_with fail
    generalize (((w.alloc (.cells #[.slice A t.length c] 32)).alloc (.cells #[.int .i64 m, .slice U us.length c1] 52)).alloc (.cells #[.int .i64 n, .slice F fs.length c3] 34)) = W0 at *
    refine (HMG.out W0 e0).mono ?_
    rintro e W1 ⟨rfl, he1⟩
    have HE1 := Lib.hid (e0.trans he1)
    clear b0 b1 b2 e0 he1 k0 k1 k1'
    go_wp2_with fail
    go_ret
    exact ⟨by rw [HQ.out]; rfl, HE1.out⟩

end Go.Proofs.YtcdijeeabgmgmaaGreatDoor

/- TransferCochain: the closures, the program's contract. -/
namespace Go.Proofs.YtcdijeeabgmgmaaGreatDoor
open Go.RowKit

theorem tc_list {N d k : Nat} (hd : d ≤ 1) (hk : k < cellsN N d) : d = 1 → lsL N d k = [(tcX d k : Int)] := by
  rintro rfl
  have e : cellsN N 1 = N - 1 := by simp [cellsN]
  rw [e] at hk
  have e2 : dN N 1 k 0 = k + 1 := by
    show k / (N - 1) ^ 0 % (N - 1) + 1 = k + 1
    rw [Nat.pow_zero, Nat.div_one, Nat.mod_eq_of_lt hk]
  show [(dN N 1 k 0 : Int)] = _
  rw [e2]
  rfl

set_option maxRecDepth 100000 in
set_option maxHeartbeats 1000000 in
theorem tc11_ex (Bi Bm Bf Bl : Nat) (P A Lh U F L : Option Addr) (pc c ch c1 c2 e kf d x i : Nat) (cap : Array Value) (t : List (List Int)) (M : Nat) (us xs fs : List Int) (w : World)
    (hI : Has w Bi 90 #[.slice P xs.length pc, .slice A t.length c, .slice Lh xs.length ch]) (hMo : Has w Bm 52 #[.int .i64 (M : Int), .slice U us.length c1]) (hFo : Has w Bf 34 #[.int .i64 (d : Int), .slice F fs.length c2]) (hLi : Has w Bl 25 #[.slice L d e])
    (hX : IntsW w Lh xs) (hU : IntsW w U us) (hF : IntsW w F fs) (hL : d = 1 → IntsW w L [(x : Int)]) (h : TcF t M us xs d fs) (hx0 : d = 0 → x = 0)
    (eg : ∀ args w, (callFunc kf args).run Tryz.prog w = .ok (.enter kf args) w) (hx : x < t.length) (hi : i < (cosS t xs).fst.length)
    (hC : ∀ W, Ex w W → Calls Tryz.prog kf (#[.int .i64 (x : Int)] ++ cap) W fun e w' => e = .returned (.tuple #[.int .i64 (tcU t xs x i : Int), .int .i64 (trB t (cosS t xs) x i : Int)]) ∧ Ex W w') :
    Calls Tryz.prog 63 #[.func (.func kf) #[] cap, .pointer (some ⟨Bi, 0, none⟩), .pointer (some ⟨Bm, 0, none⟩), .pointer (some ⟨Bf, 0, none⟩), .pointer (some ⟨Bl, 0, none⟩)] w fun e w' => e = .returned (.int .i64 (tcT t us xs fs d x i)) ∧ Ex w w' := by
  have HT := Lib.hid (trPart_any P A Lh U F L pc c ch c1 c2 e kf d x i cap t M us xs fs w hX hU hF hL h hx0 eg hx hi hC)
  have i0 := hI.cell 0
  have i1 := hI.cell 1
  have i2 := hI.cell 2
  have m0 := hMo.cell 0
  have m1 := hMo.cell 1
  have f0 := hFo.cell 0
  have f1 := hFo.cell 1
  have l0 := hLi.cell 0
  clear hI hMo hFo hLi hX hU hF hL h hx0 eg hx hi hC
  go_enter Tryz.func63, Tryz.ntmps63
  go_wp2_with fail
  refine HT.out.mono ?_
  rintro e W1 ⟨rfl, he1⟩
  have HE1 := Lib.hid he1
  clear he1 i0 i1 i2 m0 m1 f0 f1 l0
  go_wp2_with fail
  go_ret
  exact ⟨rfl, HE1.out⟩

set_option maxRecDepth 100000 in
set_option maxHeartbeats 2000000 in
theorem tc1_ex (Bi Bm Bf Bc : Nat) (P A Lh U F L Fc : Option Addr) (pc c ch c1 c2 e n2 d x : Nat) (V : Nat → Value) (t : List (List Int)) (M : Nat) (us xs fs : List Int) (w : World)
    (hI : Has w Bi 90 #[.slice P xs.length pc, .slice A t.length c, .slice Lh xs.length ch]) (hMo : Has w Bm 52 #[.int .i64 (M : Int), .slice U us.length c1]) (hFo : Has w Bf 34 #[.int .i64 (d : Int), .slice F fs.length c2]) (hCo : Has w Bc 92 #[.slice Fc (cosS t xs).fst.length n2])
    (hFc : ∀ j, j < (cosS t xs).fst.length → ∃ b, Fc = some ⟨b, 0, none⟩ ∧ b < w.heap.size ∧ w.cell? ⟨b, j, none⟩ = some (V j))
    (hX : IntsW w Lh xs) (hU : IntsW w U us) (hF : IntsW w F fs) (hL : d = 1 → IntsW w L [(x : Int)]) (h : TcF t M us xs d fs) (hx0 : d = 0 → x = 0) (hx : x < t.length)
    (hV : ∀ j, j < (cosS t xs).fst.length → ∃ kf cap, V j = .func (.func kf) #[] cap ∧ (∀ args w, (callFunc kf args).run Tryz.prog w = .ok (.enter kf args) w) ∧
      ∀ W, Ex w W → Calls Tryz.prog kf (#[.int .i64 (x : Int)] ++ cap) W fun e w' => e = .returned (.tuple #[.int .i64 (tcU t xs x j : Int), .int .i64 (trB t (cosS t xs) x j : Int)]) ∧ Ex W w') :
    Calls Tryz.prog 61 #[.slice L d e, .pointer (some ⟨Bm, 0, none⟩), .pointer (some ⟨Bc, 0, none⟩), .pointer (some ⟨Bi, 0, none⟩), .pointer (some ⟨Bf, 0, none⟩)] w fun e w' => e = .returned (.int .i64 (sumT (tcT t us xs fs d x) (cosS t xs).fst.length % (M : Int))) ∧ Ex w w' := by
  have e0 : Ex w (w.alloc (.cells #[.slice L d e] 25)) := (Ex.refl w).alloc _
  have b0 : Has (w.alloc (.cells #[.slice L d e] 25)) (w.heap.size) 25 #[.slice L d e] := (Has.newAt (w := w) (e := 25) (cs := #[.slice L d e]) (k := w.heap.size) (by simp))
  have hmf : ∀ (fn : Fn) (first cap : Array Value) (w : World), (Instr.makeFunc fn first cap).run Tryz.prog w = .ok (.func fn first cap) w := fun _ _ _ _ => rfl
  have HS : Hid (Calls Tryz.prog 62 #[.int .i64 (M : Int), .slice Fc (cosS t xs).fst.length n2, .func (.func 63) #[] #[.pointer (some ⟨Bi, 0, none⟩), .pointer (some ⟨Bm, 0, none⟩), .pointer (some ⟨Bf, 0, none⟩), .pointer (some ⟨w.heap.size, 0, none⟩)]] (w.alloc (.cells #[.slice L d e] 25)) fun en w' => en = .returned (.int .i64 (sumT (tcT t us xs fs d x) (cosS t xs).fst.length % (M : Int))) ∧ Ex (w.alloc (.cells #[.slice L d e] 25)) w') := Lib.hid
    (sumOfC_any Fc (cosS t xs).fst.length n2 M 63 V #[.pointer (some ⟨Bi, 0, none⟩), .pointer (some ⟨Bm, 0, none⟩), .pointer (some ⟨Bf, 0, none⟩), .pointer (some ⟨w.heap.size, 0, none⟩)] (tcT t us xs fs d x) _ h.len8 (by have := h.m.m2; omega) h.m.m12
      (fun j hj => let ⟨b, h1, h2, h3⟩ := hFc j hj; ⟨b, h1, Nat.lt_of_lt_of_le h2 e0.size, (e0.below.cell (p := ⟨b, j, none⟩) h2).trans h3⟩)
      (fun j hj => let ⟨kf, cap, h1, _, _⟩ := hV j hj; ⟨kf, cap, h1⟩)
      (enters_of Tryz.func63 (by kernel_rfl) rfl) (fun j hj => h.t_in hx hj)
      (fun W' he j hj => by
        obtain ⟨kf, cap, h1, h2, h3⟩ := hV j hj
        rw [h1]
        exact tc11_ex Bi Bm Bf w.heap.size P A Lh U F L pc c ch c1 c2 e kf d x j cap t M us xs fs W' (hI.ex (e0.trans he)) (hMo.ex (e0.trans he)) (hFo.ex (e0.trans he)) (b0.ex he) (hX.ex (e0.trans he)) (hU.ex (e0.trans he)) (hF.ex (e0.trans he)) (fun hd => (hL hd).ex (e0.trans he)) h hx0 h2 hx hj (fun W hw => h3 W ((e0.trans he).trans hw))))
  have m0 := (hMo.ex e0).cell 0
  have c0 := (hCo.ex e0).cell 0
  have HE := Lib.hid e0
  obtain ⟨r, hr⟩ : ∃ r, sumT (tcT t us xs fs d x) (cosS t xs).fst.length % (M : Int) = r := ⟨_, rfl⟩
  obtain ⟨K, hK⟩ : ∃ K, (cosS t xs).fst.length = K := ⟨_, rfl⟩
  rw [hr] at HS ⊢
  rw [hK] at HS c0
  clear hI hMo hFo hCo hFc hX hU hF hL h hx0 hx hV b0 e0 hr hK
  go_enter Tryz.func61, Tryz.ntmps61
  go_wp2_with fail
  generalize (w.alloc (.cells #[.slice L d e] 25)) = W0 at *
  refine HS.out.mono ?_
  rintro e W1 ⟨rfl, he1⟩
  have HE1 := Lib.hid (HE.out.trans he1)
  clear he1 m0 c0 hmf
  go_wp2_with fail
  go_ret
  exact ⟨rfl, HE1.out⟩

set_option maxRecDepth 100000 in
set_option maxHeartbeats 4000000 in
theorem implTC_err (t0 : List (List Int)) (m1 : Int) (t1 t2 : List Int) (m3 : Int) (t3 : List Int) (B0 : Option Addr) (d0 : Nat) (B1 : Option Addr) (d1 : Nat) (B2 : Option Addr) (d2 : Nat) (B3 : Option Addr) (d3 : Nat) (w : World) (hR : RwsW w B0 t0) (hU : IntsW w B1 t1) (hX : IntsW w B2 t2) (hF : IntsW w B3 t3) (hs : SmallT t0) (hu : t1.length ≤ 1048576) (hx : t2.length ≤ 1048576) (hf : t3.length ≤ 1048576) (hT : TabL w) (hz : scC t0 m1 t1 t2 m3 t3 [] ≠ 0) :
    Calls Tryz.prog 28 #[.agg #[.slice B0 t0.length d0], .agg #[.int .i64 m1, .slice B1 t1.length d1], .slice B2 t2.length d2, .agg #[.int .i64 m3, .slice B3 t3.length d3]] w (SqS (qTransferCochain0 t0 m1 t1 t2 m3 t3) (yTransferCochain0 t0 m1 t1 t2 m3 t3) (qTransferCochain1 t0 m1 t1 t2 m3 t3) w) := by
  have e0 : Ex w ((((w.alloc (.cells #[.slice B0 t0.length d0] 32)).alloc (.cells #[.int .i64 m1, .slice B1 t1.length d1] 52)).alloc (.cells #[.int .i64 m3, .slice B3 t3.length d3] 34)).alloc (.cells #[.int .i64 0, .slice none 0 0] 34)) := ((((Ex.refl w).alloc _).alloc _).alloc _).alloc _
  have b0 : Has ((((w.alloc (.cells #[.slice B0 t0.length d0] 32)).alloc (.cells #[.int .i64 m1, .slice B1 t1.length d1] 52)).alloc (.cells #[.int .i64 m3, .slice B3 t3.length d3] 34)).alloc (.cells #[.int .i64 0, .slice none 0 0] 34)) (w.heap.size) 32 #[.slice B0 t0.length d0] := ((((Has.newAt (w := w) (e := 32) (cs := #[.slice B0 t0.length d0]) (k := w.heap.size) (by simp)).alloc _).alloc _).alloc _)
  have b1 : Has ((((w.alloc (.cells #[.slice B0 t0.length d0] 32)).alloc (.cells #[.int .i64 m1, .slice B1 t1.length d1] 52)).alloc (.cells #[.int .i64 m3, .slice B3 t3.length d3] 34)).alloc (.cells #[.int .i64 0, .slice none 0 0] 34)) (w.heap.size + 1) 52 #[.int .i64 m1, .slice B1 t1.length d1] := (((Has.newAt (w := (w.alloc (.cells #[.slice B0 t0.length d0] 32))) (e := 52) (cs := #[.int .i64 m1, .slice B1 t1.length d1]) (k := w.heap.size + 1) (by simp)).alloc _).alloc _)
  have b2 : Has ((((w.alloc (.cells #[.slice B0 t0.length d0] 32)).alloc (.cells #[.int .i64 m1, .slice B1 t1.length d1] 52)).alloc (.cells #[.int .i64 m3, .slice B3 t3.length d3] 34)).alloc (.cells #[.int .i64 0, .slice none 0 0] 34)) (w.heap.size + 1 + 1) 34 #[.int .i64 m3, .slice B3 t3.length d3] := ((Has.newAt (w := ((w.alloc (.cells #[.slice B0 t0.length d0] 32)).alloc (.cells #[.int .i64 m1, .slice B1 t1.length d1] 52))) (e := 34) (cs := #[.int .i64 m3, .slice B3 t3.length d3]) (k := w.heap.size + 1 + 1) (by simp)).alloc _)
  have b3 : Has ((((w.alloc (.cells #[.slice B0 t0.length d0] 32)).alloc (.cells #[.int .i64 m1, .slice B1 t1.length d1] 52)).alloc (.cells #[.int .i64 m3, .slice B3 t3.length d3] 34)).alloc (.cells #[.int .i64 0, .slice none 0 0] 34)) (w.heap.size + 1 + 1 + 1) 34 #[.int .i64 0, .slice none 0 0] := (Has.newAt (w := (((w.alloc (.cells #[.slice B0 t0.length d0] 32)).alloc (.cells #[.int .i64 m1, .slice B1 t1.length d1] 52)).alloc (.cells #[.int .i64 m3, .slice B3 t3.length d3] 34))) (e := 34) (cs := #[.int .i64 0, .slice none 0 0]) (k := w.heap.size + 1 + 1 + 1) (by simp))
  have HSC : Hid (Calls Tryz.prog 57 #[.agg #[.slice B0 t0.length d0], .agg #[.int .i64 m1, .slice B1 t1.length d1], .slice B2 t2.length d2, .agg #[.int .i64 m3, .slice B3 t3.length d3], .slice none 0 0] ((((w.alloc (.cells #[.slice B0 t0.length d0] 32)).alloc (.cells #[.int .i64 m1, .slice B1 t1.length d1] 52)).alloc (.cells #[.int .i64 m3, .slice B3 t3.length d3] 34)).alloc (.cells #[.int .i64 0, .slice none 0 0] 34)) fun e w' => e = .returned (.int .i64 (scC t0 m1 t1 t2 m3 t3 [])) ∧ Ex ((((w.alloc (.cells #[.slice B0 t0.length d0] 32)).alloc (.cells #[.int .i64 m1, .slice B1 t1.length d1] 52)).alloc (.cells #[.int .i64 m3, .slice B3 t3.length d3] 34)).alloc (.cells #[.int .i64 0, .slice none 0 0] 34)) w') := Lib.hid (subgroupCochainCode_any B0 B1 B2 B3 none t0 m1 t1 t2 m3 t3 [] d0 d1 d2 d3 0 _ (hR.ex e0) (hU.ex e0) (hX.ex e0) (hF.ex e0) (.inl rfl) hs hu hx hf (by simp) (hT.ex e0))
  obtain ⟨z, hzz⟩ : ∃ z, scC t0 m1 t1 t2 m3 t3 [] = z := ⟨_, rfl⟩
  rw [hzz] at HSC hz
  have HQ := Lib.hid (tc_no (tcC_err hzz hz) hz)
  have hzb : (z != 0) = true := by simpa using hz
  have HE0 := Lib.hid e0
  have HB3 := Lib.hid b3
  have k0 := b0.cell 0
  have k1 := b1.cell 0
  have k1' := b1.cell 1
  have k2 := b2.cell 0
  have k2' := b2.cell 1
  clear b0 b1 b2 b3 e0 hz hzz hR hU hX hF hs hu hx hf hT
  go_enter Tryz.func28, Tryz.ntmps28
  go_wp2_with fail
  generalize ((((w.alloc (.cells #[.slice B0 t0.length d0] 32)).alloc (.cells #[.int .i64 m1, .slice B1 t1.length d1] 52)).alloc (.cells #[.int .i64 m3, .slice B3 t3.length d3] 34)).alloc (.cells #[.int .i64 0, .slice none 0 0] 34)) = W0 at *
  refine HSC.out.mono ?_
  rintro e W1 ⟨rfl, he1⟩
  have HE1 := Lib.hid (HE0.out.trans he1)
  have HBR := Lib.hid (HB3.out.ex he1)
  have c4 := HBR.out.cell 0
  have c4' := HBR.out.cell 1
  have f4 := HBR.out.free 0
  have f4' := HBR.out.free 1
  clear he1 k0 k1 k1' k2 k2'
  go_wp2_with fail
  have H4 := HBR.out.put2 (u := .int .i64 0) (v := .slice none 0 0)
  have c4 := H4.cell 0
  have c4' := H4.cell 1
  refine bodyPost_ret (v := .tuple #[.agg #[.int .i64 0, .slice none 0 0], .int .i64 z]) (by simp [results, Tryz.results28, go_sem, c4, c4']) rfl (SqS.err HQ.out rfl ((HE1.out.setCell (by show w.heap.size ≤ w.heap.size + 1 + 1 + 1; omega) _).setCell (by show w.heap.size ≤ w.heap.size + 1 + 1 + 1; omega) _))

set_option maxRecDepth 100000 in
set_option maxHeartbeats 4000000 in
theorem implTC_big (t0 : List (List Int)) (m1 : Int) (t1 t2 : List Int) (m3 : Int) (t3 : List Int) (B0 : Option Addr) (d0 : Nat) (B1 : Option Addr) (d1 : Nat) (B2 : Option Addr) (d2 : Nat) (B3 : Option Addr) (d3 : Nat) (w : World) (hR : RwsW w B0 t0) (hU : IntsW w B1 t1) (hX : IntsW w B2 t2) (hF : IntsW w B3 t3) (hs : SmallT t0) (hu : t1.length ≤ 1048576) (hx : t2.length ≤ 1048576) (hf : t3.length ≤ 1048576) (hT : TabL w) (hz : scC t0 m1 t1 t2 m3 t3 [] = 0) (hn : m3 > 1) :
    Calls Tryz.prog 28 #[.agg #[.slice B0 t0.length d0], .agg #[.int .i64 m1, .slice B1 t1.length d1], .slice B2 t2.length d2, .agg #[.int .i64 m3, .slice B3 t3.length d3]] w (SqS (qTransferCochain0 t0 m1 t1 t2 m3 t3) (yTransferCochain0 t0 m1 t1 t2 m3 t3) (qTransferCochain1 t0 m1 t1 t2 m3 t3) w) := by
  have e0 : Ex w ((((w.alloc (.cells #[.slice B0 t0.length d0] 32)).alloc (.cells #[.int .i64 m1, .slice B1 t1.length d1] 52)).alloc (.cells #[.int .i64 m3, .slice B3 t3.length d3] 34)).alloc (.cells #[.int .i64 0, .slice none 0 0] 34)) := ((((Ex.refl w).alloc _).alloc _).alloc _).alloc _
  have b0 : Has ((((w.alloc (.cells #[.slice B0 t0.length d0] 32)).alloc (.cells #[.int .i64 m1, .slice B1 t1.length d1] 52)).alloc (.cells #[.int .i64 m3, .slice B3 t3.length d3] 34)).alloc (.cells #[.int .i64 0, .slice none 0 0] 34)) (w.heap.size) 32 #[.slice B0 t0.length d0] := ((((Has.newAt (w := w) (e := 32) (cs := #[.slice B0 t0.length d0]) (k := w.heap.size) (by simp)).alloc _).alloc _).alloc _)
  have b1 : Has ((((w.alloc (.cells #[.slice B0 t0.length d0] 32)).alloc (.cells #[.int .i64 m1, .slice B1 t1.length d1] 52)).alloc (.cells #[.int .i64 m3, .slice B3 t3.length d3] 34)).alloc (.cells #[.int .i64 0, .slice none 0 0] 34)) (w.heap.size + 1) 52 #[.int .i64 m1, .slice B1 t1.length d1] := (((Has.newAt (w := (w.alloc (.cells #[.slice B0 t0.length d0] 32))) (e := 52) (cs := #[.int .i64 m1, .slice B1 t1.length d1]) (k := w.heap.size + 1) (by simp)).alloc _).alloc _)
  have b2 : Has ((((w.alloc (.cells #[.slice B0 t0.length d0] 32)).alloc (.cells #[.int .i64 m1, .slice B1 t1.length d1] 52)).alloc (.cells #[.int .i64 m3, .slice B3 t3.length d3] 34)).alloc (.cells #[.int .i64 0, .slice none 0 0] 34)) (w.heap.size + 1 + 1) 34 #[.int .i64 m3, .slice B3 t3.length d3] := ((Has.newAt (w := ((w.alloc (.cells #[.slice B0 t0.length d0] 32)).alloc (.cells #[.int .i64 m1, .slice B1 t1.length d1] 52))) (e := 34) (cs := #[.int .i64 m3, .slice B3 t3.length d3]) (k := w.heap.size + 1 + 1) (by simp)).alloc _)
  have b3 : Has ((((w.alloc (.cells #[.slice B0 t0.length d0] 32)).alloc (.cells #[.int .i64 m1, .slice B1 t1.length d1] 52)).alloc (.cells #[.int .i64 m3, .slice B3 t3.length d3] 34)).alloc (.cells #[.int .i64 0, .slice none 0 0] 34)) (w.heap.size + 1 + 1 + 1) 34 #[.int .i64 0, .slice none 0 0] := (Has.newAt (w := (((w.alloc (.cells #[.slice B0 t0.length d0] 32)).alloc (.cells #[.int .i64 m1, .slice B1 t1.length d1] 52)).alloc (.cells #[.int .i64 m3, .slice B3 t3.length d3] 34))) (e := 34) (cs := #[.int .i64 0, .slice none 0 0]) (k := w.heap.size + 1 + 1 + 1) (by simp))
  have HSC : Hid (Calls Tryz.prog 57 #[.agg #[.slice B0 t0.length d0], .agg #[.int .i64 m1, .slice B1 t1.length d1], .slice B2 t2.length d2, .agg #[.int .i64 m3, .slice B3 t3.length d3], .slice none 0 0] ((((w.alloc (.cells #[.slice B0 t0.length d0] 32)).alloc (.cells #[.int .i64 m1, .slice B1 t1.length d1] 52)).alloc (.cells #[.int .i64 m3, .slice B3 t3.length d3] 34)).alloc (.cells #[.int .i64 0, .slice none 0 0] 34)) fun e w' => e = .returned (.int .i64 (scC t0 m1 t1 t2 m3 t3 [])) ∧ Ex ((((w.alloc (.cells #[.slice B0 t0.length d0] 32)).alloc (.cells #[.int .i64 m1, .slice B1 t1.length d1] 52)).alloc (.cells #[.int .i64 m3, .slice B3 t3.length d3] 34)).alloc (.cells #[.int .i64 0, .slice none 0 0] 34)) w') := Lib.hid (subgroupCochainCode_any B0 B1 B2 B3 none t0 m1 t1 t2 m3 t3 [] d0 d1 d2 d3 0 _ (hR.ex e0) (hU.ex e0) (hX.ex e0) (hF.ex e0) (.inl rfl) hs hu hx hf (by simp) (hT.ex e0))
  rw [hz] at HSC
  have HQ := Lib.hid (tc_no (tcC_big hz hn) (by decide))
  have hnd : decide (m3 > 1) = true := by simpa using hn
  have hnd2 : decide (1 < m3) = true := by simpa using hn
  have HE0 := Lib.hid e0
  have HB3 := Lib.hid b3
  have HB2 := Lib.hid b2
  have k0 := b0.cell 0
  have k1 := b1.cell 0
  have k1' := b1.cell 1
  have k2 := b2.cell 0
  have k2' := b2.cell 1
  clear b0 b1 b2 b3 e0 hz hn hR hU hX hF hs hu hx hf hT
  go_enter Tryz.func28, Tryz.ntmps28
  go_wp2_with fail
  generalize ((((w.alloc (.cells #[.slice B0 t0.length d0] 32)).alloc (.cells #[.int .i64 m1, .slice B1 t1.length d1] 52)).alloc (.cells #[.int .i64 m3, .slice B3 t3.length d3] 34)).alloc (.cells #[.int .i64 0, .slice none 0 0] 34)) = W0 at *
  refine HSC.out.mono ?_
  rintro e W1 ⟨rfl, he1⟩
  have HE1 := Lib.hid (HE0.out.trans he1)
  have HBR := Lib.hid (HB3.out.ex he1)
  have c2 := (HB2.out.ex he1).cell 0
  have c4 := HBR.out.cell 0
  have c4' := HBR.out.cell 1
  have f4 := HBR.out.free 0
  have f4' := HBR.out.free 1
  clear he1 k0 k1 k1' k2 k2'
  go_wp2_with fail
  have H4 := HBR.out.put2 (u := .int .i64 0) (v := .slice none 0 0)
  have c4 := H4.cell 0
  have c4' := H4.cell 1
  refine bodyPost_ret (v := .tuple #[.agg #[.int .i64 0, .slice none 0 0], .int .i64 2]) (by simp [results, Tryz.results28, go_sem, c4, c4']) rfl (SqS.err HQ.out rfl ((HE1.out.setCell (by show w.heap.size ≤ w.heap.size + 1 + 1 + 1; omega) _).setCell (by show w.heap.size ≤ w.heap.size + 1 + 1 + 1; omega) _))

set_option maxRecDepth 100000 in
set_option maxHeartbeats 8000000 in
theorem implTC_yes (t0 : List (List Int)) (M : Nat) (t1 t2 : List Int) (d : Nat) (t3 : List Int) (B0 : Option Addr) (d0 : Nat) (B1 : Option Addr) (d1 : Nat) (B2 : Option Addr) (d2 : Nat) (B3 : Option Addr) (d3 : Nat) (w : World) (hR : RwsW w B0 t0) (hU : IntsW w B1 t1) (hX : IntsW w B2 t2) (hF : IntsW w B3 t3) (hs : SmallT t0) (hu : t1.length ≤ 1048576) (hx : t2.length ≤ 1048576) (hf : t3.length ≤ 1048576) (hT : TabL w) (hz : scC t0 (M : Int) t1 t2 (d : Int) t3 [] = 0) (h : TcF t0 M t1 t2 d t3) :
    Calls Tryz.prog 28 #[.agg #[.slice B0 t0.length d0], .agg #[.int .i64 (M : Int), .slice B1 t1.length d1], .slice B2 t2.length d2, .agg #[.int .i64 (d : Int), .slice B3 t3.length d3]] w (SqS (qTransferCochain0 t0 (M : Int) t1 t2 (d : Int) t3) (yTransferCochain0 t0 (M : Int) t1 t2 (d : Int) t3) (qTransferCochain1 t0 (M : Int) t1 t2 (d : Int) t3) w) := by
  have e0 : Ex w ((((w.alloc (.cells #[.slice B0 t0.length d0] 32)).alloc (.cells #[.int .i64 (M : Int), .slice B1 t1.length d1] 52)).alloc (.cells #[.int .i64 (d : Int), .slice B3 t3.length d3] 34)).alloc (.cells #[.int .i64 0, .slice none 0 0] 34)) := ((((Ex.refl w).alloc _).alloc _).alloc _).alloc _
  have b0 : Has ((((w.alloc (.cells #[.slice B0 t0.length d0] 32)).alloc (.cells #[.int .i64 (M : Int), .slice B1 t1.length d1] 52)).alloc (.cells #[.int .i64 (d : Int), .slice B3 t3.length d3] 34)).alloc (.cells #[.int .i64 0, .slice none 0 0] 34)) (w.heap.size) 32 #[.slice B0 t0.length d0] := ((((Has.newAt (w := w) (e := 32) (cs := #[.slice B0 t0.length d0]) (k := w.heap.size) (by simp)).alloc _).alloc _).alloc _)
  have b1 : Has ((((w.alloc (.cells #[.slice B0 t0.length d0] 32)).alloc (.cells #[.int .i64 (M : Int), .slice B1 t1.length d1] 52)).alloc (.cells #[.int .i64 (d : Int), .slice B3 t3.length d3] 34)).alloc (.cells #[.int .i64 0, .slice none 0 0] 34)) (w.heap.size + 1) 52 #[.int .i64 (M : Int), .slice B1 t1.length d1] := (((Has.newAt (w := (w.alloc (.cells #[.slice B0 t0.length d0] 32))) (e := 52) (cs := #[.int .i64 (M : Int), .slice B1 t1.length d1]) (k := w.heap.size + 1) (by simp)).alloc _).alloc _)
  have b2 : Has ((((w.alloc (.cells #[.slice B0 t0.length d0] 32)).alloc (.cells #[.int .i64 (M : Int), .slice B1 t1.length d1] 52)).alloc (.cells #[.int .i64 (d : Int), .slice B3 t3.length d3] 34)).alloc (.cells #[.int .i64 0, .slice none 0 0] 34)) (w.heap.size + 1 + 1) 34 #[.int .i64 (d : Int), .slice B3 t3.length d3] := ((Has.newAt (w := ((w.alloc (.cells #[.slice B0 t0.length d0] 32)).alloc (.cells #[.int .i64 (M : Int), .slice B1 t1.length d1] 52))) (e := 34) (cs := #[.int .i64 (d : Int), .slice B3 t3.length d3]) (k := w.heap.size + 1 + 1) (by simp)).alloc _)
  have b3 : Has ((((w.alloc (.cells #[.slice B0 t0.length d0] 32)).alloc (.cells #[.int .i64 (M : Int), .slice B1 t1.length d1] 52)).alloc (.cells #[.int .i64 (d : Int), .slice B3 t3.length d3] 34)).alloc (.cells #[.int .i64 0, .slice none 0 0] 34)) (w.heap.size + 1 + 1 + 1) 34 #[.int .i64 0, .slice none 0 0] := (Has.newAt (w := (((w.alloc (.cells #[.slice B0 t0.length d0] 32)).alloc (.cells #[.int .i64 (M : Int), .slice B1 t1.length d1] 52)).alloc (.cells #[.int .i64 (d : Int), .slice B3 t3.length d3] 34))) (e := 34) (cs := #[.int .i64 0, .slice none 0 0]) (k := w.heap.size + 1 + 1 + 1) (by simp))
  have HSC : Hid (Calls Tryz.prog 57 #[.agg #[.slice B0 t0.length d0], .agg #[.int .i64 (M : Int), .slice B1 t1.length d1], .slice B2 t2.length d2, .agg #[.int .i64 (d : Int), .slice B3 t3.length d3], .slice none 0 0] ((((w.alloc (.cells #[.slice B0 t0.length d0] 32)).alloc (.cells #[.int .i64 (M : Int), .slice B1 t1.length d1] 52)).alloc (.cells #[.int .i64 (d : Int), .slice B3 t3.length d3] 34)).alloc (.cells #[.int .i64 0, .slice none 0 0] 34)) fun e w' => e = .returned (.int .i64 (scC t0 (M : Int) t1 t2 (d : Int) t3 [])) ∧ Ex ((((w.alloc (.cells #[.slice B0 t0.length d0] 32)).alloc (.cells #[.int .i64 (M : Int), .slice B1 t1.length d1] 52)).alloc (.cells #[.int .i64 (d : Int), .slice B3 t3.length d3] 34)).alloc (.cells #[.int .i64 0, .slice none 0 0] 34)) w') := Lib.hid (subgroupCochainCode_any B0 B1 B2 B3 none t0 (M : Int) t1 t2 (d : Int) t3 [] d0 d1 d2 d3 0 _ (hR.ex e0) (hU.ex e0) (hX.ex e0) (hF.ex e0) (.inl rfl) hs hu hx hf (by simp) (hT.ex e0))
  rw [hz] at HSC
  have hd1 := h.d1
  have hmf : ∀ (fn : Fn) (first cap : Array Value) (w : World), (Instr.makeFunc fn first cap).run Tryz.prog w = .ok (.func fn first cap) w := fun _ _ _ _ => rfl
  have HQ := Lib.hid (tc_yes (tcC_yes hz (by omega)))
  have HIN := Lib.hid (fun W (he : Ex w W) => inclusionOf_any B0 B2 t0 t2 d0 d2 W (hR.ex he) (hX.ex he) h.s)
  have HCS := Lib.hid (fun (P : Option Addr) (p pc : Nat) W (he : Ex w W) => cosets_any P B0 B2 p pc d0 d2 t0 t2 W (hR.ex he) (hX.ex he) h.s (hT.ex he))
  have HCW := Lib.hid (fun (Bi Bc n2 Bi' Bf Bp n0 n1 pc : Nat) (P A0 A1 Fc : Option Addr) (G : Nat → Nat) W (he : Ex w W) (hM : Has W (w.heap.size + 1) 52 #[.int .i64 (M : Int), .slice B1 t1.length d1]) (hFo : Has W (w.heap.size + 1 + 1) 34 #[.int .i64 (d : Int), .slice B3 t3.length d3])
      (hI : Has W Bi 90 #[.slice P t2.length pc, .slice B0 t0.length d0, .slice B2 t2.length d2]) (hI' : Has W Bi' 90 #[.slice P t2.length pc, .slice B0 t0.length d0, .slice B2 t2.length d2]) (hCo : Has W Bc 92 #[.slice Fc (cosS t0 t2).fst.length n2])
      (hP : Has W Bp 25 #[.slice A0 t0.length n0]) (hFF : Has W Bf 25 #[.slice A1 (cosS t0 t2).fst.length n1]) (hO : IntsW W A0 ((List.range t0.length).map fun x => ((cosS t0 t2).num x : Int))) (hLs : IntsW W A1 ((cosS t0 t2).fst.map fun x : Nat => (x : Int)))
      (hG : ∀ j, j < (cosS t0 t2).fst.length → Has W (G j) 2 #[.int .i64 (fstA (cosS t0 t2) j : Int)]) (hFc : ∀ j, j < (cosS t0 t2).fst.length → ∃ b, Fc = some ⟨b, 0, none⟩ ∧ b < W.heap.size ∧ W.cell? ⟨b, j, none⟩ = some (cosFn Bi' Bf Bp (G j))) =>
    show Calls Tryz.prog 60 #[.agg #[.slice B0 t0.length d0], .int .i64 (d : Int), .func (.func 61) #[] #[.pointer (some ⟨w.heap.size + 1, 0, none⟩), .pointer (some ⟨Bc, 0, none⟩), .pointer (some ⟨Bi, 0, none⟩), .pointer (some ⟨w.heap.size + 1 + 1, 0, none⟩)]] W fun e w' => ∃ A' n', e = .returned (.agg #[.int .i64 (d : Int), .slice A' (cellsN t0.length d) n']) ∧ Ex W w' ∧ OwnL w' W.heap.size w'.heap.size A' (tcY t0 M t1 t2 t3 d) from
    cochainWith_any B0 t0.length d0 d 61 #[.pointer (some ⟨w.heap.size + 1, 0, none⟩), .pointer (some ⟨Bc, 0, none⟩), .pointer (some ⟨Bi, 0, none⟩), .pointer (some ⟨w.heap.size + 1 + 1, 0, none⟩)] (tcV t0 M t1 t2 t3 d) W h.s.g.n8 h.s.g.n1 (by omega) (enters_of Tryz.func61 (by kernel_rfl) rfl)
      (fun W' he' k hk B e hB hle => by
        have hxl := h.x_lt hk
        rw [lsL_len]
        refine tc1_ex Bi (w.heap.size + 1) (w.heap.size + 1 + 1) Bc P B0 B2 B1 B3 B Fc pc d0 d2 d1 d3 e n2 d (tcX d k) (fun j => cosFn Bi' Bf Bp (G j)) t0 M t1 t2 t3 W' (hI.ex he') (hM.ex he') (hFo.ex he') (hCo.ex he') (fun j hj => ?_) (hX.ex (he.trans he')) (hU.ex (he.trans he')) (hF.ex (he.trans he')) (fun hd => ?_) h (fun hd => by simp [tcX, hd]) hxl (fun j hj => ?_)
        · obtain ⟨b, h1, h2, h3⟩ := hFc j hj
          exact ⟨b, h1, Nat.lt_of_lt_of_le h2 he'.size, (he'.below.cell (p := ⟨b, j, none⟩) h2).trans h3⟩
        · rw [tc_list hd1 hk hd] at hB
          exact hB
        · refine ⟨93, _, rfl, enters_of Tryz.func93 (by kernel_rfl) rfl, fun W2 hw2 => ?_⟩
          have he2 := he'.trans hw2
          have hol : ((List.range t0.length).map fun x => ((cosS t0 t2).num x : Int)).length = t0.length := by simp
          have hll : ((cosS t0 t2).fst.map fun x : Nat => (x : Int)).length = (cosS t0 t2).fst.length := List.length_map ..
          exact cos1_ex Bi' (G j) Bf Bp P B0 B2 A0 A1 t2.length pc t2.length d2 d0 n0 n1 t0 (cosS t0 t2).num (fstA (cosS t0 t2)) _ _ (tcX d k) (fstA (cosS t0 t2) j) W2 (hI'.ex he2) ((hG j hj).ex he2) (by rw [hll]; exact hFF.ex he2) (by rw [hol]; exact hP.ex he2) (hR.ex (he.trans he2)) (hO.ex he2) (hLs.ex he2) h.s.g (stepL_of h.s) (by rw [hll]; exact h.len8) hxl (h.i_lt hj)))
  have hYL := tcY_len t0 M t1 t2 t3 d
  have HYL := Lib.hid hYL
  have hnd : decide ((d : Int) > 1) = false := by simp; omega
  have hnd2 : decide (1 < (d : Int)) = false := by simp; omega
  obtain ⟨ys, hys⟩ : ∃ ys, tcY t0 M t1 t2 t3 d = ys := ⟨_, rfl⟩
  rw [hys] at HCW HQ HYL
  rw [← HYL.out] at HCW
  have HE0 := Lib.hid e0
  have HB0 := Lib.hid b0
  have HB1 := Lib.hid b1
  have HB2 := Lib.hid b2
  have HB3 := Lib.hid b3
  have k0 := b0.cell 0
  have k1 := b1.cell 0
  have k1' := b1.cell 1
  have k2 := b2.cell 0
  have k2' := b2.cell 1
  clear b0 b1 b2 b3 e0 hz hR hU hX hF hs hu hx hf hT h hYL hys
  go_enter Tryz.func28, Tryz.ntmps28
  go_wp2_with fail
  generalize ((((w.alloc (.cells #[.slice B0 t0.length d0] 32)).alloc (.cells #[.int .i64 (M : Int), .slice B1 t1.length d1] 52)).alloc (.cells #[.int .i64 (d : Int), .slice B3 t3.length d3] 34)).alloc (.cells #[.int .i64 0, .slice none 0 0] 34)) = W0 at *
  refine HSC.out.mono ?_
  rintro e W1 ⟨rfl, he1⟩
  have HE1 := Lib.hid (HE0.out.trans he1)
  have HX1 := Lib.hid he1
  have c0 := (HB0.out.ex he1).cell 0
  have c2 := (HB2.out.ex he1).cell 0
  clear he1 k0 k1 k1' k2 k2'
  go_wp2_with fail
  refine (HIN.out W1 HE1.out).mono ?_
  rintro e W2 ⟨G0, R0, rfl, he2, -, -, -, -⟩
  have HE2 := Lib.hid ((HE1.out.trans he2).alloc (.cells #[.slice (some ⟨R0, 0, none⟩) t2.length t2.length, .slice B0 t0.length d0, .slice B2 t2.length d2] 90))
  have HX2 := Lib.hid ((HX1.out.trans he2).alloc (.cells #[.slice (some ⟨R0, 0, none⟩) t2.length t2.length, .slice B0 t0.length d0, .slice B2 t2.length d2] 90))
  have HI2 := Lib.hid (Has.new W2 90 #[.slice (some ⟨R0, 0, none⟩) t2.length t2.length, .slice B0 t0.length d0, .slice B2 t2.length d2])
  have i0 := HI2.out.cell 0
  have i1 := HI2.out.cell 1
  have i2 := HI2.out.cell 2
  clear he2 c0 c2
  go_wp2_with fail
  generalize W2.alloc (.cells #[.slice (some ⟨R0, 0, none⟩) t2.length t2.length, .slice B0 t0.length d0, .slice B2 t2.length d2] 90) = W3 at *
  obtain ⟨Bi, hBi⟩ : ∃ Bi, W2.heap.size = Bi := ⟨_, rfl⟩
  rw [hBi] at HI2 ⊢
  clear i0 i1 i2 hBi
  refine (HCS.out (some ⟨R0, 0, none⟩) t2.length t2.length W3 HE2.out).mono ?_
  rintro e W4 ⟨⟨Bf, Bp, A0, A1, Fc, n0, n1, n2, G, rfl, he4, hP, hFF, hO, hLs, hG, hFc⟩, hI'⟩
  have ea := (Ex.refl W4).alloc (.cells #[.slice Fc (cosS t0 t2).fst.length n2] 92)
  have HX4 := Lib.hid ((HX2.out.trans he4).trans ea)
  have HE4 := Lib.hid (HE0.out.trans HX4.out)
  have HCO := Lib.hid (Has.new W4 92 #[.slice Fc (cosS t0 t2).fst.length n2])
  have HI4 := Lib.hid ((HI2.out.ex he4).ex ea)
  have HI5 := Lib.hid (hI'.ex ea)
  have HP4 := Lib.hid (hP.ex ea)
  have HF4 := Lib.hid (hFF.ex ea)
  have HO4 := Lib.hid (hO.ex ea)
  have HL4 := Lib.hid (hLs.ex ea)
  have HG4 := Lib.hid (fun j hj => (hG j hj).ex ea)
  have HC4 := Lib.hid (fun (j : Nat) (hj : j < (cosS t0 t2).fst.length) => show (∃ b, Fc = some ⟨b, 0, none⟩ ∧ b < (W4.alloc (.cells #[.slice Fc (cosS t0 t2).fst.length n2] 92)).heap.size ∧ (W4.alloc (.cells #[.slice Fc (cosS t0 t2).fst.length n2] 92)).cell? ⟨b, j, none⟩ = some (cosFn W3.heap.size Bf Bp (G j))) from let ⟨b, h1, h2, h3⟩ := hFc j hj; ⟨b, h1, Nat.lt_of_lt_of_le h2 ea.size, (ea.below.cell (p := ⟨b, j, none⟩) h2).trans h3⟩)
  have c0 := (HB0.out.ex HX4.out).cell 0
  have c2 := (HB2.out.ex HX4.out).cell 0
  have HBR := Lib.hid (HB3.out.ex HX4.out)
  have HM4 := Lib.hid (HB1.out.ex HX4.out)
  have HF5 := Lib.hid (HB2.out.ex HX4.out)
  clear he4 hP hFF hO hLs hG hFc hI' ea
  go_wp2_with fail
  generalize W4.alloc (.cells #[.slice Fc (cosS t0 t2).fst.length n2] 92) = W5 at *
  obtain ⟨Bc, hBc⟩ : ∃ Bc, W4.heap.size = Bc := ⟨_, rfl⟩
  rw [hBc] at HCO ⊢
  clear hBc
  refine (HCW.out Bi Bc n2 W3.heap.size Bf Bp n0 n1 t2.length (some ⟨R0, 0, none⟩) A0 A1 Fc G W5 HE4.out HM4.out HF5.out HI4.out HI5.out HCO.out HP4.out HF4.out HO4.out HL4.out HG4.out HC4.out).mono ?_
  rintro e W6 ⟨A6, n6, rfl, he6, ho6⟩
  have HE6 := Lib.hid (HE4.out.trans he6)
  have HBS := Lib.hid (HBR.out.ex he6)
  have HO6 := Lib.hid ho6
  have hzl := HBR.out.lt
  have x4 := HBS.out.cell 0
  have x4' := HBS.out.cell 1
  have f4 := HBS.out.free 0
  have f4' := HBS.out.free 1
  clear he6 ho6 c0 c2 hmf hnd hnd2
  go_wp2_with fail
  have H4 := HBS.out.put2 (u := .int .i64 (d : Int)) (v := .slice A6 ys.length n6)
  have c4 := H4.cell 0
  have c4' := H4.cell 1
  refine bodyPost_ret (v := .tuple #[.agg #[.int .i64 (d : Int), .slice A6 ys.length n6], .int .i64 0]) (by simp [results, Tryz.results28, go_sem, c4, c4']) rfl (SqS.of HQ.out rfl ((HE6.out.setCell (by show w.heap.size ≤ w.heap.size + 1 + 1 + 1; omega) _).setCell (by show w.heap.size ≤ w.heap.size + 1 + 1 + 1; omega) _) (((HO6.out.above (Only.set _ _ _ _) hzl).above (Only.set _ _ _ _) hzl).mono HE4.out.size (by simp) (Nat.le_refl _)))

theorem implTransferCochain_ex (t0 : List (List Int)) (m1 : Int) (t1 t2 : List Int) (m3 : Int) (t3 : List Int) : ∀ (B0 : Option Addr) (d0 : Nat) (B1 : Option Addr) (d1 : Nat) (B2 : Option Addr) (d2 : Nat) (B3 : Option Addr) (d3 : Nat) (W : World), RwsW W B0 t0 → IntsW W B1 t1 → IntsW W B2 t2 → IntsW W B3 t3 → SmallT t0 → t1.length ≤ 1048576 → t2.length ≤ 1048576 → t3.length ≤ 1048576 → TabL W →
    Calls Tryz.prog 28 #[.agg #[.slice B0 t0.length d0], .agg #[.int .i64 m1, .slice B1 t1.length d1], .slice B2 t2.length d2, .agg #[.int .i64 m3, .slice B3 t3.length d3]] W (SqS (qTransferCochain0 t0 m1 t1 t2 m3 t3) (yTransferCochain0 t0 m1 t1 t2 m3 t3) (qTransferCochain1 t0 m1 t1 t2 m3 t3) W) := by
  intro B0 d0 B1 d1 B2 d2 B3 d3 w hR hU hX hF hs hu hx hf hT
  by_cases hz : scC t0 m1 t1 t2 m3 t3 [] = 0
  · by_cases hn : m3 > 1
    · exact implTC_big t0 m1 t1 t2 m3 t3 B0 d0 B1 d1 B2 d2 B3 d3 w hR hU hX hF hs hu hx hf hT hz hn
    · obtain ⟨M, d, rfl, rfl, -, hh⟩ := tcC_zero (tcC_yes hz hn)
      exact implTC_yes t0 M t1 t2 d t3 B0 d0 B1 d1 B2 d2 B3 d3 w hR hU hX hF hs hu hx hf hT hz hh
  · exact implTC_err t0 m1 t1 t2 m3 t3 B0 d0 B1 d1 B2 d2 B3 d3 w hR hU hX hF hs hu hx hf hT hz

end Go.Proofs.YtcdijeeabgmgmaaGreatDoor

/- TransferCochain: the specification's contract. -/
namespace Go.Proofs.YtcdijeeabgmgmaaGreatDoor
open Go.RowKit

theorem TwoR.to0 {base : Nat} {T0 T1 : TypeId} {z0 z1 c0 c0' c1 : Array Value} {P : World → Nat → Nat → Prop} {bc b0 b1 f0 f1 : Bool} {s0 s1 : Value} {lo hi D E : Nat} {w : World} (h : TwoR base T0 T1 z0 z1 c0 c1 P bc b0 b1 f0 f1 s0 s1 lo hi D E w) (hf : f0 = false) : TwoR base T0 T1 z0 z1 c0' c1 P bc b0 b1 f0 f1 s0 s1 lo hi D E w := by
  subst hf
  exact ⟨h.box0, h.box1, h.ne, h.res, h.st0, h.st1⟩
theorem TwoR.to1 {base : Nat} {T0 T1 : TypeId} {z0 z1 c0 c1 c1' : Array Value} {P : World → Nat → Nat → Prop} {bc b0 b1 f0 f1 : Bool} {s0 s1 : Value} {lo hi D E : Nat} {w : World} (h : TwoR base T0 T1 z0 z1 c0 c1 P bc b0 b1 f0 f1 s0 s1 lo hi D E w) (hf : f1 = false) : TwoR base T0 T1 z0 z1 c0 c1' P bc b0 b1 f0 f1 s0 s1 lo hi D E w := by
  subst hf
  exact ⟨h.box0, h.box1, h.ne, h.res, h.st0, h.st1⟩
theorem scC_mg {t : List (List Int)} {m n z : Int} {us xs fs : List Int} (h : mgC t m us xs = z) (hz : z ≠ 0) : scC t m us xs n fs [] = z := by
  have e : mgE t m us xs [] = z := h
  rw [scC, e, if_neg hz]
theorem scC_no {t : List (List Int)} {m n : Int} {us xs fs : List Int} (h : mgC t m us xs = 0) (hb : cocB xs.length m n fs = false) : scC t m us xs n fs [] = 1 := by
  have e : mgE t m us xs [] = 0 := h
  rw [scC, e, if_pos rfl, hb, if_neg Bool.false_ne_true]
theorem scC_yes {t : List (List Int)} {m n : Int} {us xs fs : List Int} (h : mgC t m us xs = 0) (hb : cocB xs.length m n fs = true) : scC t m us xs n fs [] = 0 := by
  have e : mgE t m us xs [] = 0 := h
  rw [scC, e, if_pos rfl, hb, if_pos rfl]
/-- In degree 0 the specification reads the representative itself. -/
theorem tcU_zero {t : List (List Int)} {xs : List Int} (h : SubX t xs) {i : Nat} (hi : i < (cosS t xs).fst.length) : tcU t xs 0 i = fstA (cosS t xs) i := by
  have hl := (cosK_inv h.g h.s t.length (Nat.le_refl _)).lt _ (fstA_mem hi)
  have e : mul t 0 (fstA (cosS t xs) i) = fstA (cosS t xs) i := h.g.zero_mul hl
  unfold tcU
  rw [e, fst_own h hi]
theorem valR_nil (N : Nat) (fs : List Int) : valR N fs [] = nth fs 0 := by
  rw [valR_at (fun j hj => by simp at hj)]
  rfl

end Go.Proofs.YtcdijeeabgmgmaaGreatDoor

/- TransferCochain: the specification's contract, a part. -/
namespace Go.Proofs.YtcdijeeabgmgmaaGreatDoor
open Go.RowKit

set_option maxRecDepth 100000 in
set_option maxHeartbeats 8000000 in
theorem specTC_err (t0 : List (List Int)) (m1 : Int) (t1 t2 : List Int) (m3 : Int) (t3 : List Int) (B0 : Option Addr) (d0 : Nat) (B1 : Option Addr) (d1 : Nat) (B2 : Option Addr) (d2 : Nat) (B3 : Option Addr) (d3 : Nat) (w : World) (hR : RwsW w B0 t0) (hU : IntsW w B1 t1) (hX : IntsW w B2 t2) (_ : IntsW w B3 t3) (hs : SmallT t0) (hu : t1.length ≤ 1048576) (hx : t2.length ≤ 1048576) (_ : t3.length ≤ 1048576) (hz : mgC t0 m1 t1 t2 ≠ 0) :
    Calls Tryz.prog 25 #[.agg #[.slice B0 t0.length d0], .agg #[.int .i64 m1, .slice B1 t1.length d1], .slice B2 t2.length d2, .agg #[.int .i64 m3, .slice B3 t3.length d3]] w (SqS (qTransferCochain0 t0 m1 t1 t2 m3 t3) (yTransferCochain0 t0 m1 t1 t2 m3 t3) (qTransferCochain1 t0 m1 t1 t2 m3 t3) w) := by
  have e0 : Ex w ((((w.alloc (.cells #[.slice B0 t0.length d0] 32)).alloc (.cells #[.int .i64 m1, .slice B1 t1.length d1] 52)).alloc (.cells #[.int .i64 m3, .slice B3 t3.length d3] 34)).alloc (.cells #[.int .i64 0, .slice none 0 0] 34)) := ((((Ex.refl w).alloc _).alloc _).alloc _).alloc _
  have b0 : Has ((((w.alloc (.cells #[.slice B0 t0.length d0] 32)).alloc (.cells #[.int .i64 m1, .slice B1 t1.length d1] 52)).alloc (.cells #[.int .i64 m3, .slice B3 t3.length d3] 34)).alloc (.cells #[.int .i64 0, .slice none 0 0] 34)) (w.heap.size) 32 #[.slice B0 t0.length d0] := ((((Has.newAt (w := w) (e := 32) (cs := #[.slice B0 t0.length d0]) (k := w.heap.size) (by simp)).alloc _).alloc _).alloc _)
  have b1 : Has ((((w.alloc (.cells #[.slice B0 t0.length d0] 32)).alloc (.cells #[.int .i64 m1, .slice B1 t1.length d1] 52)).alloc (.cells #[.int .i64 m3, .slice B3 t3.length d3] 34)).alloc (.cells #[.int .i64 0, .slice none 0 0] 34)) (w.heap.size + 1) 52 #[.int .i64 m1, .slice B1 t1.length d1] := (((Has.newAt (w := (w.alloc (.cells #[.slice B0 t0.length d0] 32))) (e := 52) (cs := #[.int .i64 m1, .slice B1 t1.length d1]) (k := w.heap.size + 1) (by simp)).alloc _).alloc _)
  have b2 : Has ((((w.alloc (.cells #[.slice B0 t0.length d0] 32)).alloc (.cells #[.int .i64 m1, .slice B1 t1.length d1] 52)).alloc (.cells #[.int .i64 m3, .slice B3 t3.length d3] 34)).alloc (.cells #[.int .i64 0, .slice none 0 0] 34)) (w.heap.size + 1 + 1) 34 #[.int .i64 m3, .slice B3 t3.length d3] := ((Has.newAt (w := ((w.alloc (.cells #[.slice B0 t0.length d0] 32)).alloc (.cells #[.int .i64 m1, .slice B1 t1.length d1] 52))) (e := 34) (cs := #[.int .i64 m3, .slice B3 t3.length d3]) (k := w.heap.size + 1 + 1) (by simp)).alloc _)
  have b3 : Has ((((w.alloc (.cells #[.slice B0 t0.length d0] 32)).alloc (.cells #[.int .i64 m1, .slice B1 t1.length d1] 52)).alloc (.cells #[.int .i64 m3, .slice B3 t3.length d3] 34)).alloc (.cells #[.int .i64 0, .slice none 0 0] 34)) (w.heap.size + 1 + 1 + 1) 34 #[.int .i64 0, .slice none 0 0] := (Has.newAt (w := (((w.alloc (.cells #[.slice B0 t0.length d0] 32)).alloc (.cells #[.int .i64 m1, .slice B1 t1.length d1] 52)).alloc (.cells #[.int .i64 m3, .slice B3 t3.length d3] 34))) (e := 34) (cs := #[.int .i64 0, .slice none 0 0]) (k := w.heap.size + 1 + 1 + 1) (by simp))
  have HG := Lib.hid (fun W (he : Ex w W) => l07Given_any B0 B1 B2 t0 m1 t1 t2 d0 d1 d2 W (hR.ex he) (hU.ex he) (hX.ex he) hs hu hx)
  obtain ⟨z, hzz⟩ : ∃ z, mgC t0 m1 t1 t2 = z := ⟨_, rfl⟩
  rw [hzz] at HG hz
  have HQ := Lib.hid (tc_no (tcC_err (scC_mg (n := m3) (fs := t3) hzz hz) hz) hz)
  have hzb : (z != 0) = true := by simpa using hz
  have HE0 := Lib.hid e0
  have HB00 := Lib.hid b0
  have HB10 := Lib.hid b1
  have HB20 := Lib.hid b2
  have HB30 := Lib.hid b3
  have k0 := b0.cell 0
  have k1 := b1.cell 0
  have k1' := b1.cell 1
  clear b0 b1 b2 b3 e0
  clear hz hzz hR hU hX hs hu hx
  go_enter Tryz.func25, Tryz.ntmps25
  go_wp2_with fail
  generalize ((((w.alloc (.cells #[.slice B0 t0.length d0] 32)).alloc (.cells #[.int .i64 m1, .slice B1 t1.length d1] 52)).alloc (.cells #[.int .i64 m3, .slice B3 t3.length d3] 34)).alloc (.cells #[.int .i64 0, .slice none 0 0] 34)) = W0 at *
  refine (HG.out W0 HE0.out).mono ?_
  rintro e W1 ⟨rfl, he1⟩
  have HE1 := Lib.hid (HE0.out.trans he1)
  have HB01 := Lib.hid (HB00.out.ex he1)
  have HB11 := Lib.hid (HB10.out.ex he1)
  have HB21 := Lib.hid (HB20.out.ex he1)
  have HB31 := Lib.hid (HB30.out.ex he1)
  clear he1 k0 k1 k1' HG HE0 HB00 HB10 HB20 HB30
  have c4 := HB31.out.cell 0
  have c4' := HB31.out.cell 1
  have f4 := HB31.out.free 0
  have f4' := HB31.out.free 1
  go_wp2_with fail
  have H4 := HB31.out.put2 (u := .int .i64 0) (v := .slice none 0 0)
  have c4 := H4.cell 0
  have c4' := H4.cell 1
  refine bodyPost_ret (v := .tuple #[.agg #[.int .i64 0, .slice none 0 0], .int .i64 z]) (by simp [results, Tryz.results25, go_sem, c4, c4']) rfl (SqS.err HQ.out rfl ((HE1.out.setCell (by show w.heap.size ≤ w.heap.size + 1 + 1 + 1; omega) _).setCell (by show w.heap.size ≤ w.heap.size + 1 + 1 + 1; omega) _))

end Go.Proofs.YtcdijeeabgmgmaaGreatDoor

/- TransferCochain: the specification's contract, a part. -/
namespace Go.Proofs.YtcdijeeabgmgmaaGreatDoor
open Go.RowKit

set_option maxRecDepth 100000 in
set_option maxHeartbeats 8000000 in
theorem specTC_no (t0 : List (List Int)) (M : Nat) (t1 t2 : List Int) (m3 : Int) (t3 : List Int) (B0 : Option Addr) (d0 : Nat) (B1 : Option Addr) (d1 : Nat) (B2 : Option Addr) (d2 : Nat) (B3 : Option Addr) (d3 : Nat) (w : World) (hR : RwsW w B0 t0) (hU : IntsW w B1 t1) (hX : IntsW w B2 t2) (hF : IntsW w B3 t3) (hs : SmallT t0) (hu : t1.length ≤ 1048576) (hx : t2.length ≤ 1048576) (hf : t3.length ≤ 1048576) (hmg : mgC t0 (M : Int) t1 t2 = 0) (hMF : ModF t0 M t1) (hsx : SubX t0 t2) (hcb : cocB t2.length (M : Int) m3 t3 = false) :
    Calls Tryz.prog 25 #[.agg #[.slice B0 t0.length d0], .agg #[.int .i64 (M : Int), .slice B1 t1.length d1], .slice B2 t2.length d2, .agg #[.int .i64 m3, .slice B3 t3.length d3]] w (SqS (qTransferCochain0 t0 (M : Int) t1 t2 m3 t3) (yTransferCochain0 t0 (M : Int) t1 t2 m3 t3) (qTransferCochain1 t0 (M : Int) t1 t2 m3 t3) w) := by
  have e0 : Ex w ((((w.alloc (.cells #[.slice B0 t0.length d0] 32)).alloc (.cells #[.int .i64 (M : Int), .slice B1 t1.length d1] 52)).alloc (.cells #[.int .i64 m3, .slice B3 t3.length d3] 34)).alloc (.cells #[.int .i64 0, .slice none 0 0] 34)) := ((((Ex.refl w).alloc _).alloc _).alloc _).alloc _
  have b0 : Has ((((w.alloc (.cells #[.slice B0 t0.length d0] 32)).alloc (.cells #[.int .i64 (M : Int), .slice B1 t1.length d1] 52)).alloc (.cells #[.int .i64 m3, .slice B3 t3.length d3] 34)).alloc (.cells #[.int .i64 0, .slice none 0 0] 34)) (w.heap.size) 32 #[.slice B0 t0.length d0] := ((((Has.newAt (w := w) (e := 32) (cs := #[.slice B0 t0.length d0]) (k := w.heap.size) (by simp)).alloc _).alloc _).alloc _)
  have b1 : Has ((((w.alloc (.cells #[.slice B0 t0.length d0] 32)).alloc (.cells #[.int .i64 (M : Int), .slice B1 t1.length d1] 52)).alloc (.cells #[.int .i64 m3, .slice B3 t3.length d3] 34)).alloc (.cells #[.int .i64 0, .slice none 0 0] 34)) (w.heap.size + 1) 52 #[.int .i64 (M : Int), .slice B1 t1.length d1] := (((Has.newAt (w := (w.alloc (.cells #[.slice B0 t0.length d0] 32))) (e := 52) (cs := #[.int .i64 (M : Int), .slice B1 t1.length d1]) (k := w.heap.size + 1) (by simp)).alloc _).alloc _)
  have b2 : Has ((((w.alloc (.cells #[.slice B0 t0.length d0] 32)).alloc (.cells #[.int .i64 (M : Int), .slice B1 t1.length d1] 52)).alloc (.cells #[.int .i64 m3, .slice B3 t3.length d3] 34)).alloc (.cells #[.int .i64 0, .slice none 0 0] 34)) (w.heap.size + 1 + 1) 34 #[.int .i64 m3, .slice B3 t3.length d3] := ((Has.newAt (w := ((w.alloc (.cells #[.slice B0 t0.length d0] 32)).alloc (.cells #[.int .i64 (M : Int), .slice B1 t1.length d1] 52))) (e := 34) (cs := #[.int .i64 m3, .slice B3 t3.length d3]) (k := w.heap.size + 1 + 1) (by simp)).alloc _)
  have b3 : Has ((((w.alloc (.cells #[.slice B0 t0.length d0] 32)).alloc (.cells #[.int .i64 (M : Int), .slice B1 t1.length d1] 52)).alloc (.cells #[.int .i64 m3, .slice B3 t3.length d3] 34)).alloc (.cells #[.int .i64 0, .slice none 0 0] 34)) (w.heap.size + 1 + 1 + 1) 34 #[.int .i64 0, .slice none 0 0] := (Has.newAt (w := (((w.alloc (.cells #[.slice B0 t0.length d0] 32)).alloc (.cells #[.int .i64 (M : Int), .slice B1 t1.length d1] 52)).alloc (.cells #[.int .i64 m3, .slice B3 t3.length d3] 34))) (e := 34) (cs := #[.int .i64 0, .slice none 0 0]) (k := w.heap.size + 1 + 1 + 1) (by simp))
  have HG := Lib.hid (fun W (he : Ex w W) => l07Given_any B0 B1 B2 t0 (M : Int) t1 t2 d0 d1 d2 W (hR.ex he) (hU.ex he) (hX.ex he) hs hu hx)
  rw [hmg] at HG
  have HGR := Lib.hid (fun W (he : Ex w W) => l07Group_any B0 B2 t0 t2 d0 d2 W (hR.ex he) (hX.ex he) hsx)
  rw [show (grT t0 t2).length = t2.length from grT_len t0 t2] at HGR
  have HMO := Lib.hid (fun W (he : Ex w W) => l07Module_any B1 B2 t0 (M : Int) t1 t2 d1 d2 W (hU.ex he) (hX.ex he) hsx hMF.len)
  have HIS := Lib.hid (fun (W : World) (P A' : Option Addr) (q n' : Nat) (he : Ex w W) => l03Is_any P A' B3 (grT t0 t2) M t2 m3 t3 q n' d3 W (by rw [grT_len]; exact hsx.pos) (by rw [grT_len]; exact hsx.len8) hMF.m2 hMF.m12 (hF.ex he) hf)
  rw [grT_len, hcb] at HIS
  have HQ := Lib.hid (tc_no (tcC_err (scC_no hmg hcb) (by decide)) (by decide))
  have HE0 := Lib.hid e0
  have HB00 := Lib.hid b0
  have HB10 := Lib.hid b1
  have HB20 := Lib.hid b2
  have HB30 := Lib.hid b3
  have k0 := b0.cell 0
  have k1 := b1.cell 0
  have k1' := b1.cell 1
  clear b0 b1 b2 b3 e0
  clear hR hU hX hF hs hu hx hf hmg hMF hsx hcb
  go_enter Tryz.func25, Tryz.ntmps25
  go_wp2_with fail
  generalize ((((w.alloc (.cells #[.slice B0 t0.length d0] 32)).alloc (.cells #[.int .i64 (M : Int), .slice B1 t1.length d1] 52)).alloc (.cells #[.int .i64 m3, .slice B3 t3.length d3] 34)).alloc (.cells #[.int .i64 0, .slice none 0 0] 34)) = W0 at *
  refine (HG.out W0 HE0.out).mono ?_
  rintro e W1 ⟨rfl, he1⟩
  have HE1 := Lib.hid (HE0.out.trans he1)
  have HB01 := Lib.hid (HB00.out.ex he1)
  have HB11 := Lib.hid (HB10.out.ex he1)
  have HB21 := Lib.hid (HB20.out.ex he1)
  have HB31 := Lib.hid (HB30.out.ex he1)
  clear he1 k0 k1 k1' HG HE0 HB00 HB10 HB20 HB30
  go_wp2_with fail
  have HCF := Lib.hid (fun (W : World) (he : Ex W1 W) => And.intro ((HB01.out.ex he).cell 0) (And.intro ((HB11.out.ex he).cell 0) ((HB11.out.ex he).cell 1)))
  have hC0 := HCF.out W1 (Ex.refl _)
  refine Late.region (C := fun w' => w'.cell? ⟨w.heap.size, 0, none⟩ = some (.slice B0 t0.length d0) ∧ w'.cell? ⟨w.heap.size + 1, 0, none⟩ = some (.int .i64 (M : Int)) ∧ w'.cell? ⟨w.heap.size + 1, 1, none⟩ = some (.slice B1 t1.length d1)) (fun _ => true) (by kernel_rfl) hC0 (fun hC => ?_)
  refine Late.take (i := 0) (oi := ⟨_, _, _, _, _, _⟩) (v := ?_) rfl (by kernel_rfl) (by kernel_rfl) (by kernel_rfl) (by kernel_rfl) (fun _ _ _ h => h) (Or.inl ⟨by rfl, ?_⟩) hC ?_
  rotate_left
  · (intro w hSw; (try dsimp only at hSw); go_simp; first | done | with_reducible rfl)
  simp only [Act.put]
  refine Late.take (i := 1) (oi := ⟨_, _, _, _, _, _⟩) (v := ?_) rfl (by kernel_rfl) (by kernel_rfl) (by kernel_rfl) (by kernel_rfl) (fun _ _ _ h => h) (Or.inl ⟨by rfl, ?_⟩) hC ?_
  rotate_left
  · (intro w hSw; (try dsimp only at hSw); go_simp; first | done | with_reducible rfl)
  simp only [Act.put]
  refine Late.take (i := 3) (oi := ⟨_, _, _, _, _, _⟩) (v := ?_) rfl (by kernel_rfl) (by kernel_rfl) (by kernel_rfl) (by kernel_rfl) (fun _ _ _ h => h) (Or.inl ⟨by rfl, ?_⟩) hC ?_
  rotate_left
  · (intro w hSw; (try dsimp only at hSw); go_simp; first | done | with_reducible rfl)
  simp only [Act.put]
  refine Late.take (i := 4) (oi := ⟨_, _, _, _, _, _⟩) (v := ?_) rfl (by kernel_rfl) (by kernel_rfl) (by kernel_rfl) (by kernel_rfl) (fun _ _ _ h => h) (Or.inl ⟨by rfl, ?_⟩) hC ?_
  rotate_left
  · (intro w hSw; (try dsimp only at hSw); go_simp; first | done | with_reducible rfl)
  simp only [Act.put]
  clear hC hC0
  refine late_start (SS := fun (a0 : Act) (ds : Array Bool) (a : Act) (w' : World) => ∃ (v31 v34 v11 v12 : Value) (G A' : Option Addr) (g n' D E : Nat), a = ((((a0.put (some 31) v31).put (some 34) v34).put (some 11) v11).put (some 12) v12) ∧ (ds.getD 0 true = true ∧ ds.getD 1 true = true ∧ ds.getD 3 true = true ∧ ds.getD 4 true = true) ∧ Ex W1 w' ∧ (ds.getD 2 true = true → v31 = .agg #[.slice G t2.length g]) ∧ (ds.getD 5 true = true → v34 = .agg #[.int .i64 (M : Int), .slice A' t2.length n']) ∧ (ds.getD 8 true = true → ds.getD 2 true = true) ∧ (ds.getD 9 true = true → ds.getD 5 true = true) ∧ TwoR W1.heap.size 32 52 #[.slice none 0 0] #[.int .i64 0, .slice none 0 0] #[.slice G t2.length g] #[.int .i64 (M : Int), .slice A' t2.length n'] (fun _ _ _ => True) true (ds.getD 6 true) (ds.getD 7 true) (ds.getD 8 true) (ds.getD 9 true) v11 v12 0 0 D E w') (by kernel_rfl) ?h0 (by rfl) (by decide) ?hC ?hend ?hstep
  case h0 => exact ⟨undef, undef, undef, undef, none, none, 0, 0, 0, 0, by go_simp, ⟨by decide, by decide, by decide, by decide⟩, (Ex.refl W1).drew, fun hb => absurd hb (by decide), fun hb => absurd hb (by decide), fun hb => absurd hb (by decide), fun hb => absurd hb (by decide), TwoR.begin⟩
  case hC =>
    rintro ds a w' ⟨v31, v34, v11, v12, G, A', g, n', D, E, rfl, ⟨hd0, hd1, hd3, hd4⟩, hE, h2, h5, h8, h9, hT⟩
    exact HCF.out w' hE
  case hstep =>
    rintro ds a w' ⟨v31, v34, v11, v12, G, A', g, n', D, E, rfl, ⟨hd0, hd1, hd3, hd4⟩, hE, h2, h5, h8, h9, hT⟩ j oj hoj hu hall
    have hjn : j < 10 := (Array.getElem?_eq_some_iff.1 hoj).1
    rcases (by omega : j = 0 ∨ j = 1 ∨ j = 3 ∨ j = 4 ∨ j = 2 ∨ j = 5 ∨ j = 6 ∨ j = 7 ∨ j = 8 ∨ j = 9) with rfl | rfl | rfl | rfl | rfl | rfl | rfl | rfl | rfl | rfl
    · rw [hd0] at hu; cases hu
    · rw [hd1] at hu; cases hu
    · rw [hd3] at hu; cases hu
    · rw [hd4] at hu; cases hu
    · obtain rfl := Option.some.inj hoj
      have hf8 : ds.getD 8 true = false := by
        cases hb : ds.getD 8 true with
        | false => rfl
        | true => rw [h8 hb] at hu; cases hu
      clear hall
      refine wpOp_step rfl fun K' hK' => ?_
      have hK := Lib.hid hK'
      clear hK'
      rw [if_pos (by rfl)]
      try simp only [Act.put]
      go_simp
      refine (HGR.out w' (HE1.out.trans hE)).mono ?_
      rintro e w2 ⟨GG, gn, rfl, hv, -⟩
      refine hK.out _ _ ⟨_, v34, v11, v12, GG, A', gn, n', D, E, by go_simp, ⟨bt_keep hd0, bt_keep hd1, bt_keep hd3, bt_keep hd4⟩, hE.trans hv, fun _ => rfl, fun hb => h5 (bt_old hb (by decide : (5 : Nat) ≠ 2)), fun _ => by rw [bt_self], fun hb => bt_keep (h9 (bt_old hb (by decide : (9 : Nat) ≠ 2))), ?_⟩
      rw [bt_ne (d := ds) (j := 2) (i := 6) (by decide), bt_ne (d := ds) (j := 2) (i := 7) (by decide), bt_ne (d := ds) (j := 2) (i := 8) (by decide), bt_ne (d := ds) (j := 2) (i := 9) (by decide)]
      exact (TwoR.to0 hT hf8).ex keptTrue hv
    · obtain rfl := Option.some.inj hoj
      have hf9 : ds.getD 9 true = false := by
        cases hb : ds.getD 9 true with
        | false => rfl
        | true => rw [h9 hb] at hu; cases hu
      clear hall
      refine wpOp_step rfl fun K' hK' => ?_
      have hK := Lib.hid hK'
      clear hK'
      rw [if_pos (by rfl)]
      try simp only [Act.put]
      go_simp
      refine (HMO.out w' (HE1.out.trans hE)).mono ?_
      rintro e w2 ⟨AA, nn, rfl, hv, -⟩
      refine hK.out _ _ ⟨v31, _, v11, v12, G, AA, g, nn, D, E, by go_simp, ⟨bt_keep hd0, bt_keep hd1, bt_keep hd3, bt_keep hd4⟩, hE.trans hv, fun hb => h2 (bt_old hb (by decide : (2 : Nat) ≠ 5)), fun _ => rfl, fun hb => bt_keep (h8 (bt_old hb (by decide : (8 : Nat) ≠ 5))), fun _ => by rw [bt_self], ?_⟩
      rw [bt_ne (d := ds) (j := 5) (i := 6) (by decide), bt_ne (d := ds) (j := 5) (i := 7) (by decide), bt_ne (d := ds) (j := 5) (i := 8) (by decide), bt_ne (d := ds) (j := 5) (i := 9) (by decide)]
      exact (TwoR.to1 hT hf9).ex keptTrue hv
    · obtain rfl := Option.some.inj hoj
      clear hall
      refine wpOp_step rfl fun K' hK' => ?_
      have hK := Lib.hid hK'
      clear hK'
      rw [if_pos (by rfl)]
      try simp only [Act.put]
      go_simp
      refine hK.out _ _ ⟨v31, v34, (.pointer (some ⟨w'.heap.size, 0, none⟩)), v12, G, A', g, n', w'.heap.size, E, by go_simp, ⟨bt_keep hd0, bt_keep hd1, bt_keep hd3, bt_keep hd4⟩, hE.alloc _, fun hb => h2 (bt_old hb (by decide : (2 : Nat) ≠ 6)), fun hb => h5 (bt_old hb (by decide : (5 : Nat) ≠ 6)), fun hb => bt_keep (h8 (bt_old hb (by decide : (8 : Nat) ≠ 6))), fun hb => bt_keep (h9 (bt_old hb (by decide : (9 : Nat) ≠ 6))), ?_⟩
      rw [bt_self (d := ds) (j := 6), bt_ne (d := ds) (j := 6) (i := 7) (by decide), bt_ne (d := ds) (j := 6) (i := 8) (by decide), bt_ne (d := ds) (j := 6) (i := 9) (by decide)]
      rw [hu] at hT; exact hT.alloc0 keptTrue hE.size
    · obtain rfl := Option.some.inj hoj
      clear hall
      refine wpOp_step rfl fun K' hK' => ?_
      have hK := Lib.hid hK'
      clear hK'
      rw [if_pos (by rfl)]
      try simp only [Act.put]
      go_simp
      refine hK.out _ _ ⟨v31, v34, v11, (.pointer (some ⟨w'.heap.size, 0, none⟩)), G, A', g, n', D, w'.heap.size, by go_simp, ⟨bt_keep hd0, bt_keep hd1, bt_keep hd3, bt_keep hd4⟩, hE.alloc _, fun hb => h2 (bt_old hb (by decide : (2 : Nat) ≠ 7)), fun hb => h5 (bt_old hb (by decide : (5 : Nat) ≠ 7)), fun hb => bt_keep (h8 (bt_old hb (by decide : (8 : Nat) ≠ 7))), fun hb => bt_keep (h9 (bt_old hb (by decide : (9 : Nat) ≠ 7))), ?_⟩
      rw [bt_ne (d := ds) (j := 7) (i := 6) (by decide), bt_self (d := ds) (j := 7), bt_ne (d := ds) (j := 7) (i := 8) (by decide), bt_ne (d := ds) (j := 7) (i := 9) (by decide)]
      rw [hu] at hT; exact hT.alloc1 keptTrue hE.size
    · obtain rfl := Option.some.inj hoj
      have hcl := (hall ⟨2, .data⟩ (by simp) rfl)
      obtain rfl := h2 hcl
      have hal := (hall ⟨6, .data⟩ (by simp) rfl)
      obtain ⟨rfl, hDl, hDH, -⟩ := hT.box0 hal
      rw [hu] at hDH
      have hDD : Has w' D 32 #[.slice none 0 0] := hDH
      clear hDH
      have k0 := hDD.cell 0
      have f0 := hDD.free 0
      clear hall
      refine wpOp_step rfl fun K' hK' => ?_
      have hK := Lib.hid hK'
      clear hK'
      rw [if_pos (by rfl)]
      try simp only [Act.put]
      go_simp
      refine hK.out _ _ ⟨(.agg #[.slice G t2.length g]), v34, (.pointer (some ⟨D, 0, none⟩)), v12, G, A', g, n', D, E, by go_simp, ⟨bt_keep hd0, bt_keep hd1, bt_keep hd3, bt_keep hd4⟩, (hE.setCell (p := ⟨D, 0, none⟩) hDl _), fun _ => rfl, fun hb => h5 (bt_old hb (by decide : (5 : Nat) ≠ 8)), fun _ => bt_keep hcl, fun hb => bt_keep (h9 (bt_old hb (by decide : (9 : Nat) ≠ 8))), ?_⟩
      rw [bt_ne (d := ds) (j := 8) (i := 6) (by decide), bt_ne (d := ds) (j := 8) (i := 7) (by decide), bt_self (d := ds) (j := 8), bt_ne (d := ds) (j := 8) (i := 9) (by decide)]
      rw [hal] at hT ⊢; exact hT.store0 keptTrue (Only.set _ D 0 _) hDD.put1
    · obtain rfl := Option.some.inj hoj
      have hcl := (hall ⟨5, .data⟩ (by simp) rfl)
      obtain rfl := h5 hcl
      have hal := (hall ⟨7, .data⟩ (by simp) rfl)
      obtain ⟨rfl, hDl, hDH, -⟩ := hT.box1 hal
      rw [hu] at hDH
      have hDD : Has w' E 52 #[.int .i64 0, .slice none 0 0] := hDH
      clear hDH
      have k0 := hDD.cell 0
      have f0 := hDD.free 0
      have k1 := hDD.cell 1
      have f1 := hDD.free 1
      clear hall
      refine wpOp_step rfl fun K' hK' => ?_
      have hK := Lib.hid hK'
      clear hK'
      rw [if_pos (by rfl)]
      try simp only [Act.put]
      go_simp
      refine hK.out _ _ ⟨v31, (.agg #[.int .i64 (M : Int), .slice A' t2.length n']), v11, (.pointer (some ⟨E, 0, none⟩)), G, A', g, n', D, E, by go_simp, ⟨bt_keep hd0, bt_keep hd1, bt_keep hd3, bt_keep hd4⟩, ((hE.setCell (p := ⟨E, 0, none⟩) hDl _).setCell (p := ⟨E, 1, none⟩) hDl _), fun hb => h2 (bt_old hb (by decide : (2 : Nat) ≠ 9)), fun _ => rfl, fun hb => bt_keep (h8 (bt_old hb (by decide : (8 : Nat) ≠ 9))), fun _ => bt_keep hcl, ?_⟩
      rw [bt_ne (d := ds) (j := 9) (i := 6) (by decide), bt_ne (d := ds) (j := 9) (i := 7) (by decide), bt_ne (d := ds) (j := 9) (i := 8) (by decide), bt_self (d := ds) (j := 9)]
      rw [hal] at hT ⊢; exact hT.store1 keptTrue ((Only.set _ E 0 _).trans (Only.set _ E 1 _) (Nat.le_refl _) (Nat.le_refl _)) hDD.put2
  case hend =>
    rintro ds a w' ⟨v31, v34, v11, v12, G, A', g, n', D, E, rfl, ⟨hd0, hd1, hd3, hd4⟩, hE, h2, h5, h8, h9, hT⟩ hall
    obtain ⟨rfl, hD1, hD, -⟩ := hT.box0 (hall 6 (by decide))
    obtain ⟨rfl, hE1, hH, -⟩ := hT.box1 (hall 7 (by decide))
    rw [hall 8 (by decide)] at hD
    rw [hall 9 (by decide)] at hH
    obtain ⟨X, hXX⟩ : ∃ x : World, x = w' := ⟨_, rfl⟩
    subst hXX
    have HE8 := Lib.hid (HE1.out.trans hE)
    have HB08 := Lib.hid (HB01.out.ex hE)
    have HB18 := Lib.hid (HB11.out.ex hE)
    have HB28 := Lib.hid (HB21.out.ex hE)
    have HB38 := Lib.hid (HB31.out.ex hE)
    have HP8 := Lib.hid (show Has X D 32 #[.slice G t2.length g] from hD)
    have HO8 := Lib.hid (show Has X E 52 #[.int .i64 (M : Int), .slice A' t2.length n'] from hH)
    have g0 := HP8.out.cell 0
    have o0 := HO8.out.cell 0
    have o1 := HO8.out.cell 1
    have p0 := HB28.out.cell 0
    have p1 := HB28.out.cell 1
    clear hall hT hD hH hE h2 h5 h8 h9 hd0 hd1 hd3 hd4 hD1 hE1 HCF HE1 HB01 HB11 HB21 HB31
    try simp only [Act.put]
    go_simp
    go_wp2_with fail
    refine (HIS.out X G A' g n' HE8.out).mono ?_
    rintro e Y ⟨rfl, heY⟩
    have HEY := Lib.hid (HE8.out.trans heY)
    have HB0Y := Lib.hid (HB08.out.ex heY)
    have HB1Y := Lib.hid (HB18.out.ex heY)
    have HB2Y := Lib.hid (HB28.out.ex heY)
    have HB3Y := Lib.hid (HB38.out.ex heY)
    have HPY := Lib.hid (HP8.out.ex heY)
    clear heY g0 o0 o1 p0 p1 HE8 HP8 HO8 HB08 HB18 HB28 HB38
    have c4 := HB3Y.out.cell 0
    have c4' := HB3Y.out.cell 1
    have f4 := HB3Y.out.free 0
    have f4' := HB3Y.out.free 1
    go_wp2_with fail
    have H4 := HB3Y.out.put2 (u := .int .i64 0) (v := .slice none 0 0)
    have c4 := H4.cell 0
    have c4' := H4.cell 1
    refine bodyPost_ret (v := .tuple #[.agg #[.int .i64 0, .slice none 0 0], .int .i64 1]) (by simp [results, Tryz.results25, go_sem, c4, c4']) rfl (SqS.err HQ.out rfl ((HEY.out.setCell (by show w.heap.size ≤ w.heap.size + 1 + 1 + 1; omega) _).setCell (by show w.heap.size ≤ w.heap.size + 1 + 1 + 1; omega) _))

end Go.Proofs.YtcdijeeabgmgmaaGreatDoor

/- TransferCochain: the specification's contract, a part. -/
namespace Go.Proofs.YtcdijeeabgmgmaaGreatDoor
open Go.RowKit

set_option maxRecDepth 100000 in
set_option maxHeartbeats 8000000 in
theorem specTC_big (t0 : List (List Int)) (M : Nat) (t1 t2 : List Int) (m3 : Int) (t3 : List Int) (B0 : Option Addr) (d0 : Nat) (B1 : Option Addr) (d1 : Nat) (B2 : Option Addr) (d2 : Nat) (B3 : Option Addr) (d3 : Nat) (w : World) (hR : RwsW w B0 t0) (hU : IntsW w B1 t1) (hX : IntsW w B2 t2) (hF : IntsW w B3 t3) (hs : SmallT t0) (hu : t1.length ≤ 1048576) (hx : t2.length ≤ 1048576) (hf : t3.length ≤ 1048576) (hmg : mgC t0 (M : Int) t1 t2 = 0) (hMF : ModF t0 M t1) (hsx : SubX t0 t2) (hcb : cocB t2.length (M : Int) m3 t3 = true) (hn : m3 > 1) :
    Calls Tryz.prog 25 #[.agg #[.slice B0 t0.length d0], .agg #[.int .i64 (M : Int), .slice B1 t1.length d1], .slice B2 t2.length d2, .agg #[.int .i64 m3, .slice B3 t3.length d3]] w (SqS (qTransferCochain0 t0 (M : Int) t1 t2 m3 t3) (yTransferCochain0 t0 (M : Int) t1 t2 m3 t3) (qTransferCochain1 t0 (M : Int) t1 t2 m3 t3) w) := by
  have e0 : Ex w ((((w.alloc (.cells #[.slice B0 t0.length d0] 32)).alloc (.cells #[.int .i64 (M : Int), .slice B1 t1.length d1] 52)).alloc (.cells #[.int .i64 m3, .slice B3 t3.length d3] 34)).alloc (.cells #[.int .i64 0, .slice none 0 0] 34)) := ((((Ex.refl w).alloc _).alloc _).alloc _).alloc _
  have b0 : Has ((((w.alloc (.cells #[.slice B0 t0.length d0] 32)).alloc (.cells #[.int .i64 (M : Int), .slice B1 t1.length d1] 52)).alloc (.cells #[.int .i64 m3, .slice B3 t3.length d3] 34)).alloc (.cells #[.int .i64 0, .slice none 0 0] 34)) (w.heap.size) 32 #[.slice B0 t0.length d0] := ((((Has.newAt (w := w) (e := 32) (cs := #[.slice B0 t0.length d0]) (k := w.heap.size) (by simp)).alloc _).alloc _).alloc _)
  have b1 : Has ((((w.alloc (.cells #[.slice B0 t0.length d0] 32)).alloc (.cells #[.int .i64 (M : Int), .slice B1 t1.length d1] 52)).alloc (.cells #[.int .i64 m3, .slice B3 t3.length d3] 34)).alloc (.cells #[.int .i64 0, .slice none 0 0] 34)) (w.heap.size + 1) 52 #[.int .i64 (M : Int), .slice B1 t1.length d1] := (((Has.newAt (w := (w.alloc (.cells #[.slice B0 t0.length d0] 32))) (e := 52) (cs := #[.int .i64 (M : Int), .slice B1 t1.length d1]) (k := w.heap.size + 1) (by simp)).alloc _).alloc _)
  have b2 : Has ((((w.alloc (.cells #[.slice B0 t0.length d0] 32)).alloc (.cells #[.int .i64 (M : Int), .slice B1 t1.length d1] 52)).alloc (.cells #[.int .i64 m3, .slice B3 t3.length d3] 34)).alloc (.cells #[.int .i64 0, .slice none 0 0] 34)) (w.heap.size + 1 + 1) 34 #[.int .i64 m3, .slice B3 t3.length d3] := ((Has.newAt (w := ((w.alloc (.cells #[.slice B0 t0.length d0] 32)).alloc (.cells #[.int .i64 (M : Int), .slice B1 t1.length d1] 52))) (e := 34) (cs := #[.int .i64 m3, .slice B3 t3.length d3]) (k := w.heap.size + 1 + 1) (by simp)).alloc _)
  have b3 : Has ((((w.alloc (.cells #[.slice B0 t0.length d0] 32)).alloc (.cells #[.int .i64 (M : Int), .slice B1 t1.length d1] 52)).alloc (.cells #[.int .i64 m3, .slice B3 t3.length d3] 34)).alloc (.cells #[.int .i64 0, .slice none 0 0] 34)) (w.heap.size + 1 + 1 + 1) 34 #[.int .i64 0, .slice none 0 0] := (Has.newAt (w := (((w.alloc (.cells #[.slice B0 t0.length d0] 32)).alloc (.cells #[.int .i64 (M : Int), .slice B1 t1.length d1] 52)).alloc (.cells #[.int .i64 m3, .slice B3 t3.length d3] 34))) (e := 34) (cs := #[.int .i64 0, .slice none 0 0]) (k := w.heap.size + 1 + 1 + 1) (by simp))
  have HG := Lib.hid (fun W (he : Ex w W) => l07Given_any B0 B1 B2 t0 (M : Int) t1 t2 d0 d1 d2 W (hR.ex he) (hU.ex he) (hX.ex he) hs hu hx)
  rw [hmg] at HG
  have HGR := Lib.hid (fun W (he : Ex w W) => l07Group_any B0 B2 t0 t2 d0 d2 W (hR.ex he) (hX.ex he) hsx)
  rw [show (grT t0 t2).length = t2.length from grT_len t0 t2] at HGR
  have HMO := Lib.hid (fun W (he : Ex w W) => l07Module_any B1 B2 t0 (M : Int) t1 t2 d1 d2 W (hU.ex he) (hX.ex he) hsx hMF.len)
  have HIS := Lib.hid (fun (W : World) (P A' : Option Addr) (q n' : Nat) (he : Ex w W) => l03Is_any P A' B3 (grT t0 t2) M t2 m3 t3 q n' d3 W (by rw [grT_len]; exact hsx.pos) (by rw [grT_len]; exact hsx.len8) hMF.m2 hMF.m12 (hF.ex he) hf)
  rw [grT_len, hcb] at HIS
  have HQ := Lib.hid (tc_no (tcC_big (scC_yes hmg hcb) hn) (by decide))
  have hnd : decide (m3 > 1) = true := by simpa using hn
  have hnd2 : decide (1 < m3) = true := by simpa using hn
  have HE0 := Lib.hid e0
  have HB00 := Lib.hid b0
  have HB10 := Lib.hid b1
  have HB20 := Lib.hid b2
  have HB30 := Lib.hid b3
  have k0 := b0.cell 0
  have k1 := b1.cell 0
  have k1' := b1.cell 1
  clear b0 b1 b2 b3 e0
  clear hR hU hX hF hs hu hx hf hmg hMF hsx hcb hn
  go_enter Tryz.func25, Tryz.ntmps25
  go_wp2_with fail
  generalize ((((w.alloc (.cells #[.slice B0 t0.length d0] 32)).alloc (.cells #[.int .i64 (M : Int), .slice B1 t1.length d1] 52)).alloc (.cells #[.int .i64 m3, .slice B3 t3.length d3] 34)).alloc (.cells #[.int .i64 0, .slice none 0 0] 34)) = W0 at *
  refine (HG.out W0 HE0.out).mono ?_
  rintro e W1 ⟨rfl, he1⟩
  have HE1 := Lib.hid (HE0.out.trans he1)
  have HB01 := Lib.hid (HB00.out.ex he1)
  have HB11 := Lib.hid (HB10.out.ex he1)
  have HB21 := Lib.hid (HB20.out.ex he1)
  have HB31 := Lib.hid (HB30.out.ex he1)
  clear he1 k0 k1 k1' HG HE0 HB00 HB10 HB20 HB30
  go_wp2_with fail
  have HCF := Lib.hid (fun (W : World) (he : Ex W1 W) => And.intro ((HB01.out.ex he).cell 0) (And.intro ((HB11.out.ex he).cell 0) ((HB11.out.ex he).cell 1)))
  have hC0 := HCF.out W1 (Ex.refl _)
  refine Late.region (C := fun w' => w'.cell? ⟨w.heap.size, 0, none⟩ = some (.slice B0 t0.length d0) ∧ w'.cell? ⟨w.heap.size + 1, 0, none⟩ = some (.int .i64 (M : Int)) ∧ w'.cell? ⟨w.heap.size + 1, 1, none⟩ = some (.slice B1 t1.length d1)) (fun _ => true) (by kernel_rfl) hC0 (fun hC => ?_)
  refine Late.take (i := 0) (oi := ⟨_, _, _, _, _, _⟩) (v := ?_) rfl (by kernel_rfl) (by kernel_rfl) (by kernel_rfl) (by kernel_rfl) (fun _ _ _ h => h) (Or.inl ⟨by rfl, ?_⟩) hC ?_
  rotate_left
  · (intro w hSw; (try dsimp only at hSw); go_simp; first | done | with_reducible rfl)
  simp only [Act.put]
  refine Late.take (i := 1) (oi := ⟨_, _, _, _, _, _⟩) (v := ?_) rfl (by kernel_rfl) (by kernel_rfl) (by kernel_rfl) (by kernel_rfl) (fun _ _ _ h => h) (Or.inl ⟨by rfl, ?_⟩) hC ?_
  rotate_left
  · (intro w hSw; (try dsimp only at hSw); go_simp; first | done | with_reducible rfl)
  simp only [Act.put]
  refine Late.take (i := 3) (oi := ⟨_, _, _, _, _, _⟩) (v := ?_) rfl (by kernel_rfl) (by kernel_rfl) (by kernel_rfl) (by kernel_rfl) (fun _ _ _ h => h) (Or.inl ⟨by rfl, ?_⟩) hC ?_
  rotate_left
  · (intro w hSw; (try dsimp only at hSw); go_simp; first | done | with_reducible rfl)
  simp only [Act.put]
  refine Late.take (i := 4) (oi := ⟨_, _, _, _, _, _⟩) (v := ?_) rfl (by kernel_rfl) (by kernel_rfl) (by kernel_rfl) (by kernel_rfl) (fun _ _ _ h => h) (Or.inl ⟨by rfl, ?_⟩) hC ?_
  rotate_left
  · (intro w hSw; (try dsimp only at hSw); go_simp; first | done | with_reducible rfl)
  simp only [Act.put]
  clear hC hC0
  refine late_start (SS := fun (a0 : Act) (ds : Array Bool) (a : Act) (w' : World) => ∃ (v31 v34 v11 v12 : Value) (G A' : Option Addr) (g n' D E : Nat), a = ((((a0.put (some 31) v31).put (some 34) v34).put (some 11) v11).put (some 12) v12) ∧ (ds.getD 0 true = true ∧ ds.getD 1 true = true ∧ ds.getD 3 true = true ∧ ds.getD 4 true = true) ∧ Ex W1 w' ∧ (ds.getD 2 true = true → v31 = .agg #[.slice G t2.length g]) ∧ (ds.getD 5 true = true → v34 = .agg #[.int .i64 (M : Int), .slice A' t2.length n']) ∧ (ds.getD 8 true = true → ds.getD 2 true = true) ∧ (ds.getD 9 true = true → ds.getD 5 true = true) ∧ TwoR W1.heap.size 32 52 #[.slice none 0 0] #[.int .i64 0, .slice none 0 0] #[.slice G t2.length g] #[.int .i64 (M : Int), .slice A' t2.length n'] (fun _ _ _ => True) true (ds.getD 6 true) (ds.getD 7 true) (ds.getD 8 true) (ds.getD 9 true) v11 v12 0 0 D E w') (by kernel_rfl) ?h0 (by rfl) (by decide) ?hC ?hend ?hstep
  case h0 => exact ⟨undef, undef, undef, undef, none, none, 0, 0, 0, 0, by go_simp, ⟨by decide, by decide, by decide, by decide⟩, (Ex.refl W1).drew, fun hb => absurd hb (by decide), fun hb => absurd hb (by decide), fun hb => absurd hb (by decide), fun hb => absurd hb (by decide), TwoR.begin⟩
  case hC =>
    rintro ds a w' ⟨v31, v34, v11, v12, G, A', g, n', D, E, rfl, ⟨hd0, hd1, hd3, hd4⟩, hE, h2, h5, h8, h9, hT⟩
    exact HCF.out w' hE
  case hstep =>
    rintro ds a w' ⟨v31, v34, v11, v12, G, A', g, n', D, E, rfl, ⟨hd0, hd1, hd3, hd4⟩, hE, h2, h5, h8, h9, hT⟩ j oj hoj hu hall
    have hjn : j < 10 := (Array.getElem?_eq_some_iff.1 hoj).1
    rcases (by omega : j = 0 ∨ j = 1 ∨ j = 3 ∨ j = 4 ∨ j = 2 ∨ j = 5 ∨ j = 6 ∨ j = 7 ∨ j = 8 ∨ j = 9) with rfl | rfl | rfl | rfl | rfl | rfl | rfl | rfl | rfl | rfl
    · rw [hd0] at hu; cases hu
    · rw [hd1] at hu; cases hu
    · rw [hd3] at hu; cases hu
    · rw [hd4] at hu; cases hu
    · obtain rfl := Option.some.inj hoj
      have hf8 : ds.getD 8 true = false := by
        cases hb : ds.getD 8 true with
        | false => rfl
        | true => rw [h8 hb] at hu; cases hu
      clear hall
      refine wpOp_step rfl fun K' hK' => ?_
      have hK := Lib.hid hK'
      clear hK'
      rw [if_pos (by rfl)]
      try simp only [Act.put]
      go_simp
      refine (HGR.out w' (HE1.out.trans hE)).mono ?_
      rintro e w2 ⟨GG, gn, rfl, hv, -⟩
      refine hK.out _ _ ⟨_, v34, v11, v12, GG, A', gn, n', D, E, by go_simp, ⟨bt_keep hd0, bt_keep hd1, bt_keep hd3, bt_keep hd4⟩, hE.trans hv, fun _ => rfl, fun hb => h5 (bt_old hb (by decide : (5 : Nat) ≠ 2)), fun _ => by rw [bt_self], fun hb => bt_keep (h9 (bt_old hb (by decide : (9 : Nat) ≠ 2))), ?_⟩
      rw [bt_ne (d := ds) (j := 2) (i := 6) (by decide), bt_ne (d := ds) (j := 2) (i := 7) (by decide), bt_ne (d := ds) (j := 2) (i := 8) (by decide), bt_ne (d := ds) (j := 2) (i := 9) (by decide)]
      exact (TwoR.to0 hT hf8).ex keptTrue hv
    · obtain rfl := Option.some.inj hoj
      have hf9 : ds.getD 9 true = false := by
        cases hb : ds.getD 9 true with
        | false => rfl
        | true => rw [h9 hb] at hu; cases hu
      clear hall
      refine wpOp_step rfl fun K' hK' => ?_
      have hK := Lib.hid hK'
      clear hK'
      rw [if_pos (by rfl)]
      try simp only [Act.put]
      go_simp
      refine (HMO.out w' (HE1.out.trans hE)).mono ?_
      rintro e w2 ⟨AA, nn, rfl, hv, -⟩
      refine hK.out _ _ ⟨v31, _, v11, v12, G, AA, g, nn, D, E, by go_simp, ⟨bt_keep hd0, bt_keep hd1, bt_keep hd3, bt_keep hd4⟩, hE.trans hv, fun hb => h2 (bt_old hb (by decide : (2 : Nat) ≠ 5)), fun _ => rfl, fun hb => bt_keep (h8 (bt_old hb (by decide : (8 : Nat) ≠ 5))), fun _ => by rw [bt_self], ?_⟩
      rw [bt_ne (d := ds) (j := 5) (i := 6) (by decide), bt_ne (d := ds) (j := 5) (i := 7) (by decide), bt_ne (d := ds) (j := 5) (i := 8) (by decide), bt_ne (d := ds) (j := 5) (i := 9) (by decide)]
      exact (TwoR.to1 hT hf9).ex keptTrue hv
    · obtain rfl := Option.some.inj hoj
      clear hall
      refine wpOp_step rfl fun K' hK' => ?_
      have hK := Lib.hid hK'
      clear hK'
      rw [if_pos (by rfl)]
      try simp only [Act.put]
      go_simp
      refine hK.out _ _ ⟨v31, v34, (.pointer (some ⟨w'.heap.size, 0, none⟩)), v12, G, A', g, n', w'.heap.size, E, by go_simp, ⟨bt_keep hd0, bt_keep hd1, bt_keep hd3, bt_keep hd4⟩, hE.alloc _, fun hb => h2 (bt_old hb (by decide : (2 : Nat) ≠ 6)), fun hb => h5 (bt_old hb (by decide : (5 : Nat) ≠ 6)), fun hb => bt_keep (h8 (bt_old hb (by decide : (8 : Nat) ≠ 6))), fun hb => bt_keep (h9 (bt_old hb (by decide : (9 : Nat) ≠ 6))), ?_⟩
      rw [bt_self (d := ds) (j := 6), bt_ne (d := ds) (j := 6) (i := 7) (by decide), bt_ne (d := ds) (j := 6) (i := 8) (by decide), bt_ne (d := ds) (j := 6) (i := 9) (by decide)]
      rw [hu] at hT; exact hT.alloc0 keptTrue hE.size
    · obtain rfl := Option.some.inj hoj
      clear hall
      refine wpOp_step rfl fun K' hK' => ?_
      have hK := Lib.hid hK'
      clear hK'
      rw [if_pos (by rfl)]
      try simp only [Act.put]
      go_simp
      refine hK.out _ _ ⟨v31, v34, v11, (.pointer (some ⟨w'.heap.size, 0, none⟩)), G, A', g, n', D, w'.heap.size, by go_simp, ⟨bt_keep hd0, bt_keep hd1, bt_keep hd3, bt_keep hd4⟩, hE.alloc _, fun hb => h2 (bt_old hb (by decide : (2 : Nat) ≠ 7)), fun hb => h5 (bt_old hb (by decide : (5 : Nat) ≠ 7)), fun hb => bt_keep (h8 (bt_old hb (by decide : (8 : Nat) ≠ 7))), fun hb => bt_keep (h9 (bt_old hb (by decide : (9 : Nat) ≠ 7))), ?_⟩
      rw [bt_ne (d := ds) (j := 7) (i := 6) (by decide), bt_self (d := ds) (j := 7), bt_ne (d := ds) (j := 7) (i := 8) (by decide), bt_ne (d := ds) (j := 7) (i := 9) (by decide)]
      rw [hu] at hT; exact hT.alloc1 keptTrue hE.size
    · obtain rfl := Option.some.inj hoj
      have hcl := (hall ⟨2, .data⟩ (by simp) rfl)
      obtain rfl := h2 hcl
      have hal := (hall ⟨6, .data⟩ (by simp) rfl)
      obtain ⟨rfl, hDl, hDH, -⟩ := hT.box0 hal
      rw [hu] at hDH
      have hDD : Has w' D 32 #[.slice none 0 0] := hDH
      clear hDH
      have k0 := hDD.cell 0
      have f0 := hDD.free 0
      clear hall
      refine wpOp_step rfl fun K' hK' => ?_
      have hK := Lib.hid hK'
      clear hK'
      rw [if_pos (by rfl)]
      try simp only [Act.put]
      go_simp
      refine hK.out _ _ ⟨(.agg #[.slice G t2.length g]), v34, (.pointer (some ⟨D, 0, none⟩)), v12, G, A', g, n', D, E, by go_simp, ⟨bt_keep hd0, bt_keep hd1, bt_keep hd3, bt_keep hd4⟩, (hE.setCell (p := ⟨D, 0, none⟩) hDl _), fun _ => rfl, fun hb => h5 (bt_old hb (by decide : (5 : Nat) ≠ 8)), fun _ => bt_keep hcl, fun hb => bt_keep (h9 (bt_old hb (by decide : (9 : Nat) ≠ 8))), ?_⟩
      rw [bt_ne (d := ds) (j := 8) (i := 6) (by decide), bt_ne (d := ds) (j := 8) (i := 7) (by decide), bt_self (d := ds) (j := 8), bt_ne (d := ds) (j := 8) (i := 9) (by decide)]
      rw [hal] at hT ⊢; exact hT.store0 keptTrue (Only.set _ D 0 _) hDD.put1
    · obtain rfl := Option.some.inj hoj
      have hcl := (hall ⟨5, .data⟩ (by simp) rfl)
      obtain rfl := h5 hcl
      have hal := (hall ⟨7, .data⟩ (by simp) rfl)
      obtain ⟨rfl, hDl, hDH, -⟩ := hT.box1 hal
      rw [hu] at hDH
      have hDD : Has w' E 52 #[.int .i64 0, .slice none 0 0] := hDH
      clear hDH
      have k0 := hDD.cell 0
      have f0 := hDD.free 0
      have k1 := hDD.cell 1
      have f1 := hDD.free 1
      clear hall
      refine wpOp_step rfl fun K' hK' => ?_
      have hK := Lib.hid hK'
      clear hK'
      rw [if_pos (by rfl)]
      try simp only [Act.put]
      go_simp
      refine hK.out _ _ ⟨v31, (.agg #[.int .i64 (M : Int), .slice A' t2.length n']), v11, (.pointer (some ⟨E, 0, none⟩)), G, A', g, n', D, E, by go_simp, ⟨bt_keep hd0, bt_keep hd1, bt_keep hd3, bt_keep hd4⟩, ((hE.setCell (p := ⟨E, 0, none⟩) hDl _).setCell (p := ⟨E, 1, none⟩) hDl _), fun hb => h2 (bt_old hb (by decide : (2 : Nat) ≠ 9)), fun _ => rfl, fun hb => bt_keep (h8 (bt_old hb (by decide : (8 : Nat) ≠ 9))), fun _ => bt_keep hcl, ?_⟩
      rw [bt_ne (d := ds) (j := 9) (i := 6) (by decide), bt_ne (d := ds) (j := 9) (i := 7) (by decide), bt_ne (d := ds) (j := 9) (i := 8) (by decide), bt_self (d := ds) (j := 9)]
      rw [hal] at hT ⊢; exact hT.store1 keptTrue ((Only.set _ E 0 _).trans (Only.set _ E 1 _) (Nat.le_refl _) (Nat.le_refl _)) hDD.put2
  case hend =>
    rintro ds a w' ⟨v31, v34, v11, v12, G, A', g, n', D, E, rfl, ⟨hd0, hd1, hd3, hd4⟩, hE, h2, h5, h8, h9, hT⟩ hall
    obtain ⟨rfl, hD1, hD, -⟩ := hT.box0 (hall 6 (by decide))
    obtain ⟨rfl, hE1, hH, -⟩ := hT.box1 (hall 7 (by decide))
    rw [hall 8 (by decide)] at hD
    rw [hall 9 (by decide)] at hH
    obtain ⟨X, hXX⟩ : ∃ x : World, x = w' := ⟨_, rfl⟩
    subst hXX
    have HE8 := Lib.hid (HE1.out.trans hE)
    have HB08 := Lib.hid (HB01.out.ex hE)
    have HB18 := Lib.hid (HB11.out.ex hE)
    have HB28 := Lib.hid (HB21.out.ex hE)
    have HB38 := Lib.hid (HB31.out.ex hE)
    have HP8 := Lib.hid (show Has X D 32 #[.slice G t2.length g] from hD)
    have HO8 := Lib.hid (show Has X E 52 #[.int .i64 (M : Int), .slice A' t2.length n'] from hH)
    have g0 := HP8.out.cell 0
    have o0 := HO8.out.cell 0
    have o1 := HO8.out.cell 1
    have p0 := HB28.out.cell 0
    have p1 := HB28.out.cell 1
    clear hall hT hD hH hE h2 h5 h8 h9 hd0 hd1 hd3 hd4 hD1 hE1 HCF HE1 HB01 HB11 HB21 HB31
    try simp only [Act.put]
    go_simp
    go_wp2_with fail
    refine (HIS.out X G A' g n' HE8.out).mono ?_
    rintro e Y ⟨rfl, heY⟩
    have HEY := Lib.hid (HE8.out.trans heY)
    have HB0Y := Lib.hid (HB08.out.ex heY)
    have HB1Y := Lib.hid (HB18.out.ex heY)
    have HB2Y := Lib.hid (HB28.out.ex heY)
    have HB3Y := Lib.hid (HB38.out.ex heY)
    have HPY := Lib.hid (HP8.out.ex heY)
    clear heY g0 o0 o1 p0 p1 HE8 HP8 HO8 HB08 HB18 HB28 HB38
    have p0 := HB2Y.out.cell 0
    have c4 := HB3Y.out.cell 0
    have c4' := HB3Y.out.cell 1
    have f4 := HB3Y.out.free 0
    have f4' := HB3Y.out.free 1
    go_wp2_with fail
    have H4 := HB3Y.out.put2 (u := .int .i64 0) (v := .slice none 0 0)
    have c4 := H4.cell 0
    have c4' := H4.cell 1
    refine bodyPost_ret (v := .tuple #[.agg #[.int .i64 0, .slice none 0 0], .int .i64 2]) (by simp [results, Tryz.results25, go_sem, c4, c4']) rfl (SqS.err HQ.out rfl ((HEY.out.setCell (by show w.heap.size ≤ w.heap.size + 1 + 1 + 1; omega) _).setCell (by show w.heap.size ≤ w.heap.size + 1 + 1 + 1; omega) _))

end Go.Proofs.YtcdijeeabgmgmaaGreatDoor

/- TransferCochain: the specification's contract, a part. -/
namespace Go.Proofs.YtcdijeeabgmgmaaGreatDoor
open Go.RowKit

set_option maxRecDepth 100000 in
set_option maxHeartbeats 8000000 in
theorem specTC_yes0 (t0 : List (List Int)) (M : Nat) (t1 t2 : List Int) (d : Nat) (t3 : List Int) (B0 : Option Addr) (d0 : Nat) (B1 : Option Addr) (d1 : Nat) (B2 : Option Addr) (d2 : Nat) (B3 : Option Addr) (d3 : Nat) (w : World) (hR : RwsW w B0 t0) (hU : IntsW w B1 t1) (hX : IntsW w B2 t2) (hF : IntsW w B3 t3) (hs : SmallT t0) (hu : t1.length ≤ 1048576) (hx : t2.length ≤ 1048576) (hf : t3.length ≤ 1048576) (hd : d = 0) (hmg : mgC t0 (M : Int) t1 t2 = 0) (hcb : cocB t2.length (M : Int) (d : Int) t3 = true) (h : TcF t0 M t1 t2 d t3) :
    Calls Tryz.prog 25 #[.agg #[.slice B0 t0.length d0], .agg #[.int .i64 (M : Int), .slice B1 t1.length d1], .slice B2 t2.length d2, .agg #[.int .i64 (d : Int), .slice B3 t3.length d3]] w (SqS (qTransferCochain0 t0 (M : Int) t1 t2 (d : Int) t3) (yTransferCochain0 t0 (M : Int) t1 t2 (d : Int) t3) (qTransferCochain1 t0 (M : Int) t1 t2 (d : Int) t3) w) := by
  have hMF := h.m
  have hsx := h.s
  have hgr := h.s.g
  have e0 : Ex w ((((w.alloc (.cells #[.slice B0 t0.length d0] 32)).alloc (.cells #[.int .i64 (M : Int), .slice B1 t1.length d1] 52)).alloc (.cells #[.int .i64 (d : Int), .slice B3 t3.length d3] 34)).alloc (.cells #[.int .i64 0, .slice none 0 0] 34)) := ((((Ex.refl w).alloc _).alloc _).alloc _).alloc _
  have b0 : Has ((((w.alloc (.cells #[.slice B0 t0.length d0] 32)).alloc (.cells #[.int .i64 (M : Int), .slice B1 t1.length d1] 52)).alloc (.cells #[.int .i64 (d : Int), .slice B3 t3.length d3] 34)).alloc (.cells #[.int .i64 0, .slice none 0 0] 34)) (w.heap.size) 32 #[.slice B0 t0.length d0] := ((((Has.newAt (w := w) (e := 32) (cs := #[.slice B0 t0.length d0]) (k := w.heap.size) (by simp)).alloc _).alloc _).alloc _)
  have b1 : Has ((((w.alloc (.cells #[.slice B0 t0.length d0] 32)).alloc (.cells #[.int .i64 (M : Int), .slice B1 t1.length d1] 52)).alloc (.cells #[.int .i64 (d : Int), .slice B3 t3.length d3] 34)).alloc (.cells #[.int .i64 0, .slice none 0 0] 34)) (w.heap.size + 1) 52 #[.int .i64 (M : Int), .slice B1 t1.length d1] := (((Has.newAt (w := (w.alloc (.cells #[.slice B0 t0.length d0] 32))) (e := 52) (cs := #[.int .i64 (M : Int), .slice B1 t1.length d1]) (k := w.heap.size + 1) (by simp)).alloc _).alloc _)
  have b2 : Has ((((w.alloc (.cells #[.slice B0 t0.length d0] 32)).alloc (.cells #[.int .i64 (M : Int), .slice B1 t1.length d1] 52)).alloc (.cells #[.int .i64 (d : Int), .slice B3 t3.length d3] 34)).alloc (.cells #[.int .i64 0, .slice none 0 0] 34)) (w.heap.size + 1 + 1) 34 #[.int .i64 (d : Int), .slice B3 t3.length d3] := ((Has.newAt (w := ((w.alloc (.cells #[.slice B0 t0.length d0] 32)).alloc (.cells #[.int .i64 (M : Int), .slice B1 t1.length d1] 52))) (e := 34) (cs := #[.int .i64 (d : Int), .slice B3 t3.length d3]) (k := w.heap.size + 1 + 1) (by simp)).alloc _)
  have b3 : Has ((((w.alloc (.cells #[.slice B0 t0.length d0] 32)).alloc (.cells #[.int .i64 (M : Int), .slice B1 t1.length d1] 52)).alloc (.cells #[.int .i64 (d : Int), .slice B3 t3.length d3] 34)).alloc (.cells #[.int .i64 0, .slice none 0 0] 34)) (w.heap.size + 1 + 1 + 1) 34 #[.int .i64 0, .slice none 0 0] := (Has.newAt (w := (((w.alloc (.cells #[.slice B0 t0.length d0] 32)).alloc (.cells #[.int .i64 (M : Int), .slice B1 t1.length d1] 52)).alloc (.cells #[.int .i64 (d : Int), .slice B3 t3.length d3] 34))) (e := 34) (cs := #[.int .i64 0, .slice none 0 0]) (k := w.heap.size + 1 + 1 + 1) (by simp))
  have HG := Lib.hid (fun W (he : Ex w W) => l07Given_any B0 B1 B2 t0 (M : Int) t1 t2 d0 d1 d2 W (hR.ex he) (hU.ex he) (hX.ex he) hs hu hx)
  rw [hmg] at HG
  have HGR := Lib.hid (fun W (he : Ex w W) => l07Group_any B0 B2 t0 t2 d0 d2 W (hR.ex he) (hX.ex he) hsx)
  rw [show (grT t0 t2).length = t2.length from grT_len t0 t2] at HGR
  have HMO := Lib.hid (fun W (he : Ex w W) => l07Module_any B1 B2 t0 (M : Int) t1 t2 d1 d2 W (hU.ex he) (hX.ex he) hsx hMF.len)
  have HIS := Lib.hid (fun (W : World) (P A' : Option Addr) (q n' : Nat) (he : Ex w W) => l03Is_any P A' B3 (grT t0 t2) M t2 (d : Int) t3 q n' d3 W (by rw [grT_len]; exact hsx.pos) (by rw [grT_len]; exact hsx.len8) hMF.m2 hMF.m12 (hF.ex he) hf)
  rw [grT_len, hcb] at HIS
  have HQ := Lib.hid (tc_yes (tcC_yes (scC_yes hmg hcb) (by omega)))
  have hdz : ((d : Int) == 0) = true := by rw [hd]; rfl
  have hnd : decide ((d : Int) > 1) = false := by simp; omega
  have hnd2 : decide (1 < (d : Int)) = false := by simp; omega
  have HCO := Lib.hid (fun W (he : Ex w W) => l01Cosets_any B0 B2 t0 t2 d0 d2 W (hR.ex he) (hX.ex he) hgr hx (setB_true.1 hsx.b).1)
  rw [show cosK t0 (elsL t2) t0.length = cosS t0 t2 from rfl] at HCO
  have hn8 := hgr.n8
  have hn1 := hgr.n1
  have hM2 := hMF.m2
  have hM12 := hMF.m12
  have HLU := Lib.hid hMF.len
  have HDD := Lib.hid hd
  have hp8 := hsx.len8
  have hp1 := hsx.pos
  have HLN := Lib.hid h.len
  have HZ := Lib.hid (fun W => l03Zero_any B0 t0.length d0 d W hn8 hn1 (by omega))
  have hcl := cellsN_le hn8 (show d ≤ 4 by omega)
  have HV := Lib.hid (fun k (hk : k < cellsN t0.length d) i (hi : i < (cosS t0 t2).fst.length) => And.intro (h.v_in (x := tcX d k) (h.x_lt hk) hi) (And.intro (h.n_in (x := tcX d k) (h.x_lt hk) hi) (And.intro (h.t_in (x := tcX d k) (h.x_lt hk) hi) (And.intro (h.u_lt (x := tcX d k) (h.x_lt hk) hi) (h.p_in (x := tcX d k) (h.x_lt hk) hi)))))
  have HSB := Lib.hid (fun k (hk : k < cellsN t0.length d) => sumT_bnd (T := tcT t0 t1 t2 t3 d (tcX d k)) (n := (cosS t0 t2).fst.length) (fun j hj => h.t_in (h.x_lt hk) hj))
  have HXL := Lib.hid (fun k (hk : k < cellsN t0.length d) => h.x_lt hk)
  have HFA := Lib.hid (fun i (hi : i < (cosS t0 t2).fst.length) => And.intro (fstA_nth hi) (h.i_lt hi))
  have hl8 := h.len8
  have HTY : Hid (tcY t0 M t1 t2 t3 d = (List.range (cellsN t0.length d)).map (tcV t0 M t1 t2 t3 d)) := Lib.hid rfl
  have HTV : Hid (∀ k, tcV t0 M t1 t2 t3 d k = sumT (tcT t0 t1 t2 t3 d (tcX d k)) (cosS t0 t2).fst.length % (M : Int)) := Lib.hid (fun _ => rfl)
  have HRW := Lib.hid hR
  have HUL := Lib.hid hU
  have HFL := Lib.hid hF
  have HXX := Lib.hid hX
  have HSX := Lib.hid hsx
  have HT0 : Hid (∀ k i, i < (cosS t0 t2).fst.length → tcT t0 t1 t2 t3 d (tcX d k) i = nth t1 (fstA (cosS t0 t2) i) * nth t3 0 ∧ tcU t0 t2 (tcX d k) i = fstA (cosS t0 t2) i ∧ valR t2.length t3 (tcP t0 t2 d (tcX d k) i) = nth t3 0) := Lib.hid (fun k i hi => by
    subst hd
    have e1 : tcX 0 k = 0 := rfl
    have e2 : tcP t0 t2 0 (tcX 0 k) i = [] := rfl
    rw [e2, valR_nil, e1, tcU_zero hsx hi]
    refine ⟨?_, rfl, rfl⟩
    show nth t1 (tcU t0 t2 0 i) * valR t2.length t3 [] = _
    rw [valR_nil, tcU_zero hsx hi])
  obtain ⟨SS, hSE⟩ : ∃ S, cosS t0 t2 = S := ⟨_, rfl⟩
  rw [hSE] at HCO HV HSB HFA hl8 HTV HT0
  obtain ⟨ls, hls⟩ : ∃ ls, SS.fst.map (fun x : Nat => (x : Int)) = ls := ⟨_, rfl⟩
  have HLL : Hid (ls.length = SS.fst.length) := Lib.hid (by rw [← hls, List.length_map])
  rw [hls] at HCO HFA
  obtain ⟨N, hN⟩ : ∃ N, SS.fst.length = N := ⟨_, rfl⟩
  rw [hN] at HCO HV HSB HFA hl8 HTV HLL HT0
  obtain ⟨cn, hcn⟩ : ∃ cn, cellsN t0.length d = cn := ⟨_, rfl⟩
  rw [hcn] at HZ hcl HV HSB HXL HTY
  have HE0 := Lib.hid e0
  have HB00 := Lib.hid b0
  have HB10 := Lib.hid b1
  have HB20 := Lib.hid b2
  have HB30 := Lib.hid b3
  have k0 := b0.cell 0
  have k1 := b1.cell 0
  have k1' := b1.cell 1
  clear b0 b1 b2 b3 e0
  clear hR hU hX hF hs hu hx hf hmg hMF hsx hcb h hgr hSE hls hN hcn hd
  go_enter Tryz.func25, Tryz.ntmps25
  go_wp2_with fail
  generalize ((((w.alloc (.cells #[.slice B0 t0.length d0] 32)).alloc (.cells #[.int .i64 (M : Int), .slice B1 t1.length d1] 52)).alloc (.cells #[.int .i64 (d : Int), .slice B3 t3.length d3] 34)).alloc (.cells #[.int .i64 0, .slice none 0 0] 34)) = W0 at *
  refine (HG.out W0 HE0.out).mono ?_
  rintro e W1 ⟨rfl, he1⟩
  have HE1 := Lib.hid (HE0.out.trans he1)
  have HB01 := Lib.hid (HB00.out.ex he1)
  have HB11 := Lib.hid (HB10.out.ex he1)
  have HB21 := Lib.hid (HB20.out.ex he1)
  have HB31 := Lib.hid (HB30.out.ex he1)
  clear he1 k0 k1 k1' HG HE0 HB00 HB10 HB20 HB30
  go_wp2_with fail
  have HCF := Lib.hid (fun (W : World) (he : Ex W1 W) => And.intro ((HB01.out.ex he).cell 0) (And.intro ((HB11.out.ex he).cell 0) ((HB11.out.ex he).cell 1)))
  have hC0 := HCF.out W1 (Ex.refl _)
  refine Late.region (C := fun w' => w'.cell? ⟨w.heap.size, 0, none⟩ = some (.slice B0 t0.length d0) ∧ w'.cell? ⟨w.heap.size + 1, 0, none⟩ = some (.int .i64 (M : Int)) ∧ w'.cell? ⟨w.heap.size + 1, 1, none⟩ = some (.slice B1 t1.length d1)) (fun _ => true) (by kernel_rfl) hC0 (fun hC => ?_)
  refine Late.take (i := 0) (oi := ⟨_, _, _, _, _, _⟩) (v := ?_) rfl (by kernel_rfl) (by kernel_rfl) (by kernel_rfl) (by kernel_rfl) (fun _ _ _ h => h) (Or.inl ⟨by rfl, ?_⟩) hC ?_
  rotate_left
  · (intro w hSw; (try dsimp only at hSw); go_simp; first | done | with_reducible rfl)
  simp only [Act.put]
  refine Late.take (i := 1) (oi := ⟨_, _, _, _, _, _⟩) (v := ?_) rfl (by kernel_rfl) (by kernel_rfl) (by kernel_rfl) (by kernel_rfl) (fun _ _ _ h => h) (Or.inl ⟨by rfl, ?_⟩) hC ?_
  rotate_left
  · (intro w hSw; (try dsimp only at hSw); go_simp; first | done | with_reducible rfl)
  simp only [Act.put]
  refine Late.take (i := 3) (oi := ⟨_, _, _, _, _, _⟩) (v := ?_) rfl (by kernel_rfl) (by kernel_rfl) (by kernel_rfl) (by kernel_rfl) (fun _ _ _ h => h) (Or.inl ⟨by rfl, ?_⟩) hC ?_
  rotate_left
  · (intro w hSw; (try dsimp only at hSw); go_simp; first | done | with_reducible rfl)
  simp only [Act.put]
  refine Late.take (i := 4) (oi := ⟨_, _, _, _, _, _⟩) (v := ?_) rfl (by kernel_rfl) (by kernel_rfl) (by kernel_rfl) (by kernel_rfl) (fun _ _ _ h => h) (Or.inl ⟨by rfl, ?_⟩) hC ?_
  rotate_left
  · (intro w hSw; (try dsimp only at hSw); go_simp; first | done | with_reducible rfl)
  simp only [Act.put]
  clear hC hC0
  refine late_start (SS := fun (a0 : Act) (ds : Array Bool) (a : Act) (w' : World) => ∃ (v31 v34 v11 v12 : Value) (G A' : Option Addr) (g n' D E : Nat), a = ((((a0.put (some 31) v31).put (some 34) v34).put (some 11) v11).put (some 12) v12) ∧ (ds.getD 0 true = true ∧ ds.getD 1 true = true ∧ ds.getD 3 true = true ∧ ds.getD 4 true = true) ∧ Ex W1 w' ∧ (ds.getD 2 true = true → v31 = .agg #[.slice G t2.length g]) ∧ (ds.getD 5 true = true → v34 = .agg #[.int .i64 (M : Int), .slice A' t2.length n']) ∧ (ds.getD 8 true = true → ds.getD 2 true = true) ∧ (ds.getD 9 true = true → ds.getD 5 true = true) ∧ TwoR W1.heap.size 32 52 #[.slice none 0 0] #[.int .i64 0, .slice none 0 0] #[.slice G t2.length g] #[.int .i64 (M : Int), .slice A' t2.length n'] (fun _ _ _ => True) true (ds.getD 6 true) (ds.getD 7 true) (ds.getD 8 true) (ds.getD 9 true) v11 v12 0 0 D E w') (by kernel_rfl) ?h0 (by rfl) (by decide) ?hC ?hend ?hstep
  case h0 => exact ⟨undef, undef, undef, undef, none, none, 0, 0, 0, 0, by go_simp, ⟨by decide, by decide, by decide, by decide⟩, (Ex.refl W1).drew, fun hb => absurd hb (by decide), fun hb => absurd hb (by decide), fun hb => absurd hb (by decide), fun hb => absurd hb (by decide), TwoR.begin⟩
  case hC =>
    rintro ds a w' ⟨v31, v34, v11, v12, G, A', g, n', D, E, rfl, ⟨hd0, hd1, hd3, hd4⟩, hE, h2, h5, h8, h9, hT⟩
    exact HCF.out w' hE
  case hstep =>
    rintro ds a w' ⟨v31, v34, v11, v12, G, A', g, n', D, E, rfl, ⟨hd0, hd1, hd3, hd4⟩, hE, h2, h5, h8, h9, hT⟩ j oj hoj hu hall
    have hjn : j < 10 := (Array.getElem?_eq_some_iff.1 hoj).1
    rcases (by omega : j = 0 ∨ j = 1 ∨ j = 3 ∨ j = 4 ∨ j = 2 ∨ j = 5 ∨ j = 6 ∨ j = 7 ∨ j = 8 ∨ j = 9) with rfl | rfl | rfl | rfl | rfl | rfl | rfl | rfl | rfl | rfl
    · rw [hd0] at hu; cases hu
    · rw [hd1] at hu; cases hu
    · rw [hd3] at hu; cases hu
    · rw [hd4] at hu; cases hu
    · obtain rfl := Option.some.inj hoj
      have hf8 : ds.getD 8 true = false := by
        cases hb : ds.getD 8 true with
        | false => rfl
        | true => rw [h8 hb] at hu; cases hu
      clear hall
      refine wpOp_step rfl fun K' hK' => ?_
      have hK := Lib.hid hK'
      clear hK'
      rw [if_pos (by rfl)]
      try simp only [Act.put]
      go_simp
      refine (HGR.out w' (HE1.out.trans hE)).mono ?_
      rintro e w2 ⟨GG, gn, rfl, hv, -⟩
      refine hK.out _ _ ⟨_, v34, v11, v12, GG, A', gn, n', D, E, by go_simp, ⟨bt_keep hd0, bt_keep hd1, bt_keep hd3, bt_keep hd4⟩, hE.trans hv, fun _ => rfl, fun hb => h5 (bt_old hb (by decide : (5 : Nat) ≠ 2)), fun _ => by rw [bt_self], fun hb => bt_keep (h9 (bt_old hb (by decide : (9 : Nat) ≠ 2))), ?_⟩
      rw [bt_ne (d := ds) (j := 2) (i := 6) (by decide), bt_ne (d := ds) (j := 2) (i := 7) (by decide), bt_ne (d := ds) (j := 2) (i := 8) (by decide), bt_ne (d := ds) (j := 2) (i := 9) (by decide)]
      exact (TwoR.to0 hT hf8).ex keptTrue hv
    · obtain rfl := Option.some.inj hoj
      have hf9 : ds.getD 9 true = false := by
        cases hb : ds.getD 9 true with
        | false => rfl
        | true => rw [h9 hb] at hu; cases hu
      clear hall
      refine wpOp_step rfl fun K' hK' => ?_
      have hK := Lib.hid hK'
      clear hK'
      rw [if_pos (by rfl)]
      try simp only [Act.put]
      go_simp
      refine (HMO.out w' (HE1.out.trans hE)).mono ?_
      rintro e w2 ⟨AA, nn, rfl, hv, -⟩
      refine hK.out _ _ ⟨v31, _, v11, v12, G, AA, g, nn, D, E, by go_simp, ⟨bt_keep hd0, bt_keep hd1, bt_keep hd3, bt_keep hd4⟩, hE.trans hv, fun hb => h2 (bt_old hb (by decide : (2 : Nat) ≠ 5)), fun _ => rfl, fun hb => bt_keep (h8 (bt_old hb (by decide : (8 : Nat) ≠ 5))), fun _ => by rw [bt_self], ?_⟩
      rw [bt_ne (d := ds) (j := 5) (i := 6) (by decide), bt_ne (d := ds) (j := 5) (i := 7) (by decide), bt_ne (d := ds) (j := 5) (i := 8) (by decide), bt_ne (d := ds) (j := 5) (i := 9) (by decide)]
      exact (TwoR.to1 hT hf9).ex keptTrue hv
    · obtain rfl := Option.some.inj hoj
      clear hall
      refine wpOp_step rfl fun K' hK' => ?_
      have hK := Lib.hid hK'
      clear hK'
      rw [if_pos (by rfl)]
      try simp only [Act.put]
      go_simp
      refine hK.out _ _ ⟨v31, v34, (.pointer (some ⟨w'.heap.size, 0, none⟩)), v12, G, A', g, n', w'.heap.size, E, by go_simp, ⟨bt_keep hd0, bt_keep hd1, bt_keep hd3, bt_keep hd4⟩, hE.alloc _, fun hb => h2 (bt_old hb (by decide : (2 : Nat) ≠ 6)), fun hb => h5 (bt_old hb (by decide : (5 : Nat) ≠ 6)), fun hb => bt_keep (h8 (bt_old hb (by decide : (8 : Nat) ≠ 6))), fun hb => bt_keep (h9 (bt_old hb (by decide : (9 : Nat) ≠ 6))), ?_⟩
      rw [bt_self (d := ds) (j := 6), bt_ne (d := ds) (j := 6) (i := 7) (by decide), bt_ne (d := ds) (j := 6) (i := 8) (by decide), bt_ne (d := ds) (j := 6) (i := 9) (by decide)]
      rw [hu] at hT; exact hT.alloc0 keptTrue hE.size
    · obtain rfl := Option.some.inj hoj
      clear hall
      refine wpOp_step rfl fun K' hK' => ?_
      have hK := Lib.hid hK'
      clear hK'
      rw [if_pos (by rfl)]
      try simp only [Act.put]
      go_simp
      refine hK.out _ _ ⟨v31, v34, v11, (.pointer (some ⟨w'.heap.size, 0, none⟩)), G, A', g, n', D, w'.heap.size, by go_simp, ⟨bt_keep hd0, bt_keep hd1, bt_keep hd3, bt_keep hd4⟩, hE.alloc _, fun hb => h2 (bt_old hb (by decide : (2 : Nat) ≠ 7)), fun hb => h5 (bt_old hb (by decide : (5 : Nat) ≠ 7)), fun hb => bt_keep (h8 (bt_old hb (by decide : (8 : Nat) ≠ 7))), fun hb => bt_keep (h9 (bt_old hb (by decide : (9 : Nat) ≠ 7))), ?_⟩
      rw [bt_ne (d := ds) (j := 7) (i := 6) (by decide), bt_self (d := ds) (j := 7), bt_ne (d := ds) (j := 7) (i := 8) (by decide), bt_ne (d := ds) (j := 7) (i := 9) (by decide)]
      rw [hu] at hT; exact hT.alloc1 keptTrue hE.size
    · obtain rfl := Option.some.inj hoj
      have hcl := (hall ⟨2, .data⟩ (by simp) rfl)
      obtain rfl := h2 hcl
      have hal := (hall ⟨6, .data⟩ (by simp) rfl)
      obtain ⟨rfl, hDl, hDH, -⟩ := hT.box0 hal
      rw [hu] at hDH
      have hDD : Has w' D 32 #[.slice none 0 0] := hDH
      clear hDH
      have k0 := hDD.cell 0
      have f0 := hDD.free 0
      clear hall
      refine wpOp_step rfl fun K' hK' => ?_
      have hK := Lib.hid hK'
      clear hK'
      rw [if_pos (by rfl)]
      try simp only [Act.put]
      go_simp
      refine hK.out _ _ ⟨(.agg #[.slice G t2.length g]), v34, (.pointer (some ⟨D, 0, none⟩)), v12, G, A', g, n', D, E, by go_simp, ⟨bt_keep hd0, bt_keep hd1, bt_keep hd3, bt_keep hd4⟩, (hE.setCell (p := ⟨D, 0, none⟩) hDl _), fun _ => rfl, fun hb => h5 (bt_old hb (by decide : (5 : Nat) ≠ 8)), fun _ => bt_keep hcl, fun hb => bt_keep (h9 (bt_old hb (by decide : (9 : Nat) ≠ 8))), ?_⟩
      rw [bt_ne (d := ds) (j := 8) (i := 6) (by decide), bt_ne (d := ds) (j := 8) (i := 7) (by decide), bt_self (d := ds) (j := 8), bt_ne (d := ds) (j := 8) (i := 9) (by decide)]
      rw [hal] at hT ⊢; exact hT.store0 keptTrue (Only.set _ D 0 _) hDD.put1
    · obtain rfl := Option.some.inj hoj
      have hcl := (hall ⟨5, .data⟩ (by simp) rfl)
      obtain rfl := h5 hcl
      have hal := (hall ⟨7, .data⟩ (by simp) rfl)
      obtain ⟨rfl, hDl, hDH, -⟩ := hT.box1 hal
      rw [hu] at hDH
      have hDD : Has w' E 52 #[.int .i64 0, .slice none 0 0] := hDH
      clear hDH
      have k0 := hDD.cell 0
      have f0 := hDD.free 0
      have k1 := hDD.cell 1
      have f1 := hDD.free 1
      clear hall
      refine wpOp_step rfl fun K' hK' => ?_
      have hK := Lib.hid hK'
      clear hK'
      rw [if_pos (by rfl)]
      try simp only [Act.put]
      go_simp
      refine hK.out _ _ ⟨v31, (.agg #[.int .i64 (M : Int), .slice A' t2.length n']), v11, (.pointer (some ⟨E, 0, none⟩)), G, A', g, n', D, E, by go_simp, ⟨bt_keep hd0, bt_keep hd1, bt_keep hd3, bt_keep hd4⟩, ((hE.setCell (p := ⟨E, 0, none⟩) hDl _).setCell (p := ⟨E, 1, none⟩) hDl _), fun hb => h2 (bt_old hb (by decide : (2 : Nat) ≠ 9)), fun _ => rfl, fun hb => bt_keep (h8 (bt_old hb (by decide : (8 : Nat) ≠ 9))), fun _ => bt_keep hcl, ?_⟩
      rw [bt_ne (d := ds) (j := 9) (i := 6) (by decide), bt_ne (d := ds) (j := 9) (i := 7) (by decide), bt_ne (d := ds) (j := 9) (i := 8) (by decide), bt_self (d := ds) (j := 9)]
      rw [hal] at hT ⊢; exact hT.store1 keptTrue ((Only.set _ E 0 _).trans (Only.set _ E 1 _) (Nat.le_refl _) (Nat.le_refl _)) hDD.put2
  case hend =>
    rintro ds a w' ⟨v31, v34, v11, v12, G, A', g, n', D, E, rfl, ⟨hd0, hd1, hd3, hd4⟩, hE, h2, h5, h8, h9, hT⟩ hall
    obtain ⟨rfl, hD1, hD, -⟩ := hT.box0 (hall 6 (by decide))
    obtain ⟨rfl, hE1, hH, -⟩ := hT.box1 (hall 7 (by decide))
    rw [hall 8 (by decide)] at hD
    rw [hall 9 (by decide)] at hH
    obtain ⟨X, hXX⟩ : ∃ x : World, x = w' := ⟨_, rfl⟩
    subst hXX
    have HE8 := Lib.hid (HE1.out.trans hE)
    have HB08 := Lib.hid (HB01.out.ex hE)
    have HB18 := Lib.hid (HB11.out.ex hE)
    have HB28 := Lib.hid (HB21.out.ex hE)
    have HB38 := Lib.hid (HB31.out.ex hE)
    have HP8 := Lib.hid (show Has X D 32 #[.slice G t2.length g] from hD)
    have HO8 := Lib.hid (show Has X E 52 #[.int .i64 (M : Int), .slice A' t2.length n'] from hH)
    have g0 := HP8.out.cell 0
    have o0 := HO8.out.cell 0
    have o1 := HO8.out.cell 1
    have p0 := HB28.out.cell 0
    have p1 := HB28.out.cell 1
    clear hall hT hD hH hE h2 h5 h8 h9 hd0 hd1 hd3 hd4 hD1 hE1 HCF HE1 HB01 HB11 HB21 HB31
    try simp only [Act.put]
    go_simp
    go_wp2_with fail
    refine (HIS.out X G A' g n' HE8.out).mono ?_
    rintro e Y ⟨rfl, heY⟩
    have HEY := Lib.hid (HE8.out.trans heY)
    have HB0Y := Lib.hid (HB08.out.ex heY)
    have HB1Y := Lib.hid (HB18.out.ex heY)
    have HB2Y := Lib.hid (HB28.out.ex heY)
    have HB3Y := Lib.hid (HB38.out.ex heY)
    have HPY := Lib.hid (HP8.out.ex heY)
    clear heY g0 o0 o1 p0 p1 HE8 HP8 HO8 HB08 HB18 HB28 HB38
    have c0 := HB0Y.out.cell 0
    have p0 := HB2Y.out.cell 0
    go_wp2_with fail
    refine (HCO.out Y HEY.out).mono ?_
    rintro e V ⟨Dn, v, rfl, heV, hlD, hDn, hG⟩
    have HEV := Lib.hid (HEY.out.trans heV)
    have HB0V := Lib.hid (HB0Y.out.ex heV)
    have HB1V := Lib.hid (HB1Y.out.ex heV)
    have HB2V := Lib.hid (HB2Y.out.ex heV)
    have HB3V := Lib.hid (HB3Y.out.ex heV)
    have HPV := Lib.hid (HPY.out.ex heV)
    obtain ⟨LA, lc, rfl, hLO⟩ := hG.own
    have HIO := Lib.hid (OwnL.of_has (xs := (List.range t0.length).map fun x => (SS.num x : Int)) (lo := Y.heap.size) (n := t0.length) (e := 2) (by
      have : (tab t0.length fun j => Value.int .i64 (nth ((List.range t0.length).map fun x => (SS.num x : Int)) j)) = tab t0.length fun x => Value.int .i64 (SS.num x : Int) := tab_congr fun j hj => by simp [nth, hj]
      rw [this]; exact hDn) (by simp) hlD).ints
    have HIL := Lib.hid hLO.ints
    rw [HLL.out]
    clear heV hlD hDn hG hLO c0 p0 HEY HPY HB0Y HB1Y HB2Y HB3Y HCO
    have c0 := HB0V.out.cell 0
    have p0 := HB2V.out.cell 0
    go_wp2_with fail
    refine (HZ.out V).mono ?_
    rintro e U ⟨A2, n2, rfl, heU, hoU⟩
    have HVU := Lib.hid heU
    obtain ⟨zs, hzs⟩ : ∃ zs, List.replicate cn (0 : Int) = zs := ⟨_, rfl⟩
    have HZL : Hid (zs.length = cn) := Lib.hid (by rw [← hzs]; simp)
    rw [hzs] at hoU ⊢
    rw [HZL.out]
    have HUZ : Hid (upL zs (tcV t0 M t1 t2 t3 d) cn = tcY t0 M t1 t2 t3 d) := Lib.hid (by
      have e := upL_all zs (tcV t0 M t1 t2 t3 d)
      rw [HZL.out] at e
      rw [e, HTY.out])
    have HOU : Hid (OwnL U V.heap.size U.heap.size A2 (upL zs (tcV t0 M t1 t2 t3 d) 0)) := Lib.hid (by rw [upL_zero]; exact hoU)
    have hUV := heU.size
    have HEV0 := Lib.hid (show w.heap.size + 1 + 1 + 1 + 1 ≤ V.heap.size from HB3V.out.lt)
    obtain ⟨D2, hD2⟩ : ∃ s, U.heap.size = s := ⟨_, rfl⟩
    clear heU hoU hzs c0 p0 HZ
    go_upto_region 11 with (fail)
    try simp only [hD2]
    go_wp2_with fail
    go_loopw [16] (fun i wr => ∃ k : Nat, k ≤ cn ∧ i = .int .i64 (k : Int) ∧ Hid (Ex V wr) ∧ Hid (Has wr D2 34 #[.int .i64 (d : Int), .slice A2 cn n2]) ∧ Hid (OwnL wr V.heap.size D2 A2 (upL zs (tcV t0 M t1 t2 t3 d) k))) (fun i _ => cn - (intOf i).toNat)
    case atStart =>
      have hn := Has.new U 34 #[.int .i64 (d : Int), .slice A2 cn n2]
      rw [hD2] at hn
      refine ⟨0, Nat.zero_le _, rfl, Lib.hid (HVU.out.alloc _), Lib.hid hn, Lib.hid ?_⟩
      have h1 := HOU.out.ex (Ex.new U (.cells #[.int .i64 (d : Int), .slice A2 cn n2] 34))
      rw [hD2] at h1
      exact h1
    case round =>
      obtain ⟨W2, rfl⟩ : ∃ x : World, x = wr := ⟨_, rfl⟩
      obtain ⟨k, hk, rfl, HE2, HD2, HA2⟩ := hrel
      have q1 := HD2.out.cell 1
      by_cases hlt : k < cn
      · have hjb : decide ((k : Int) < (cn : Int)) = true := by simp; omega
        go_wp2_with fail
        go_loopw [17, 18] (fun s i wr => ∃ q : Nat, q ≤ N ∧ i = .int .i64 (q : Int) ∧ s = .int .i64 (sumT (tcT t0 t1 t2 t3 d (tcX d k)) q) ∧ Hid (Ex W2 wr)) (fun _ i _ => N - (intOf i).toNat)
        case atStart => exact ⟨0, Nat.zero_le _, rfl, rfl, Lib.hid (Ex.refl _)⟩
        case round =>
          obtain ⟨q, hq, rfl, rfl, HEq⟩ := hrel
          have HEw := Lib.hid (HE2.out.trans HEq.out)
          have hb0 := (HB2V.out.ex HEw.out).cell 0
          by_cases hqN : q < N
          · obtain ⟨hv, hn, ht, hul', hpi⟩ := HV.out k hlt q hqN
            have hs0 := HSB.out k hlt q (by omega)
            have hs1 := HSB.out k hlt (q + 1) (by omega)
            have HS1 : Hid (sumT (tcT t0 t1 t2 t3 d (tcX d k)) (q + 1) = sumT (tcT t0 t1 t2 t3 d (tcX d k)) q + tcT t0 t1 t2 t3 d (tcX d k) q) := Lib.hid rfl
            rw [HS1.out] at hs1
            obtain ⟨hfk, hfl⟩ := HFA.out q hqN
            have hql : q < ls.length := by rw [HLL.out]; exact hqN
            obtain ⟨bx, ox, rfl, hbx, hcx⟩ := (HIL.out.ex HEw.out).ints.at_ hql
            rw [hfk] at hcx
            have hq0 : (0 : Int) ≤ (q : Int) := by omega
            have hqn : (q : Int) < (N : Int) := by omega
            obtain ⟨e1, e2, e3⟩ := HT0.out k q hqN
            rw [e2] at hn
            rw [e3] at hv
            rw [e1] at HS1 hs1 ht
            obtain ⟨bf, of, rfl, hbf, hcf⟩ := HFL.out.ints.at_ (j := 0) (by rw [HLN.out, HDD.out]; simp [cellsN])
            have hcf' : w.cell? ⟨bf, of, none⟩ = some (.int .i64 (nth t3 0)) := hcf
            obtain ⟨bu, ou, rfl, hbu, hcuq⟩ := HUL.out.ints.at_ (j := fstA SS q) (by rw [HLU.out]; exact hfl)
            have HF := Lib.hid (fun W' (he : Ex wr.drew W') => And.intro ((HB1V.out.ex (HEw.out.drew.trans he)).cell 1) (And.intro ((HB2V.out.ex (HEw.out.drew.trans he)).cell 1) (And.intro ((he.below.cell (p := ⟨bx, ox + q, none⟩) hbx).trans hcx) (And.intro ((((HEV.out.trans HEw.out).drew.trans he).below.cell (p := ⟨bu, ou + fstA SS q, none⟩) hbu).trans hcuq) ((((HEV.out.trans HEw.out).drew.trans he).below.cell (p := ⟨bf, of, none⟩) hbf).trans hcf')))))
            have hf3n : 0 < t3.length := by rw [HLN.out, HDD.out]; simp [cellsN]
            have hf3 : (0 : Int) < (t3.length : Int) := by omega
            obtain ⟨u, hue⟩ : ∃ u, nth t1 (fstA SS q) = u := ⟨_, rfl⟩
            obtain ⟨y, hye⟩ : ∃ y, nth t3 0 = y := ⟨_, rfl⟩
            obtain ⟨s, hse⟩ : ∃ s, sumT (tcT t0 t1 t2 t3 d (tcX d k)) q = s := ⟨_, rfl⟩
            rw [hue, hye] at HF ht hs1 HS1
            rw [hse] at hs0 hs1 HS1 ⊢
            obtain ⟨fk, hfe⟩ : ∃ f, fstA SS q = f := ⟨_, rfl⟩
            rw [hfe] at HF hfl
            have hf0 : (0 : Int) ≤ (fk : Int) := by omega
            have hfn : (fk : Int) < (t1.length : Int) := by rw [HLU.out]; omega
            have hw1 : IntKind.i64.wrap (u * y) = u * y := IntWalk.i64_in _ (by omega)
            have hw2 : IntKind.i64.wrap (s + u * y) = s + u * y := IntWalk.i64_in _ (by omega)
            clear hv hn ht hul' hpi hs0 hs1 hfk hcx e1 e2 e3 hcf hcf' hcuq hue hye hse hfe
            go_wp2_with fail
            refine wp_region_quiet (C := fun w' => Ex wr.drew w') (by kernel_rfl) (by kernel_rfl) (Ex.refl _) ?_
            refine BigFrame.wpQuiet_want (by rfl) fun K hK => ⟨?_, fun w' hC => ?_, hK _ ?_⟩
            rotate_left
            · (obtain ⟨q0, q1', q2, q3, q4⟩ := HF.out _ hC; go_simp; first | done | with_reducible rfl | exact ⟨rfl, hC⟩)
            clear hK K
            simp only [Act.put, List.setIfInBounds_toArray, List.set_cons_zero, List.set_cons_succ]
            refine BigFrame.wpQuiet_want (by rfl) fun K hK => ⟨?_, fun w' hC => ?_, hK _ ?_⟩
            rotate_left
            · (obtain ⟨q0, q1', q2, q3, q4⟩ := HF.out _ hC; go_simp; first | done | with_reducible rfl | exact ⟨rfl, hC⟩)
            clear hK K
            simp only [Act.put, List.setIfInBounds_toArray, List.set_cons_zero, List.set_cons_succ]
            refine BigFrame.wpQuiet_want (by rfl) fun K hK => ⟨?_, fun w' hC => ?_, hK _ ?_⟩
            rotate_left
            · (obtain ⟨q0, q1', q2, q3, q4⟩ := HF.out _ hC; go_simp; first | done | with_reducible rfl | exact ⟨rfl, hC⟩)
            clear hK K
            simp only [Act.put, List.setIfInBounds_toArray, List.set_cons_zero, List.set_cons_succ]
            refine BigFrame.wpQuiet_want (by rfl) fun K hK => ⟨?_, fun w' hC => ?_, hK _ ?_⟩
            rotate_left
            · (obtain ⟨q0, q1', q2, q3, q4⟩ := HF.out _ hC; go_simp; first | done | with_reducible rfl | exact ⟨rfl, hC⟩)
            clear hK K
            simp only [Act.put, List.setIfInBounds_toArray, List.set_cons_zero, List.set_cons_succ]
            refine BigFrame.wpQuiet_want (by rfl) fun K hK => ⟨?_, fun w' hC => ?_, hK _ ?_⟩
            rotate_left
            · (obtain ⟨q0, q1', q2, q3, q4⟩ := HF.out _ hC; go_simp; first | done | with_reducible rfl | exact ⟨rfl, hC⟩)
            clear hK K
            simp only [Act.put, List.setIfInBounds_toArray, List.set_cons_zero, List.set_cons_succ]
            refine BigFrame.wpQuiet_want (by rfl) fun K hK => ⟨?_, fun w' hC => ?_, hK _ ?_⟩
            rotate_left
            · (obtain ⟨q0, q1', q2, q3, q4⟩ := HF.out _ hC; go_simp; first | done | with_reducible rfl | exact ⟨rfl, hC⟩)
            clear hK K
            simp only [Act.put, List.setIfInBounds_toArray, List.set_cons_zero, List.set_cons_succ]
            refine BigFrame.wpQuiet_want (by rfl) fun K hK => ⟨?_, fun w' hC => ?_, hK _ ?_⟩
            rotate_left
            · (obtain ⟨q0, q1', q2, q3, q4⟩ := HF.out _ hC; go_simp; first | done | with_reducible rfl | exact ⟨rfl, hC⟩)
            clear hK K
            simp only [Act.put, List.setIfInBounds_toArray, List.set_cons_zero, List.set_cons_succ]
            refine BigFrame.wpQuiet_want (by rfl) fun K hK => ⟨?_, fun w' hC => ?_, hK _ ?_⟩
            rotate_left
            · (obtain ⟨q0, q1', q2, q3, q4⟩ := HF.out _ hC; go_simp; first | done | with_reducible rfl | exact ⟨rfl, hC⟩)
            clear hK K
            simp only [Act.put, List.setIfInBounds_toArray, List.set_cons_zero, List.set_cons_succ]
            refine BigFrame.wpQuiet_want (by rfl) fun K hK => ⟨?_, fun w' hC => ?_, hK _ ?_⟩
            rotate_left
            · (obtain ⟨q0, q1', q2, q3, q4⟩ := HF.out _ hC; go_simp; first | done | with_reducible rfl | exact ⟨rfl, hC⟩)
            clear hK K
            simp only [Act.put, List.setIfInBounds_toArray, List.set_cons_zero, List.set_cons_succ]
            refine BigFrame.wpQuiet_want (by rfl) fun K hK => ⟨?_, fun w' hC => ?_, hK _ ?_⟩
            rotate_left
            · (obtain ⟨q0, q1', q2, q3, q4⟩ := HF.out _ hC; go_simp; first | done | with_reducible rfl | exact ⟨rfl, hC⟩)
            clear hK K
            simp only [Act.put, List.setIfInBounds_toArray, List.set_cons_zero, List.set_cons_succ]
            refine BigFrame.wpQuiet_want (by rfl) fun K hK => ⟨?_, fun w' hC => ?_, hK _ ?_⟩
            rotate_left
            · (obtain ⟨q0, q1', q2, q3, q4⟩ := HF.out _ hC; go_simp; first | done | with_reducible rfl | exact ⟨rfl, hC⟩)
            clear hK K
            simp only [Act.put, List.setIfInBounds_toArray, List.set_cons_zero, List.set_cons_succ]
            refine BigFrame.wpQuiet_want (by rfl) fun K hK => ⟨?_, fun w' hC => ?_, hK _ ?_⟩
            rotate_left
            · (obtain ⟨q0, q1', q2, q3, q4⟩ := HF.out _ hC; go_simp; first | done | with_reducible rfl | exact ⟨rfl, hC⟩)
            clear hK K
            simp only [Act.put, List.setIfInBounds_toArray, List.set_cons_zero, List.set_cons_succ]
            refine BigFrame.wpQuiet_want (by rfl) fun K hK => ⟨?_, fun w' hC => ?_, hK _ ?_⟩
            rotate_left
            · (obtain ⟨q0, q1', q2, q3, q4⟩ := HF.out _ hC; go_simp; first | done | with_reducible rfl | exact ⟨rfl, hC⟩)
            clear hK K
            simp only [Act.put, List.setIfInBounds_toArray, List.set_cons_zero, List.set_cons_succ]
            refine BigFrame.wpQuiet_want (by rfl) fun K hK => ⟨?_, fun w' hC => ?_, hK _ ?_⟩
            rotate_left
            · (obtain ⟨q0, q1', q2, q3, q4⟩ := HF.out _ hC; go_simp; first | done | with_reducible rfl | exact ⟨rfl, hC⟩)
            clear hK K
            simp only [Act.put, List.setIfInBounds_toArray, List.set_cons_zero, List.set_cons_succ]
            refine BigFrame.wpQuiet_want (by rfl) fun K hK => ⟨?_, fun w' hC => ?_, hK _ ?_⟩
            rotate_left
            · (obtain ⟨q0, q1', q2, q3, q4⟩ := HF.out _ hC; go_simp; first | done | with_reducible rfl | exact ⟨rfl, hC⟩)
            clear hK K
            simp only [Act.put, List.setIfInBounds_toArray, List.set_cons_zero, List.set_cons_succ]
            refine BigFrame.wpQuiet_want (by rfl) fun K hK => ⟨?_, fun w' hC => ?_, hK _ ?_⟩
            rotate_left
            · (obtain ⟨q0, q1', q2, q3, q4⟩ := HF.out _ hC; go_simp; first | done | with_reducible rfl | exact ⟨rfl, hC⟩)
            clear hK K
            simp only [Act.put, List.setIfInBounds_toArray, List.set_cons_zero, List.set_cons_succ]
            refine wpQuiet_nil ?_
            intro w2 hC2
            have HC2 := Lib.hid hC2
            clear hC2
            go_wp2_with fail
            go_roundw
            case rel => exact ⟨q + 1, by omega, by go_num, by rw [HS1.out], Lib.hid (HEq.out.drew.trans HC2.out)⟩
            case measure => simp [intOf]; omega
          · obtain rfl : q = N := by omega
            have hs1 := HSB.out k hlt q (by omega)
            have HSV := Lib.hid (HTV.out k)
            obtain ⟨s, hse⟩ : ∃ s, sumT (tcT t0 t1 t2 t3 d (tcX d k)) q = s := ⟨_, rfl⟩
            rw [hse] at hs1 HSV ⊢
            have HMD := Lib.hid (fun W => l01Mod_w s M W (by omega) hM12 (by omega) (by omega))
            obtain ⟨r, hre⟩ : ∃ r, s % (M : Int) = r := ⟨_, rfl⟩
            rw [hre] at HMD HSV
            have hAl : k < (upL zs (tcV t0 M t1 t2 t3 d) k).length := by rw [upL_len, HZL.out]; exact hlt
            obtain ⟨ba, oa, rfl, hba1, hba2, hca, hfa⟩ := (HA2.out.ex HEq.out).at_ hAl
            have HDq := Lib.hid (HD2.out.ex HEq.out)
            have HAq := Lib.hid (HA2.out.ex HEq.out)
            have hC0 := And.intro (HDq.out.cell 1) (And.intro ((HB1V.out.ex HEw.out).cell 0) hca)
            have HST2 := Lib.hid (upL_set (xs := zs) (f := tcV t0 M t1 t2 t3 d) (q := k) (by rw [HZL.out]; exact hlt))
            rw [HSV.out] at HST2
            obtain ⟨ov, hov⟩ : ∃ o, nth (upL zs (tcV t0 M t1 t2 t3 d) k) k = o := ⟨_, rfl⟩
            rw [hov] at hC0 hca
            have hk0 : (0 : Int) ≤ (k : Int) := by omega
            have hkn : (k : Int) < (cn : Int) := by omega
            clear hse hre hs1 hov hjb
            go_wp2_with fail
            refine Late.region (C := fun W => W.cell? ⟨D2, 1, none⟩ = some (.slice (some ⟨ba, oa, none⟩) cn n2) ∧ W.cell? ⟨w.heap.size + 1, 0, none⟩ = some (.int .i64 (M : Int)) ∧ W.cell? ⟨ba, oa + k, none⟩ = some (.int .i64 ov)) (fun j => decide (j < 8)) (by kernel_rfl) hC0 (fun hC => ?_)
            refine Late.take (i := 0) (oi := ⟨_, _, _, _, _, _⟩) (v := ?_) rfl (by kernel_rfl) (by kernel_rfl) (by kernel_rfl) (by kernel_rfl) (fun _ _ _ h => h) (Or.inl ⟨by rfl, ?_⟩) hC ?_
            rotate_left
            · (intro w hSw; (try dsimp only at hSw); go_simp; first | done | with_reducible rfl)
            simp only [Act.put]
            refine Late.take (i := 1) (oi := ⟨_, _, _, _, _, _⟩) (v := ?_) rfl (by kernel_rfl) (by kernel_rfl) (by kernel_rfl) (by kernel_rfl) (fun _ _ _ h => h) (Or.inl ⟨by rfl, ?_⟩) hC ?_
            rotate_left
            · (intro w hSw; (try dsimp only at hSw); go_simp; first | done | with_reducible rfl)
            simp only [Act.put]
            refine Late.take (i := 2) (oi := ⟨_, _, _, _, _, _⟩) (v := ?_) rfl (by kernel_rfl) (by kernel_rfl) (by kernel_rfl) (by kernel_rfl) (fun _ _ _ h => h) (Or.inl ⟨by rfl, ?_⟩) hC ?_
            rotate_left
            · (intro w hSw; (try dsimp only at hSw); go_simp; first | done | with_reducible rfl)
            simp only [Act.put]
            refine Late.take (i := 3) (oi := ⟨_, _, _, _, _, _⟩) (v := ?_) rfl (by kernel_rfl) (by kernel_rfl) (by kernel_rfl) (by kernel_rfl) (fun _ _ _ h => h) (Or.inl ⟨by rfl, ?_⟩) hC ?_
            rotate_left
            · (intro w hSw; (try dsimp only at hSw); go_simp; first | done | with_reducible rfl)
            simp only [Act.put]
            refine Late.take (i := 4) (oi := ⟨_, _, _, _, _, _⟩) (v := ?_) rfl (by kernel_rfl) (by kernel_rfl) (by kernel_rfl) (by kernel_rfl) (fun _ _ _ h => h) (Or.inl ⟨by rfl, ?_⟩) hC ?_
            rotate_left
            · (intro w hSw; (try dsimp only at hSw); go_simp; first | done | with_reducible rfl)
            simp only [Act.put]
            refine Late.take (i := 5) (oi := ⟨_, _, _, _, _, _⟩) (v := ?_) rfl (by kernel_rfl) (by kernel_rfl) (by kernel_rfl) (by kernel_rfl) (fun _ _ _ h => h) (Or.inl ⟨by rfl, ?_⟩) hC ?_
            rotate_left
            · (intro w hSw; (try dsimp only at hSw); go_simp; first | done | with_reducible rfl)
            simp only [Act.put]
            refine Late.one (i := 6) (o := _) (by kernel_rfl) rfl (fun K' hK' => ?_)
            go_simp
            refine (HMD.out _).mono ?_
            rintro e w' ⟨rfl, rfl⟩
            refine hK'.out _ _ (fun _ => hC0) (fun _ => ?_)
            clear hK' K'
            try simp only [Act.put, List.setIfInBounds_toArray, List.set_cons_zero, List.set_cons_succ]
            refine Late.take (i := 7) (oi := ⟨_, _, _, _, _, _⟩) (v := ?_) rfl (by kernel_rfl) (by kernel_rfl) (by kernel_rfl) (by kernel_rfl) (fun _ _ _ h => h) (Or.inl ⟨by rfl, ?_⟩) hC0 ?_
            rotate_left
            · (intro w hSw; (try dsimp only at hSw); go_simp; first | done | with_reducible rfl)
            simp only [Act.put]
            refine Late.one (i := 8) (o := _) (by kernel_rfl) rfl (fun K' hK' => ?_)
            go_simp
            refine hK'.out _ _ (fun h => by cases h) (fun _ => ?_)
            clear hK' K' hC hC0
            refine Late.done (by kernel_rfl) ?_ _
            go_wp2_with fail
            refine ⟨?rel, ?measure⟩
            case rel =>
              have hbD : ba ≠ D2 := by omega
              refine ⟨k + 1, by omega, by go_num, Lib.hid (HEw.out.drew.setCell (p := ⟨ba, oa + k, none⟩) ?_ _), Lib.hid (Has.far (p := ⟨ba, oa + k, none⟩) (HDq.out.ex (Ex.refl wr).drew) (by show D2 ≠ ba; omega) _), Lib.hid ?_⟩
              · show V.heap.size ≤ ba
                omega
              · rw [← HST2.out]
                exact (HAq.out.ex (Ex.refl wr).drew).put (j := k) hAl _
            case measure => simp [intOf]; omega
      · obtain rfl : k = cn := by omega
        have hjb : decide ((k : Int) < (k : Int)) = false := by simp
        have cO := HD2.out.cell 0
        have cO' := HD2.out.cell 1
        have HR3 := Lib.hid (HB3V.out.ex HE2.out)
        have c4 := HR3.out.cell 0
        have c4' := HR3.out.cell 1
        have f4 := HR3.out.free 0
        have f4' := HR3.out.free 1
        have HEN := Lib.hid (HEV.out.trans HE2.out)
        have HOF : Hid (OwnL W2 V.heap.size D2 A2 (tcY t0 M t1 t2 t3 d)) := Lib.hid (by rw [← HUZ.out]; exact HA2.out)
        have HYL : Hid ((tcY t0 M t1 t2 t3 d).length = k) := Lib.hid (by rw [HTY.out]; simp)
        have hwV := HEV0.out
        go_wp2_with fail
        have H4 := HR3.out.put2 (u := .int .i64 (d : Int)) (v := .slice A2 k n2)
        have c4 := H4.cell 0
        have c4' := H4.cell 1
        refine bodyPost_ret (v := .tuple #[.agg #[.int .i64 (d : Int), .slice A2 k n2], .int .i64 0]) (by simp [results, Tryz.results25, go_sem, c4, c4']) rfl (SqS.of HQ.out (by rw [HYL.out]) ((HEN.out.setCell (by show w.heap.size ≤ w.heap.size + 1 + 1 + 1; omega) _).setCell (by show w.heap.size ≤ w.heap.size + 1 + 1 + 1; omega) _) (((HOF.out.above (Only.set _ _ _ _) (by omega)).above (Only.set _ _ _ _) (by omega)).mono (by omega) (by simpa using HOF.out.le) (Nat.le_refl _)))

end Go.Proofs.YtcdijeeabgmgmaaGreatDoor

/- TransferCochain: the specification's contract, a part. -/
namespace Go.Proofs.YtcdijeeabgmgmaaGreatDoor
open Go.RowKit

set_option maxRecDepth 100000 in
set_option maxHeartbeats 8000000 in
theorem specTC_yes1 (t0 : List (List Int)) (M : Nat) (t1 t2 : List Int) (d : Nat) (t3 : List Int) (B0 : Option Addr) (d0 : Nat) (B1 : Option Addr) (d1 : Nat) (B2 : Option Addr) (d2 : Nat) (B3 : Option Addr) (d3 : Nat) (w : World) (hR : RwsW w B0 t0) (hU : IntsW w B1 t1) (hX : IntsW w B2 t2) (hF : IntsW w B3 t3) (hs : SmallT t0) (hu : t1.length ≤ 1048576) (hx : t2.length ≤ 1048576) (hf : t3.length ≤ 1048576) (hd : d = 1) (hmg : mgC t0 (M : Int) t1 t2 = 0) (hcb : cocB t2.length (M : Int) (d : Int) t3 = true) (h : TcF t0 M t1 t2 d t3) :
    Calls Tryz.prog 25 #[.agg #[.slice B0 t0.length d0], .agg #[.int .i64 (M : Int), .slice B1 t1.length d1], .slice B2 t2.length d2, .agg #[.int .i64 (d : Int), .slice B3 t3.length d3]] w (SqS (qTransferCochain0 t0 (M : Int) t1 t2 (d : Int) t3) (yTransferCochain0 t0 (M : Int) t1 t2 (d : Int) t3) (qTransferCochain1 t0 (M : Int) t1 t2 (d : Int) t3) w) := by
  have hMF := h.m
  have hsx := h.s
  have hgr := h.s.g
  have e0 : Ex w ((((w.alloc (.cells #[.slice B0 t0.length d0] 32)).alloc (.cells #[.int .i64 (M : Int), .slice B1 t1.length d1] 52)).alloc (.cells #[.int .i64 (d : Int), .slice B3 t3.length d3] 34)).alloc (.cells #[.int .i64 0, .slice none 0 0] 34)) := ((((Ex.refl w).alloc _).alloc _).alloc _).alloc _
  have b0 : Has ((((w.alloc (.cells #[.slice B0 t0.length d0] 32)).alloc (.cells #[.int .i64 (M : Int), .slice B1 t1.length d1] 52)).alloc (.cells #[.int .i64 (d : Int), .slice B3 t3.length d3] 34)).alloc (.cells #[.int .i64 0, .slice none 0 0] 34)) (w.heap.size) 32 #[.slice B0 t0.length d0] := ((((Has.newAt (w := w) (e := 32) (cs := #[.slice B0 t0.length d0]) (k := w.heap.size) (by simp)).alloc _).alloc _).alloc _)
  have b1 : Has ((((w.alloc (.cells #[.slice B0 t0.length d0] 32)).alloc (.cells #[.int .i64 (M : Int), .slice B1 t1.length d1] 52)).alloc (.cells #[.int .i64 (d : Int), .slice B3 t3.length d3] 34)).alloc (.cells #[.int .i64 0, .slice none 0 0] 34)) (w.heap.size + 1) 52 #[.int .i64 (M : Int), .slice B1 t1.length d1] := (((Has.newAt (w := (w.alloc (.cells #[.slice B0 t0.length d0] 32))) (e := 52) (cs := #[.int .i64 (M : Int), .slice B1 t1.length d1]) (k := w.heap.size + 1) (by simp)).alloc _).alloc _)
  have b2 : Has ((((w.alloc (.cells #[.slice B0 t0.length d0] 32)).alloc (.cells #[.int .i64 (M : Int), .slice B1 t1.length d1] 52)).alloc (.cells #[.int .i64 (d : Int), .slice B3 t3.length d3] 34)).alloc (.cells #[.int .i64 0, .slice none 0 0] 34)) (w.heap.size + 1 + 1) 34 #[.int .i64 (d : Int), .slice B3 t3.length d3] := ((Has.newAt (w := ((w.alloc (.cells #[.slice B0 t0.length d0] 32)).alloc (.cells #[.int .i64 (M : Int), .slice B1 t1.length d1] 52))) (e := 34) (cs := #[.int .i64 (d : Int), .slice B3 t3.length d3]) (k := w.heap.size + 1 + 1) (by simp)).alloc _)
  have b3 : Has ((((w.alloc (.cells #[.slice B0 t0.length d0] 32)).alloc (.cells #[.int .i64 (M : Int), .slice B1 t1.length d1] 52)).alloc (.cells #[.int .i64 (d : Int), .slice B3 t3.length d3] 34)).alloc (.cells #[.int .i64 0, .slice none 0 0] 34)) (w.heap.size + 1 + 1 + 1) 34 #[.int .i64 0, .slice none 0 0] := (Has.newAt (w := (((w.alloc (.cells #[.slice B0 t0.length d0] 32)).alloc (.cells #[.int .i64 (M : Int), .slice B1 t1.length d1] 52)).alloc (.cells #[.int .i64 (d : Int), .slice B3 t3.length d3] 34))) (e := 34) (cs := #[.int .i64 0, .slice none 0 0]) (k := w.heap.size + 1 + 1 + 1) (by simp))
  have HG := Lib.hid (fun W (he : Ex w W) => l07Given_any B0 B1 B2 t0 (M : Int) t1 t2 d0 d1 d2 W (hR.ex he) (hU.ex he) (hX.ex he) hs hu hx)
  rw [hmg] at HG
  have HGR := Lib.hid (fun W (he : Ex w W) => l07Group_any B0 B2 t0 t2 d0 d2 W (hR.ex he) (hX.ex he) hsx)
  rw [show (grT t0 t2).length = t2.length from grT_len t0 t2] at HGR
  have HMO := Lib.hid (fun W (he : Ex w W) => l07Module_any B1 B2 t0 (M : Int) t1 t2 d1 d2 W (hU.ex he) (hX.ex he) hsx hMF.len)
  have HIS := Lib.hid (fun (W : World) (P A' : Option Addr) (q n' : Nat) (he : Ex w W) => l03Is_any P A' B3 (grT t0 t2) M t2 (d : Int) t3 q n' d3 W (by rw [grT_len]; exact hsx.pos) (by rw [grT_len]; exact hsx.len8) hMF.m2 hMF.m12 (hF.ex he) hf)
  rw [grT_len, hcb] at HIS
  have HQ := Lib.hid (tc_yes (tcC_yes (scC_yes hmg hcb) (by omega)))
  have hdz : ((d : Int) == 0) = false := by rw [hd]; rfl
  have hnd : decide ((d : Int) > 1) = false := by simp; omega
  have hnd2 : decide (1 < (d : Int)) = false := by simp; omega
  have HCO := Lib.hid (fun W (he : Ex w W) => l01Cosets_any B0 B2 t0 t2 d0 d2 W (hR.ex he) (hX.ex he) hgr hx (setB_true.1 hsx.b).1)
  rw [show cosK t0 (elsL t2) t0.length = cosS t0 t2 from rfl] at HCO
  have hn8 := hgr.n8
  have hn1 := hgr.n1
  have hM2 := hMF.m2
  have hM12 := hMF.m12
  have HLU := Lib.hid hMF.len
  have HDD := Lib.hid hd
  have hp8 := hsx.len8
  have hp1 := hsx.pos
  have HLN := Lib.hid h.len
  have HZ := Lib.hid (fun W => l03Zero_any B0 t0.length d0 d W hn8 hn1 (by omega))
  have hcl := cellsN_le hn8 (show d ≤ 4 by omega)
  have HV := Lib.hid (fun k (hk : k < cellsN t0.length d) i (hi : i < (cosS t0 t2).fst.length) => And.intro (h.v_in (x := tcX d k) (h.x_lt hk) hi) (And.intro (h.n_in (x := tcX d k) (h.x_lt hk) hi) (And.intro (h.t_in (x := tcX d k) (h.x_lt hk) hi) (And.intro (h.u_lt (x := tcX d k) (h.x_lt hk) hi) (h.p_in (x := tcX d k) (h.x_lt hk) hi)))))
  have HSB := Lib.hid (fun k (hk : k < cellsN t0.length d) => sumT_bnd (T := tcT t0 t1 t2 t3 d (tcX d k)) (n := (cosS t0 t2).fst.length) (fun j hj => h.t_in (h.x_lt hk) hj))
  have HXL := Lib.hid (fun k (hk : k < cellsN t0.length d) => h.x_lt hk)
  have HFA := Lib.hid (fun i (hi : i < (cosS t0 t2).fst.length) => And.intro (fstA_nth hi) (h.i_lt hi))
  have hl8 := h.len8
  have HTY : Hid (tcY t0 M t1 t2 t3 d = (List.range (cellsN t0.length d)).map (tcV t0 M t1 t2 t3 d)) := Lib.hid rfl
  have HTV : Hid (∀ k, tcV t0 M t1 t2 t3 d k = sumT (tcT t0 t1 t2 t3 d (tcX d k)) (cosS t0 t2).fst.length % (M : Int)) := Lib.hid (fun _ => rfl)
  have HRW := Lib.hid hR
  have HUL := Lib.hid hU
  have HFL := Lib.hid hF
  have HXX := Lib.hid hX
  have HSX := Lib.hid hsx
  have hSL := stepL_of hsx
  have HST := Lib.hid (fun O c1 L c2 x r W (he : Ex w W) (hO : IntsW W O ((List.range t0.length).map fun x => ((cosS t0 t2).num x : Int))) (hL : IntsW W L ((cosS t0 t2).fst.map fun x : Nat => (x : Int))) (hxl : x < t0.length) (hr : r < t0.length) => l07Step_any B0 O L t0 (cosS t0 t2).num (fstA (cosS t0 t2)) _ _ d0 c1 c2 x r W (hR.ex he) hO hL hgr hSL (by simpa using hl8) hxl hr)
  simp only [List.length_map, List.length_range] at HST
  have HBM := Lib.hid (fun k (hk : k < cellsN t0.length d) i (hi : i < (cosS t0 t2).fst.length) => h.b_mem (x := tcX d k) (h.x_lt hk) hi)
  have htu : Hid (∀ x i, fstA (cosS t0 t2) ((cosS t0 t2).num (mul t0 x (fstA (cosS t0 t2) i))) = tcU t0 t2 x i) := Lib.hid (fun _ _ => rfl)
  have htb : Hid (∀ x i, mul t0 (iv t0 (tcU t0 t2 x i)) (mul t0 x (fstA (cosS t0 t2) i)) = trB t0 (cosS t0 t2) x i) := Lib.hid (fun _ _ => rfl)
  have htt : Hid (∀ x i, tcT t0 t1 t2 t3 d x i = nth t1 (tcU t0 t2 x i) * valR t2.length t3 [(plN t2 (trB t0 (cosS t0 t2) x i) : Int)]) := Lib.hid (fun x i => by subst hd; rfl)
  obtain ⟨SS, hSE⟩ : ∃ S, cosS t0 t2 = S := ⟨_, rfl⟩
  rw [hSE] at HCO HV HSB HFA hl8 HTV HST HBM htu htb htt
  obtain ⟨ls, hls⟩ : ∃ ls, SS.fst.map (fun x : Nat => (x : Int)) = ls := ⟨_, rfl⟩
  have HLL : Hid (ls.length = SS.fst.length) := Lib.hid (by rw [← hls, List.length_map])
  rw [hls] at HCO HFA HST
  obtain ⟨N, hN⟩ : ∃ N, SS.fst.length = N := ⟨_, rfl⟩
  rw [hN] at HCO HV HSB HFA hl8 HTV HLL HST HBM
  obtain ⟨cn, hcn⟩ : ∃ cn, cellsN t0.length d = cn := ⟨_, rfl⟩
  rw [hcn] at HZ hcl HV HSB HXL HTY HBM
  have HE0 := Lib.hid e0
  have HB00 := Lib.hid b0
  have HB10 := Lib.hid b1
  have HB20 := Lib.hid b2
  have HB30 := Lib.hid b3
  have k0 := b0.cell 0
  have k1 := b1.cell 0
  have k1' := b1.cell 1
  clear b0 b1 b2 b3 e0
  clear hR hU hX hF hs hu hx hf hmg hMF hsx hcb h hgr hSE hls hN hcn hd hSL
  go_enter Tryz.func25, Tryz.ntmps25
  go_wp2_with fail
  generalize ((((w.alloc (.cells #[.slice B0 t0.length d0] 32)).alloc (.cells #[.int .i64 (M : Int), .slice B1 t1.length d1] 52)).alloc (.cells #[.int .i64 (d : Int), .slice B3 t3.length d3] 34)).alloc (.cells #[.int .i64 0, .slice none 0 0] 34)) = W0 at *
  refine (HG.out W0 HE0.out).mono ?_
  rintro e W1 ⟨rfl, he1⟩
  have HE1 := Lib.hid (HE0.out.trans he1)
  have HB01 := Lib.hid (HB00.out.ex he1)
  have HB11 := Lib.hid (HB10.out.ex he1)
  have HB21 := Lib.hid (HB20.out.ex he1)
  have HB31 := Lib.hid (HB30.out.ex he1)
  clear he1 k0 k1 k1' HG HE0 HB00 HB10 HB20 HB30
  go_wp2_with fail
  have HCF := Lib.hid (fun (W : World) (he : Ex W1 W) => And.intro ((HB01.out.ex he).cell 0) (And.intro ((HB11.out.ex he).cell 0) ((HB11.out.ex he).cell 1)))
  have hC0 := HCF.out W1 (Ex.refl _)
  refine Late.region (C := fun w' => w'.cell? ⟨w.heap.size, 0, none⟩ = some (.slice B0 t0.length d0) ∧ w'.cell? ⟨w.heap.size + 1, 0, none⟩ = some (.int .i64 (M : Int)) ∧ w'.cell? ⟨w.heap.size + 1, 1, none⟩ = some (.slice B1 t1.length d1)) (fun _ => true) (by kernel_rfl) hC0 (fun hC => ?_)
  refine Late.take (i := 0) (oi := ⟨_, _, _, _, _, _⟩) (v := ?_) rfl (by kernel_rfl) (by kernel_rfl) (by kernel_rfl) (by kernel_rfl) (fun _ _ _ h => h) (Or.inl ⟨by rfl, ?_⟩) hC ?_
  rotate_left
  · (intro w hSw; (try dsimp only at hSw); go_simp; first | done | with_reducible rfl)
  simp only [Act.put]
  refine Late.take (i := 1) (oi := ⟨_, _, _, _, _, _⟩) (v := ?_) rfl (by kernel_rfl) (by kernel_rfl) (by kernel_rfl) (by kernel_rfl) (fun _ _ _ h => h) (Or.inl ⟨by rfl, ?_⟩) hC ?_
  rotate_left
  · (intro w hSw; (try dsimp only at hSw); go_simp; first | done | with_reducible rfl)
  simp only [Act.put]
  refine Late.take (i := 3) (oi := ⟨_, _, _, _, _, _⟩) (v := ?_) rfl (by kernel_rfl) (by kernel_rfl) (by kernel_rfl) (by kernel_rfl) (fun _ _ _ h => h) (Or.inl ⟨by rfl, ?_⟩) hC ?_
  rotate_left
  · (intro w hSw; (try dsimp only at hSw); go_simp; first | done | with_reducible rfl)
  simp only [Act.put]
  refine Late.take (i := 4) (oi := ⟨_, _, _, _, _, _⟩) (v := ?_) rfl (by kernel_rfl) (by kernel_rfl) (by kernel_rfl) (by kernel_rfl) (fun _ _ _ h => h) (Or.inl ⟨by rfl, ?_⟩) hC ?_
  rotate_left
  · (intro w hSw; (try dsimp only at hSw); go_simp; first | done | with_reducible rfl)
  simp only [Act.put]
  clear hC hC0
  refine late_start (SS := fun (a0 : Act) (ds : Array Bool) (a : Act) (w' : World) => ∃ (v31 v34 v11 v12 : Value) (G A' : Option Addr) (g n' D E : Nat), a = ((((a0.put (some 31) v31).put (some 34) v34).put (some 11) v11).put (some 12) v12) ∧ (ds.getD 0 true = true ∧ ds.getD 1 true = true ∧ ds.getD 3 true = true ∧ ds.getD 4 true = true) ∧ Ex W1 w' ∧ (ds.getD 2 true = true → v31 = .agg #[.slice G t2.length g]) ∧ (ds.getD 5 true = true → v34 = .agg #[.int .i64 (M : Int), .slice A' t2.length n']) ∧ (ds.getD 8 true = true → ds.getD 2 true = true) ∧ (ds.getD 9 true = true → ds.getD 5 true = true) ∧ TwoR W1.heap.size 32 52 #[.slice none 0 0] #[.int .i64 0, .slice none 0 0] #[.slice G t2.length g] #[.int .i64 (M : Int), .slice A' t2.length n'] (fun _ _ _ => True) true (ds.getD 6 true) (ds.getD 7 true) (ds.getD 8 true) (ds.getD 9 true) v11 v12 0 0 D E w') (by kernel_rfl) ?h0 (by rfl) (by decide) ?hC ?hend ?hstep
  case h0 => exact ⟨undef, undef, undef, undef, none, none, 0, 0, 0, 0, by go_simp, ⟨by decide, by decide, by decide, by decide⟩, (Ex.refl W1).drew, fun hb => absurd hb (by decide), fun hb => absurd hb (by decide), fun hb => absurd hb (by decide), fun hb => absurd hb (by decide), TwoR.begin⟩
  case hC =>
    rintro ds a w' ⟨v31, v34, v11, v12, G, A', g, n', D, E, rfl, ⟨hd0, hd1, hd3, hd4⟩, hE, h2, h5, h8, h9, hT⟩
    exact HCF.out w' hE
  case hstep =>
    rintro ds a w' ⟨v31, v34, v11, v12, G, A', g, n', D, E, rfl, ⟨hd0, hd1, hd3, hd4⟩, hE, h2, h5, h8, h9, hT⟩ j oj hoj hu hall
    have hjn : j < 10 := (Array.getElem?_eq_some_iff.1 hoj).1
    rcases (by omega : j = 0 ∨ j = 1 ∨ j = 3 ∨ j = 4 ∨ j = 2 ∨ j = 5 ∨ j = 6 ∨ j = 7 ∨ j = 8 ∨ j = 9) with rfl | rfl | rfl | rfl | rfl | rfl | rfl | rfl | rfl | rfl
    · rw [hd0] at hu; cases hu
    · rw [hd1] at hu; cases hu
    · rw [hd3] at hu; cases hu
    · rw [hd4] at hu; cases hu
    · obtain rfl := Option.some.inj hoj
      have hf8 : ds.getD 8 true = false := by
        cases hb : ds.getD 8 true with
        | false => rfl
        | true => rw [h8 hb] at hu; cases hu
      clear hall
      refine wpOp_step rfl fun K' hK' => ?_
      have hK := Lib.hid hK'
      clear hK'
      rw [if_pos (by rfl)]
      try simp only [Act.put]
      go_simp
      refine (HGR.out w' (HE1.out.trans hE)).mono ?_
      rintro e w2 ⟨GG, gn, rfl, hv, -⟩
      refine hK.out _ _ ⟨_, v34, v11, v12, GG, A', gn, n', D, E, by go_simp, ⟨bt_keep hd0, bt_keep hd1, bt_keep hd3, bt_keep hd4⟩, hE.trans hv, fun _ => rfl, fun hb => h5 (bt_old hb (by decide : (5 : Nat) ≠ 2)), fun _ => by rw [bt_self], fun hb => bt_keep (h9 (bt_old hb (by decide : (9 : Nat) ≠ 2))), ?_⟩
      rw [bt_ne (d := ds) (j := 2) (i := 6) (by decide), bt_ne (d := ds) (j := 2) (i := 7) (by decide), bt_ne (d := ds) (j := 2) (i := 8) (by decide), bt_ne (d := ds) (j := 2) (i := 9) (by decide)]
      exact (TwoR.to0 hT hf8).ex keptTrue hv
    · obtain rfl := Option.some.inj hoj
      have hf9 : ds.getD 9 true = false := by
        cases hb : ds.getD 9 true with
        | false => rfl
        | true => rw [h9 hb] at hu; cases hu
      clear hall
      refine wpOp_step rfl fun K' hK' => ?_
      have hK := Lib.hid hK'
      clear hK'
      rw [if_pos (by rfl)]
      try simp only [Act.put]
      go_simp
      refine (HMO.out w' (HE1.out.trans hE)).mono ?_
      rintro e w2 ⟨AA, nn, rfl, hv, -⟩
      refine hK.out _ _ ⟨v31, _, v11, v12, G, AA, g, nn, D, E, by go_simp, ⟨bt_keep hd0, bt_keep hd1, bt_keep hd3, bt_keep hd4⟩, hE.trans hv, fun hb => h2 (bt_old hb (by decide : (2 : Nat) ≠ 5)), fun _ => rfl, fun hb => bt_keep (h8 (bt_old hb (by decide : (8 : Nat) ≠ 5))), fun _ => by rw [bt_self], ?_⟩
      rw [bt_ne (d := ds) (j := 5) (i := 6) (by decide), bt_ne (d := ds) (j := 5) (i := 7) (by decide), bt_ne (d := ds) (j := 5) (i := 8) (by decide), bt_ne (d := ds) (j := 5) (i := 9) (by decide)]
      exact (TwoR.to1 hT hf9).ex keptTrue hv
    · obtain rfl := Option.some.inj hoj
      clear hall
      refine wpOp_step rfl fun K' hK' => ?_
      have hK := Lib.hid hK'
      clear hK'
      rw [if_pos (by rfl)]
      try simp only [Act.put]
      go_simp
      refine hK.out _ _ ⟨v31, v34, (.pointer (some ⟨w'.heap.size, 0, none⟩)), v12, G, A', g, n', w'.heap.size, E, by go_simp, ⟨bt_keep hd0, bt_keep hd1, bt_keep hd3, bt_keep hd4⟩, hE.alloc _, fun hb => h2 (bt_old hb (by decide : (2 : Nat) ≠ 6)), fun hb => h5 (bt_old hb (by decide : (5 : Nat) ≠ 6)), fun hb => bt_keep (h8 (bt_old hb (by decide : (8 : Nat) ≠ 6))), fun hb => bt_keep (h9 (bt_old hb (by decide : (9 : Nat) ≠ 6))), ?_⟩
      rw [bt_self (d := ds) (j := 6), bt_ne (d := ds) (j := 6) (i := 7) (by decide), bt_ne (d := ds) (j := 6) (i := 8) (by decide), bt_ne (d := ds) (j := 6) (i := 9) (by decide)]
      rw [hu] at hT; exact hT.alloc0 keptTrue hE.size
    · obtain rfl := Option.some.inj hoj
      clear hall
      refine wpOp_step rfl fun K' hK' => ?_
      have hK := Lib.hid hK'
      clear hK'
      rw [if_pos (by rfl)]
      try simp only [Act.put]
      go_simp
      refine hK.out _ _ ⟨v31, v34, v11, (.pointer (some ⟨w'.heap.size, 0, none⟩)), G, A', g, n', D, w'.heap.size, by go_simp, ⟨bt_keep hd0, bt_keep hd1, bt_keep hd3, bt_keep hd4⟩, hE.alloc _, fun hb => h2 (bt_old hb (by decide : (2 : Nat) ≠ 7)), fun hb => h5 (bt_old hb (by decide : (5 : Nat) ≠ 7)), fun hb => bt_keep (h8 (bt_old hb (by decide : (8 : Nat) ≠ 7))), fun hb => bt_keep (h9 (bt_old hb (by decide : (9 : Nat) ≠ 7))), ?_⟩
      rw [bt_ne (d := ds) (j := 7) (i := 6) (by decide), bt_self (d := ds) (j := 7), bt_ne (d := ds) (j := 7) (i := 8) (by decide), bt_ne (d := ds) (j := 7) (i := 9) (by decide)]
      rw [hu] at hT; exact hT.alloc1 keptTrue hE.size
    · obtain rfl := Option.some.inj hoj
      have hcl := (hall ⟨2, .data⟩ (by simp) rfl)
      obtain rfl := h2 hcl
      have hal := (hall ⟨6, .data⟩ (by simp) rfl)
      obtain ⟨rfl, hDl, hDH, -⟩ := hT.box0 hal
      rw [hu] at hDH
      have hDD : Has w' D 32 #[.slice none 0 0] := hDH
      clear hDH
      have k0 := hDD.cell 0
      have f0 := hDD.free 0
      clear hall
      refine wpOp_step rfl fun K' hK' => ?_
      have hK := Lib.hid hK'
      clear hK'
      rw [if_pos (by rfl)]
      try simp only [Act.put]
      go_simp
      refine hK.out _ _ ⟨(.agg #[.slice G t2.length g]), v34, (.pointer (some ⟨D, 0, none⟩)), v12, G, A', g, n', D, E, by go_simp, ⟨bt_keep hd0, bt_keep hd1, bt_keep hd3, bt_keep hd4⟩, (hE.setCell (p := ⟨D, 0, none⟩) hDl _), fun _ => rfl, fun hb => h5 (bt_old hb (by decide : (5 : Nat) ≠ 8)), fun _ => bt_keep hcl, fun hb => bt_keep (h9 (bt_old hb (by decide : (9 : Nat) ≠ 8))), ?_⟩
      rw [bt_ne (d := ds) (j := 8) (i := 6) (by decide), bt_ne (d := ds) (j := 8) (i := 7) (by decide), bt_self (d := ds) (j := 8), bt_ne (d := ds) (j := 8) (i := 9) (by decide)]
      rw [hal] at hT ⊢; exact hT.store0 keptTrue (Only.set _ D 0 _) hDD.put1
    · obtain rfl := Option.some.inj hoj
      have hcl := (hall ⟨5, .data⟩ (by simp) rfl)
      obtain rfl := h5 hcl
      have hal := (hall ⟨7, .data⟩ (by simp) rfl)
      obtain ⟨rfl, hDl, hDH, -⟩ := hT.box1 hal
      rw [hu] at hDH
      have hDD : Has w' E 52 #[.int .i64 0, .slice none 0 0] := hDH
      clear hDH
      have k0 := hDD.cell 0
      have f0 := hDD.free 0
      have k1 := hDD.cell 1
      have f1 := hDD.free 1
      clear hall
      refine wpOp_step rfl fun K' hK' => ?_
      have hK := Lib.hid hK'
      clear hK'
      rw [if_pos (by rfl)]
      try simp only [Act.put]
      go_simp
      refine hK.out _ _ ⟨v31, (.agg #[.int .i64 (M : Int), .slice A' t2.length n']), v11, (.pointer (some ⟨E, 0, none⟩)), G, A', g, n', D, E, by go_simp, ⟨bt_keep hd0, bt_keep hd1, bt_keep hd3, bt_keep hd4⟩, ((hE.setCell (p := ⟨E, 0, none⟩) hDl _).setCell (p := ⟨E, 1, none⟩) hDl _), fun hb => h2 (bt_old hb (by decide : (2 : Nat) ≠ 9)), fun _ => rfl, fun hb => bt_keep (h8 (bt_old hb (by decide : (8 : Nat) ≠ 9))), fun _ => bt_keep hcl, ?_⟩
      rw [bt_ne (d := ds) (j := 9) (i := 6) (by decide), bt_ne (d := ds) (j := 9) (i := 7) (by decide), bt_ne (d := ds) (j := 9) (i := 8) (by decide), bt_self (d := ds) (j := 9)]
      rw [hal] at hT ⊢; exact hT.store1 keptTrue ((Only.set _ E 0 _).trans (Only.set _ E 1 _) (Nat.le_refl _) (Nat.le_refl _)) hDD.put2
  case hend =>
    rintro ds a w' ⟨v31, v34, v11, v12, G, A', g, n', D, E, rfl, ⟨hd0, hd1, hd3, hd4⟩, hE, h2, h5, h8, h9, hT⟩ hall
    obtain ⟨rfl, hD1, hD, -⟩ := hT.box0 (hall 6 (by decide))
    obtain ⟨rfl, hE1, hH, -⟩ := hT.box1 (hall 7 (by decide))
    rw [hall 8 (by decide)] at hD
    rw [hall 9 (by decide)] at hH
    obtain ⟨X, hXX⟩ : ∃ x : World, x = w' := ⟨_, rfl⟩
    subst hXX
    have HE8 := Lib.hid (HE1.out.trans hE)
    have HB08 := Lib.hid (HB01.out.ex hE)
    have HB18 := Lib.hid (HB11.out.ex hE)
    have HB28 := Lib.hid (HB21.out.ex hE)
    have HB38 := Lib.hid (HB31.out.ex hE)
    have HP8 := Lib.hid (show Has X D 32 #[.slice G t2.length g] from hD)
    have HO8 := Lib.hid (show Has X E 52 #[.int .i64 (M : Int), .slice A' t2.length n'] from hH)
    have g0 := HP8.out.cell 0
    have o0 := HO8.out.cell 0
    have o1 := HO8.out.cell 1
    have p0 := HB28.out.cell 0
    have p1 := HB28.out.cell 1
    clear hall hT hD hH hE h2 h5 h8 h9 hd0 hd1 hd3 hd4 hD1 hE1 HCF HE1 HB01 HB11 HB21 HB31
    try simp only [Act.put]
    go_simp
    go_wp2_with fail
    refine (HIS.out X G A' g n' HE8.out).mono ?_
    rintro e Y ⟨rfl, heY⟩
    have HEY := Lib.hid (HE8.out.trans heY)
    have HB0Y := Lib.hid (HB08.out.ex heY)
    have HB1Y := Lib.hid (HB18.out.ex heY)
    have HB2Y := Lib.hid (HB28.out.ex heY)
    have HB3Y := Lib.hid (HB38.out.ex heY)
    have HPY := Lib.hid (HP8.out.ex heY)
    clear heY g0 o0 o1 p0 p1 HE8 HP8 HO8 HB08 HB18 HB28 HB38
    have c0 := HB0Y.out.cell 0
    have p0 := HB2Y.out.cell 0
    go_wp2_with fail
    refine (HCO.out Y HEY.out).mono ?_
    rintro e V ⟨Dn, v, rfl, heV, hlD, hDn, hG⟩
    have HEV := Lib.hid (HEY.out.trans heV)
    have HB0V := Lib.hid (HB0Y.out.ex heV)
    have HB1V := Lib.hid (HB1Y.out.ex heV)
    have HB2V := Lib.hid (HB2Y.out.ex heV)
    have HB3V := Lib.hid (HB3Y.out.ex heV)
    have HPV := Lib.hid (HPY.out.ex heV)
    obtain ⟨LA, lc, rfl, hLO⟩ := hG.own
    have HIO := Lib.hid (OwnL.of_has (xs := (List.range t0.length).map fun x => (SS.num x : Int)) (lo := Y.heap.size) (n := t0.length) (e := 2) (by
      have : (tab t0.length fun j => Value.int .i64 (nth ((List.range t0.length).map fun x => (SS.num x : Int)) j)) = tab t0.length fun x => Value.int .i64 (SS.num x : Int) := tab_congr fun j hj => by simp [nth, hj]
      rw [this]; exact hDn) (by simp) hlD).ints
    have HIL := Lib.hid hLO.ints
    rw [HLL.out]
    clear heV hlD hDn hG hLO c0 p0 HEY HPY HB0Y HB1Y HB2Y HB3Y HCO
    have c0 := HB0V.out.cell 0
    have p0 := HB2V.out.cell 0
    go_wp2_with fail
    refine (HZ.out V).mono ?_
    rintro e U ⟨A2, n2, rfl, heU, hoU⟩
    have HVU := Lib.hid heU
    obtain ⟨zs, hzs⟩ : ∃ zs, List.replicate cn (0 : Int) = zs := ⟨_, rfl⟩
    have HZL : Hid (zs.length = cn) := Lib.hid (by rw [← hzs]; simp)
    rw [hzs] at hoU ⊢
    rw [HZL.out]
    have HUZ : Hid (upL zs (tcV t0 M t1 t2 t3 d) cn = tcY t0 M t1 t2 t3 d) := Lib.hid (by
      have e := upL_all zs (tcV t0 M t1 t2 t3 d)
      rw [HZL.out] at e
      rw [e, HTY.out])
    have HOU : Hid (OwnL U V.heap.size U.heap.size A2 (upL zs (tcV t0 M t1 t2 t3 d) 0)) := Lib.hid (by rw [upL_zero]; exact hoU)
    have hUV := heU.size
    have HEV0 := Lib.hid (show w.heap.size + 1 + 1 + 1 + 1 ≤ V.heap.size from HB3V.out.lt)
    obtain ⟨D2, hD2⟩ : ∃ s, U.heap.size = s := ⟨_, rfl⟩
    clear heU hoU hzs c0 p0 HZ
    go_upto_region 11 with (fail)
    try simp only [hD2]
    go_wp2_with fail
    go_loopw [16] (fun i wr => ∃ k : Nat, k ≤ cn ∧ i = .int .i64 (k : Int) ∧ Hid (Ex V wr) ∧ Hid (Has wr D2 34 #[.int .i64 (d : Int), .slice A2 cn n2]) ∧ Hid (OwnL wr V.heap.size D2 A2 (upL zs (tcV t0 M t1 t2 t3 d) k))) (fun i _ => cn - (intOf i).toNat)
    case atStart =>
      have hn := Has.new U 34 #[.int .i64 (d : Int), .slice A2 cn n2]
      rw [hD2] at hn
      refine ⟨0, Nat.zero_le _, rfl, Lib.hid (HVU.out.alloc _), Lib.hid hn, Lib.hid ?_⟩
      have h1 := HOU.out.ex (Ex.new U (.cells #[.int .i64 (d : Int), .slice A2 cn n2] 34))
      rw [hD2] at h1
      exact h1
    case round =>
      obtain ⟨W2, rfl⟩ : ∃ x : World, x = wr := ⟨_, rfl⟩
      obtain ⟨k, hk, rfl, HE2, HD2, HA2⟩ := hrel
      have q1 := HD2.out.cell 1
      by_cases hlt : k < cn
      · have hjb : decide ((k : Int) < (cn : Int)) = true := by simp; omega
        go_wp2_with fail
        go_loopw [17, 18] (fun s i wr => ∃ q : Nat, q ≤ N ∧ i = .int .i64 (q : Int) ∧ s = .int .i64 (sumT (tcT t0 t1 t2 t3 d (tcX d k)) q) ∧ Hid (Ex W2 wr)) (fun _ i _ => N - (intOf i).toNat)
        case atStart => exact ⟨0, Nat.zero_le _, rfl, rfl, Lib.hid (Ex.refl _)⟩
        case round =>
          obtain ⟨q, hq, rfl, rfl, HEq⟩ := hrel
          have HEw := Lib.hid (HE2.out.trans HEq.out)
          have hb0 := (HB2V.out.ex HEw.out).cell 0
          by_cases hqN : q < N
          · obtain ⟨hv, hn, ht, hul', hpi⟩ := HV.out k hlt q hqN
            have hs0 := HSB.out k hlt q (by omega)
            have hs1 := HSB.out k hlt (q + 1) (by omega)
            have HS1 : Hid (sumT (tcT t0 t1 t2 t3 d (tcX d k)) (q + 1) = sumT (tcT t0 t1 t2 t3 d (tcX d k)) q + tcT t0 t1 t2 t3 d (tcX d k) q) := Lib.hid rfl
            rw [HS1.out] at hs1
            obtain ⟨hfk, hfl⟩ := HFA.out q hqN
            have hql : q < ls.length := by rw [HLL.out]; exact hqN
            obtain ⟨bx, ox, rfl, hbx, hcx⟩ := (HIL.out.ex HEw.out).ints.at_ hql
            rw [hfk] at hcx
            have hq0 : (0 : Int) ≤ (q : Int) := by omega
            have hqn : (q : Int) < (N : Int) := by omega
            have hxl := HXL.out k hlt
            have hbm := HBM.out k hlt q hqN
            have hxe : ((tcX d k : Nat) : Int) = (k : Int) + 1 := by simp [tcX, HDD.out]
            have HSS := Lib.hid (fun W' (he : Ex wr.drew W') => HST.out (some ⟨Dn, 0, none⟩) t0.length (some ⟨bx, ox, none⟩) lc (tcX d k) (fstA SS q) W' ((HEV.out.trans HEw.out).drew.trans he) (HIO.out.ex (HEw.out.drew.trans he)) (HIL.out.ex (HEw.out.drew.trans he)) hxl hfl)
            rw [htu.out, htb.out, hxe] at HSS
            rw [htt.out] at HS1 hs1 ht
            have hpl := (HSX.out.pl hbm).1
            have HPZ := Lib.hid (fun W (he : Ex w W) => (l07Place_any B2 d2 _ t0 t2 W HSX.out (HXX.out.ex he) hbm).mono (fun e w' hh => show e = _ ∧ Ex W w' from ⟨hh.1, hh.2 ▸ Ex.refl _⟩))
            obtain ⟨bu, ou, rfl, hbu, hcuq⟩ := HUL.out.ints.at_ (j := tcU t0 t2 (tcX d k) q) (by rw [HLU.out]; exact hul')
            have HF := Lib.hid (fun W' (he : Ex wr.drew W') => And.intro ((HB0V.out.ex (HEw.out.drew.trans he)).cell 0) ((he.below.cell (p := ⟨bx, ox + q, none⟩) hbx).trans hcx))
            obtain ⟨u, hue⟩ : ∃ u, nth t1 (tcU t0 t2 (tcX d k) q) = u := ⟨_, rfl⟩
            obtain ⟨s, hse⟩ : ∃ s, sumT (tcT t0 t1 t2 t3 d (tcX d k)) q = s := ⟨_, rfl⟩
            obtain ⟨p, hpe⟩ : ∃ p, plN t2 (trB t0 SS (tcX d k) q) = p := ⟨_, rfl⟩
            rw [hpe] at HPZ ht hs1 HS1 hpl
            have hpl2 : 0 ≤ (p : Int) ∧ (p : Int) < t2.length := by omega
            obtain ⟨y, hye⟩ : ∃ y, valR t2.length t3 [(p : Int)] = y := ⟨_, rfl⟩
            have HAT := Lib.hid (fun (b : Nat) W (he : Ex V W) (hb : Has W b 2 #[.int .i64 (p : Int)]) => show Calls Tryz.prog 54 #[.agg #[.slice G t2.length g], .agg #[.int .i64 (d : Int), .slice B3 t3.length d3], .slice (some ⟨b, 0, none⟩) 1 1] W fun e w' => e = .returned (.int .i64 (valR t2.length t3 [(p : Int)])) ∧ Ex W w' from l03At_any G B3 (some ⟨b, 0, none⟩) d t2.length t3 [(p : Int)] g d3 1 W (HFL.out.ex (HEV.out.trans he)) (ints_sing hb) hp8 hp1 (by have := HDD.out; omega) (by rw [HDD.out]; rfl) HLN.out (fun j hj => by
              obtain rfl : j = 0 := by simp at hj; exact hj
              show 0 ≤ (p : Int) ∧ (p : Int) < t2.length
              exact hpl2))
            rw [hye] at HAT ht hs1 HS1
            rw [hue] at ht hs1 HS1 hcuq
            rw [hse] at hs0 hs1 HS1 ⊢
            obtain ⟨f, hfe⟩ : ∃ f, tcU t0 t2 (tcX d k) q = f := ⟨_, rfl⟩
            rw [hfe] at HSS hul' hcuq
            obtain ⟨z, hze⟩ : ∃ z, trB t0 SS (tcX d k) q = z := ⟨_, rfl⟩
            rw [hze] at HSS HPZ
            obtain ⟨fk, hfke⟩ : ∃ f, fstA SS q = f := ⟨_, rfl⟩
            rw [hfke] at HSS HF
            have hf0 : (0 : Int) ≤ (f : Int) := by omega
            have hfn : (f : Int) < (t1.length : Int) := by rw [HLU.out]; omega
            have hw0 : IntKind.i64.wrap ((k : Int) + 1) = (k : Int) + 1 := IntWalk.i64_in _ (by omega)
            have hw1 : IntKind.i64.wrap (u * y) = u * y := IntWalk.i64_in _ (by omega)
            have hw2 : IntKind.i64.wrap (s + u * y) = s + u * y := IntWalk.i64_in _ (by omega)
            have HCQ := Lib.hid hcuq
            clear hv hn ht hul' hpi hs0 hs1 hfk hcx hxl hbm hxe hpl hcuq hue hye hse hfe hpe hze hfke
            go_wp2_with fail
            refine wp_region_quiet (C := fun w' => Ex wr.drew w') (by kernel_rfl) (by kernel_rfl) (Ex.refl _) ?_
            refine BigFrame.wpQuiet_want (by rfl) fun K hK => ⟨?_, fun w' hC => ?_, hK _ ?_⟩
            rotate_left
            · (obtain ⟨q0, q1'⟩ := HF.out _ hC; go_simp; first | done | with_reducible rfl | exact ⟨rfl, hC⟩)
            clear hK K
            simp only [Act.put, List.setIfInBounds_toArray, List.set_cons_zero, List.set_cons_succ]
            refine BigFrame.wpQuiet_want (by rfl) fun K hK => ⟨?_, fun w' hC => ?_, hK _ ?_⟩
            rotate_left
            · (obtain ⟨q0, q1'⟩ := HF.out _ hC; go_simp; first | done | with_reducible rfl | exact ⟨rfl, hC⟩)
            clear hK K
            simp only [Act.put, List.setIfInBounds_toArray, List.set_cons_zero, List.set_cons_succ]
            refine BigFrame.wpQuiet_want (by rfl) fun K hK => ⟨?_, fun w' hC => ?_, hK _ ?_⟩
            rotate_left
            · (obtain ⟨q0, q1'⟩ := HF.out _ hC; go_simp; first | done | with_reducible rfl | exact ⟨rfl, hC⟩)
            clear hK K
            simp only [Act.put, List.setIfInBounds_toArray, List.set_cons_zero, List.set_cons_succ]
            refine BigFrame.wpQuiet_want (by rfl) fun K hK => ⟨?_, fun w' hC => ?_, hK _ ?_⟩
            rotate_left
            · (obtain ⟨q0, q1'⟩ := HF.out _ hC; go_simp; first | done | with_reducible rfl | exact ⟨rfl, hC⟩)
            clear hK K
            simp only [Act.put, List.setIfInBounds_toArray, List.set_cons_zero, List.set_cons_succ]
            refine BigFrame.wpQuiet_want (by rfl) fun K hK => ⟨?_, fun w' hC => ?_, hK _ ?_⟩
            rotate_left
            · (obtain ⟨q0, q1'⟩ := HF.out _ hC; go_simp; first | done | with_reducible rfl | exact ⟨rfl, hC⟩)
            clear hK K
            simp only [Act.put, List.setIfInBounds_toArray, List.set_cons_zero, List.set_cons_succ]
            refine BigFrame.wpQuiet_want (by rfl) fun K hK => ⟨?_, fun w' hC => ?_, hK _ ?_⟩
            rotate_left
            · (obtain ⟨q0, q1'⟩ := HF.out _ hC; go_simp; first | done | with_reducible rfl | exact ⟨rfl, hC⟩)
            clear hK K
            simp only [Act.put, List.setIfInBounds_toArray, List.set_cons_zero, List.set_cons_succ]
            refine BigFrame.wpQuiet_want (by rfl) fun K hK => ⟨?_, fun w' hC => ?_, hK _ ?_⟩
            rotate_left
            · (obtain ⟨q0, q1'⟩ := HF.out _ hC; go_simp; first | done | with_reducible rfl | exact ⟨rfl, hC⟩)
            clear hK K
            simp only [Act.put, List.setIfInBounds_toArray, List.set_cons_zero, List.set_cons_succ]
            refine BigFrame.wpQuiet_want (by rfl) fun K hK => ⟨?_, fun w' hC => ?_, hK _ ?_⟩
            rotate_left
            · (obtain ⟨q0, q1'⟩ := HF.out _ hC; go_simp; first | done | with_reducible rfl | exact ⟨rfl, hC⟩)
            clear hK K
            simp only [Act.put, List.setIfInBounds_toArray, List.set_cons_zero, List.set_cons_succ]
            refine BigFrame.wpQuiet_want (by rfl) fun K hK => ⟨?_, fun w' hC => ?_, hK _ ?_⟩
            rotate_left
            · (obtain ⟨q0, q1'⟩ := HF.out _ hC; go_simp; first | done | with_reducible rfl | exact ⟨rfl, hC⟩)
            clear hK K
            simp only [Act.put, List.setIfInBounds_toArray, List.set_cons_zero, List.set_cons_succ]
            refine BigFrame.wpQuiet_want (by rfl) fun K hK => ⟨.tuple #[.int .i64 (f : Int), .int .i64 (z : Int)], fun w' hC => (by go_simp; refine ((HSS.out w' hC)).mono ?_; rintro e w2 ⟨rfl, hb⟩; exact ⟨rfl, hC.trans hb⟩), hK _ ?_⟩
            clear hK K
            simp only [Act.put, List.setIfInBounds_toArray, List.set_cons_zero, List.set_cons_succ]
            refine BigFrame.wpQuiet_want (by rfl) fun K hK => ⟨?_, fun w' hC => ?_, hK _ ?_⟩
            rotate_left
            · (obtain ⟨q0, q1'⟩ := HF.out _ hC; go_simp; first | done | with_reducible rfl | exact ⟨rfl, hC⟩)
            clear hK K
            simp only [Act.put, List.setIfInBounds_toArray, List.set_cons_zero, List.set_cons_succ]
            refine BigFrame.wpQuiet_want (by rfl) fun K hK => ⟨?_, fun w' hC => ?_, hK _ ?_⟩
            rotate_left
            · (obtain ⟨q0, q1'⟩ := HF.out _ hC; go_simp; first | done | with_reducible rfl | exact ⟨rfl, hC⟩)
            clear hK K
            simp only [Act.put, List.setIfInBounds_toArray, List.set_cons_zero, List.set_cons_succ]
            refine BigFrame.wpQuiet_want (by rfl) fun K hK => ⟨?_, fun w' hC => ?_, hK _ ?_⟩
            rotate_left
            · (obtain ⟨q0, q1'⟩ := HF.out _ hC; go_simp; first | done | with_reducible rfl | exact ⟨rfl, hC⟩)
            clear hK K
            simp only [Act.put, List.setIfInBounds_toArray, List.set_cons_zero, List.set_cons_succ]
            refine BigFrame.wpQuiet_want (by rfl) fun K hK => ⟨?_, fun w' hC => ?_, hK _ ?_⟩
            rotate_left
            · (obtain ⟨q0, q1'⟩ := HF.out _ hC; go_simp; first | done | with_reducible rfl | exact ⟨rfl, hC⟩)
            clear hK K
            simp only [Act.put, List.setIfInBounds_toArray, List.set_cons_zero, List.set_cons_succ]
            refine BigFrame.wpQuiet_want (by rfl) fun K hK => ⟨?_, fun w' hC => ?_, hK _ ?_⟩
            rotate_left
            · (obtain ⟨q0, q1'⟩ := HF.out _ hC; go_simp; first | done | with_reducible rfl | exact ⟨rfl, hC⟩)
            clear hK K
            simp only [Act.put, List.setIfInBounds_toArray, List.set_cons_zero, List.set_cons_succ]
            refine wpQuiet_nil ?_
            intro w2 hC2
            have HX2 := Lib.hid (HEw.out.drew.trans hC2)
            have HEqq := Lib.hid (HEq.out.drew.trans hC2)
            clear hC2
            go_wp2_with fail
            have HCC := Lib.hid (fun W (he : Ex w2.drew W) => And.intro ((HB1V.out.ex (HX2.out.drew.trans he)).cell 1) (And.intro ((HPV.out.ex (HX2.out.drew.trans he)).cell 0) (And.intro ((HB2V.out.ex (HX2.out.drew.trans he)).cell 0) (And.intro ((HB2V.out.ex (HX2.out.drew.trans he)).cell 1) ((((HEV.out.trans HX2.out).drew.trans he).below.cell (p := ⟨bu, ou + f, none⟩) hbu).trans HCQ.out)))))
            have hC0 := HCC.out _ (Ex.refl _)
            refine Late.region (C := fun W => W.cell? ⟨w.heap.size + 1, 1, none⟩ = some (.slice (some ⟨bu, ou, none⟩) t1.length d1) ∧ W.cell? ⟨D, 0, none⟩ = some (.slice G t2.length g) ∧ W.cell? ⟨w.heap.size + 1 + 1, 0, none⟩ = some (.int .i64 (d : Int)) ∧ W.cell? ⟨w.heap.size + 1 + 1, 1, none⟩ = some (.slice B3 t3.length d3) ∧ W.cell? ⟨bu, ou + f, none⟩ = some (.int .i64 u)) (fun _ => true) (by kernel_rfl) hC0 (fun hC => ?_)
            refine Late.take (i := 0) (oi := ⟨_, _, _, _, _, _⟩) (v := ?_) rfl (by kernel_rfl) (by kernel_rfl) (by kernel_rfl) (by kernel_rfl) (fun _ _ _ h => h) (Or.inl ⟨by rfl, ?_⟩) hC ?_
            rotate_left
            · (intro w hSw; (try dsimp only at hSw); go_simp; first | done | with_reducible rfl)
            simp only [Act.put]
            refine Late.take (i := 1) (oi := ⟨_, _, _, _, _, _⟩) (v := ?_) rfl (by kernel_rfl) (by kernel_rfl) (by kernel_rfl) (by kernel_rfl) (fun _ _ _ h => h) (Or.inl ⟨by rfl, ?_⟩) hC ?_
            rotate_left
            · (intro w hSw; (try dsimp only at hSw); go_simp; first | done | with_reducible rfl)
            simp only [Act.put]
            refine Late.take (i := 2) (oi := ⟨_, _, _, _, _, _⟩) (v := ?_) rfl (by kernel_rfl) (by kernel_rfl) (by kernel_rfl) (by kernel_rfl) (fun _ _ _ h => h) (Or.inl ⟨by rfl, ?_⟩) hC ?_
            rotate_left
            · (intro w hSw; (try dsimp only at hSw); go_simp; first | done | with_reducible rfl)
            simp only [Act.put]
            refine Late.take (i := 3) (oi := ⟨_, _, _, _, _, _⟩) (v := ?_) rfl (by kernel_rfl) (by kernel_rfl) (by kernel_rfl) (by kernel_rfl) (fun _ _ _ h => h) (Or.inl ⟨by rfl, ?_⟩) hC ?_
            rotate_left
            · (intro w hSw; (try dsimp only at hSw); go_simp; first | done | with_reducible rfl)
            simp only [Act.put]
            refine Late.take (i := 4) (oi := ⟨_, _, _, _, _, _⟩) (v := ?_) rfl (by kernel_rfl) (by kernel_rfl) (by kernel_rfl) (by kernel_rfl) (fun _ _ _ h => h) (Or.inl ⟨by rfl, ?_⟩) hC ?_
            rotate_left
            · (intro w hSw; (try dsimp only at hSw); go_simp; first | done | with_reducible rfl)
            simp only [Act.put]
            refine Late.take (i := 5) (oi := ⟨_, _, _, _, _, _⟩) (v := ?_) rfl (by kernel_rfl) (by kernel_rfl) (by kernel_rfl) (by kernel_rfl) (fun _ _ _ h => h) (Or.inl ⟨by rfl, ?_⟩) hC ?_
            rotate_left
            · (intro w hSw; (try dsimp only at hSw); go_simp; first | done | with_reducible rfl)
            simp only [Act.put]
            refine Late.take (i := 6) (oi := ⟨_, _, _, _, _, _⟩) (v := ?_) rfl (by kernel_rfl) (by kernel_rfl) (by kernel_rfl) (by kernel_rfl) (fun _ _ _ h => h) (Or.inl ⟨by rfl, ?_⟩) hC ?_
            rotate_left
            · (intro w hSw; (try dsimp only at hSw); go_simp; first | done | with_reducible rfl)
            simp only [Act.put]
            refine Late.take (i := 7) (oi := ⟨_, _, _, _, _, _⟩) (v := ?_) rfl (by kernel_rfl) (by kernel_rfl) (by kernel_rfl) (by kernel_rfl) (fun _ _ _ h => h) (Or.inl ⟨by rfl, ?_⟩) hC ?_
            rotate_left
            · (intro w hSw; (try dsimp only at hSw); go_simp; first | done | with_reducible rfl)
            simp only [Act.put]
            refine Late.take (i := 8) (oi := ⟨_, _, _, _, _, _⟩) (v := ?_) rfl (by kernel_rfl) (by kernel_rfl) (by kernel_rfl) (by kernel_rfl) (fun _ _ _ h => h) (Or.inl ⟨by rfl, ?_⟩) hC ?_
            rotate_left
            · (intro w hSw; (try dsimp only at hSw); go_simp; first | done | with_reducible rfl)
            simp only [Act.put]
            refine Late.take (i := 9) (oi := ⟨_, _, _, _, _, _⟩) (v := ?_) rfl (by kernel_rfl) (by kernel_rfl) (by kernel_rfl) (by kernel_rfl) (fun _ _ _ h => h) (Or.inl ⟨by rfl, ?_⟩) hC ?_
            rotate_left
            · (intro w hSw; (try dsimp only at hSw); go_simp; first | done | with_reducible rfl)
            simp only [Act.put]
            refine Late.one (i := 10) (o := _) (by kernel_rfl) rfl (fun K' hK' => ?_)
            go_simp
            refine (HPZ.out w2.drew (HEV.out.trans HX2.out.drew)).mono ?_
            rintro e W3 ⟨rfl, he3⟩
            have HE3 := Lib.hid he3
            have hC3 := HCC.out _ he3
            refine hK'.out _ _ (fun _ => hC3) (fun _ => ?_)
            clear hK' K' hC hC0 he3
            try simp only [Act.put, List.setIfInBounds_toArray, List.set_cons_zero, List.set_cons_succ]
            refine Late.one (i := 11) (o := _) (by kernel_rfl) rfl (fun K' hK' => ?_)
            go_simp
            have e4 := HE3.out.alloc (.cells #[.int .i64 (p : Int)] 2)
            have hb4 := Has.new W3 2 #[.int .i64 (p : Int)]
            refine hK'.out _ _ (fun _ => HCC.out _ e4) (fun _ => ?_)
            clear hK' K'
            generalize W3.alloc (.cells #[.int .i64 (p : Int)] 2) = W4 at *
            try simp only [Act.put, List.setIfInBounds_toArray, List.set_cons_zero, List.set_cons_succ]
            refine Late.one (i := 12) (o := _) (by kernel_rfl) rfl (fun K' hK' => ?_)
            go_simp
            refine (HAT.out _ W4 (HX2.out.drew.trans e4) hb4).mono ?_
            rintro e W5 ⟨rfl, he5⟩
            have HE5 := Lib.hid (HEqq.out.drew.trans (e4.trans he5))
            have hC5 := HCC.out _ (e4.trans he5)
            refine hK'.out _ _ (fun _ => hC5) (fun _ => ?_)
            clear hK' K' he5 e4 hb4
            try simp only [Act.put, List.setIfInBounds_toArray, List.set_cons_zero, List.set_cons_succ]
            refine Late.one (i := 13) (o := _) (by kernel_rfl) rfl (fun K' hK' => ?_)
            go_simp
            refine hK'.out _ _ (fun _ => hC5) (fun _ => ?_)
            clear hK' K'
            try simp only [Act.put, List.setIfInBounds_toArray, List.set_cons_zero, List.set_cons_succ]
            refine Late.one (i := 14) (o := _) (by kernel_rfl) rfl (fun K' hK' => ?_)
            go_simp
            refine hK'.out _ _ (fun _ => hC5) (fun _ => ?_)
            clear hK' K'
            try simp only [Act.put, List.setIfInBounds_toArray, List.set_cons_zero, List.set_cons_succ]
            refine Late.one (i := 15) (o := _) (by kernel_rfl) rfl (fun K' hK' => ?_)
            go_simp
            refine hK'.out _ _ (fun _ => hC5) (fun _ => ?_)
            clear hK' K'
            try simp only [Act.put, List.setIfInBounds_toArray, List.set_cons_zero, List.set_cons_succ]
            refine Late.done (by kernel_rfl) ?_ _
            go_wp2_with fail
            go_roundw
            case rel => exact ⟨q + 1, by omega, by go_num, by rw [HS1.out], HE5⟩
            case measure => simp [intOf]; omega
          · obtain rfl : q = N := by omega
            have hs1 := HSB.out k hlt q (by omega)
            have HSV := Lib.hid (HTV.out k)
            obtain ⟨s, hse⟩ : ∃ s, sumT (tcT t0 t1 t2 t3 d (tcX d k)) q = s := ⟨_, rfl⟩
            rw [hse] at hs1 HSV ⊢
            have HMD := Lib.hid (fun W => l01Mod_w s M W (by omega) hM12 (by omega) (by omega))
            obtain ⟨r, hre⟩ : ∃ r, s % (M : Int) = r := ⟨_, rfl⟩
            rw [hre] at HMD HSV
            have hAl : k < (upL zs (tcV t0 M t1 t2 t3 d) k).length := by rw [upL_len, HZL.out]; exact hlt
            obtain ⟨ba, oa, rfl, hba1, hba2, hca, hfa⟩ := (HA2.out.ex HEq.out).at_ hAl
            have HDq := Lib.hid (HD2.out.ex HEq.out)
            have HAq := Lib.hid (HA2.out.ex HEq.out)
            have hC0 := And.intro (HDq.out.cell 1) (And.intro ((HB1V.out.ex HEw.out).cell 0) hca)
            have HST2 := Lib.hid (upL_set (xs := zs) (f := tcV t0 M t1 t2 t3 d) (q := k) (by rw [HZL.out]; exact hlt))
            rw [HSV.out] at HST2
            obtain ⟨ov, hov⟩ : ∃ o, nth (upL zs (tcV t0 M t1 t2 t3 d) k) k = o := ⟨_, rfl⟩
            rw [hov] at hC0 hca
            have hk0 : (0 : Int) ≤ (k : Int) := by omega
            have hkn : (k : Int) < (cn : Int) := by omega
            clear hse hre hs1 hov hjb
            go_wp2_with fail
            refine Late.region (C := fun W => W.cell? ⟨D2, 1, none⟩ = some (.slice (some ⟨ba, oa, none⟩) cn n2) ∧ W.cell? ⟨w.heap.size + 1, 0, none⟩ = some (.int .i64 (M : Int)) ∧ W.cell? ⟨ba, oa + k, none⟩ = some (.int .i64 ov)) (fun j => decide (j < 8)) (by kernel_rfl) hC0 (fun hC => ?_)
            refine Late.take (i := 0) (oi := ⟨_, _, _, _, _, _⟩) (v := ?_) rfl (by kernel_rfl) (by kernel_rfl) (by kernel_rfl) (by kernel_rfl) (fun _ _ _ h => h) (Or.inl ⟨by rfl, ?_⟩) hC ?_
            rotate_left
            · (intro w hSw; (try dsimp only at hSw); go_simp; first | done | with_reducible rfl)
            simp only [Act.put]
            refine Late.take (i := 1) (oi := ⟨_, _, _, _, _, _⟩) (v := ?_) rfl (by kernel_rfl) (by kernel_rfl) (by kernel_rfl) (by kernel_rfl) (fun _ _ _ h => h) (Or.inl ⟨by rfl, ?_⟩) hC ?_
            rotate_left
            · (intro w hSw; (try dsimp only at hSw); go_simp; first | done | with_reducible rfl)
            simp only [Act.put]
            refine Late.take (i := 2) (oi := ⟨_, _, _, _, _, _⟩) (v := ?_) rfl (by kernel_rfl) (by kernel_rfl) (by kernel_rfl) (by kernel_rfl) (fun _ _ _ h => h) (Or.inl ⟨by rfl, ?_⟩) hC ?_
            rotate_left
            · (intro w hSw; (try dsimp only at hSw); go_simp; first | done | with_reducible rfl)
            simp only [Act.put]
            refine Late.take (i := 3) (oi := ⟨_, _, _, _, _, _⟩) (v := ?_) rfl (by kernel_rfl) (by kernel_rfl) (by kernel_rfl) (by kernel_rfl) (fun _ _ _ h => h) (Or.inl ⟨by rfl, ?_⟩) hC ?_
            rotate_left
            · (intro w hSw; (try dsimp only at hSw); go_simp; first | done | with_reducible rfl)
            simp only [Act.put]
            refine Late.take (i := 4) (oi := ⟨_, _, _, _, _, _⟩) (v := ?_) rfl (by kernel_rfl) (by kernel_rfl) (by kernel_rfl) (by kernel_rfl) (fun _ _ _ h => h) (Or.inl ⟨by rfl, ?_⟩) hC ?_
            rotate_left
            · (intro w hSw; (try dsimp only at hSw); go_simp; first | done | with_reducible rfl)
            simp only [Act.put]
            refine Late.take (i := 5) (oi := ⟨_, _, _, _, _, _⟩) (v := ?_) rfl (by kernel_rfl) (by kernel_rfl) (by kernel_rfl) (by kernel_rfl) (fun _ _ _ h => h) (Or.inl ⟨by rfl, ?_⟩) hC ?_
            rotate_left
            · (intro w hSw; (try dsimp only at hSw); go_simp; first | done | with_reducible rfl)
            simp only [Act.put]
            refine Late.one (i := 6) (o := _) (by kernel_rfl) rfl (fun K' hK' => ?_)
            go_simp
            refine (HMD.out _).mono ?_
            rintro e w' ⟨rfl, rfl⟩
            refine hK'.out _ _ (fun _ => hC0) (fun _ => ?_)
            clear hK' K'
            try simp only [Act.put, List.setIfInBounds_toArray, List.set_cons_zero, List.set_cons_succ]
            refine Late.take (i := 7) (oi := ⟨_, _, _, _, _, _⟩) (v := ?_) rfl (by kernel_rfl) (by kernel_rfl) (by kernel_rfl) (by kernel_rfl) (fun _ _ _ h => h) (Or.inl ⟨by rfl, ?_⟩) hC0 ?_
            rotate_left
            · (intro w hSw; (try dsimp only at hSw); go_simp; first | done | with_reducible rfl)
            simp only [Act.put]
            refine Late.one (i := 8) (o := _) (by kernel_rfl) rfl (fun K' hK' => ?_)
            go_simp
            refine hK'.out _ _ (fun h => by cases h) (fun _ => ?_)
            clear hK' K' hC hC0
            refine Late.done (by kernel_rfl) ?_ _
            go_wp2_with fail
            refine ⟨?rel, ?measure⟩
            case rel =>
              have hbD : ba ≠ D2 := by omega
              refine ⟨k + 1, by omega, by go_num, Lib.hid (HEw.out.drew.setCell (p := ⟨ba, oa + k, none⟩) ?_ _), Lib.hid (Has.far (p := ⟨ba, oa + k, none⟩) (HDq.out.ex (Ex.refl wr).drew) (by show D2 ≠ ba; omega) _), Lib.hid ?_⟩
              · show V.heap.size ≤ ba
                omega
              · rw [← HST2.out]
                exact (HAq.out.ex (Ex.refl wr).drew).put (j := k) hAl _
            case measure => simp [intOf]; omega
      · obtain rfl : k = cn := by omega
        have hjb : decide ((k : Int) < (k : Int)) = false := by simp
        have cO := HD2.out.cell 0
        have cO' := HD2.out.cell 1
        have HR3 := Lib.hid (HB3V.out.ex HE2.out)
        have c4 := HR3.out.cell 0
        have c4' := HR3.out.cell 1
        have f4 := HR3.out.free 0
        have f4' := HR3.out.free 1
        have HEN := Lib.hid (HEV.out.trans HE2.out)
        have HOF : Hid (OwnL W2 V.heap.size D2 A2 (tcY t0 M t1 t2 t3 d)) := Lib.hid (by rw [← HUZ.out]; exact HA2.out)
        have HYL : Hid ((tcY t0 M t1 t2 t3 d).length = k) := Lib.hid (by rw [HTY.out]; simp)
        have hwV := HEV0.out
        go_wp2_with fail
        have H4 := HR3.out.put2 (u := .int .i64 (d : Int)) (v := .slice A2 k n2)
        have c4 := H4.cell 0
        have c4' := H4.cell 1
        refine bodyPost_ret (v := .tuple #[.agg #[.int .i64 (d : Int), .slice A2 k n2], .int .i64 0]) (by simp [results, Tryz.results25, go_sem, c4, c4']) rfl (SqS.of HQ.out (by rw [HYL.out]) ((HEN.out.setCell (by show w.heap.size ≤ w.heap.size + 1 + 1 + 1; omega) _).setCell (by show w.heap.size ≤ w.heap.size + 1 + 1 + 1; omega) _) (((HOF.out.above (Only.set _ _ _ _) (by omega)).above (Only.set _ _ _ _) (by omega)).mono (by omega) (by simpa using HOF.out.le) (Nat.le_refl _)))

end Go.Proofs.YtcdijeeabgmgmaaGreatDoor

/- TransferCochain: the specification's contract, a part. -/
namespace Go.Proofs.YtcdijeeabgmgmaaGreatDoor
open Go.RowKit

set_option maxHeartbeats 1000000 in
theorem specTransferCochain_ex (t0 : List (List Int)) (m1 : Int) (t1 t2 : List Int) (m3 : Int) (t3 : List Int) : ∀ (B0 : Option Addr) (d0 : Nat) (B1 : Option Addr) (d1 : Nat) (B2 : Option Addr) (d2 : Nat) (B3 : Option Addr) (d3 : Nat) (W : World), RwsW W B0 t0 → IntsW W B1 t1 → IntsW W B2 t2 → IntsW W B3 t3 → SmallT t0 → t1.length ≤ 1048576 → t2.length ≤ 1048576 → t3.length ≤ 1048576 →
    Calls Tryz.prog 25 #[.agg #[.slice B0 t0.length d0], .agg #[.int .i64 m1, .slice B1 t1.length d1], .slice B2 t2.length d2, .agg #[.int .i64 m3, .slice B3 t3.length d3]] W (SqS (qTransferCochain0 t0 m1 t1 t2 m3 t3) (yTransferCochain0 t0 m1 t1 t2 m3 t3) (qTransferCochain1 t0 m1 t1 t2 m3 t3) W) := by
  intro B0 d0 B1 d1 B2 d2 B3 d3 w hR hU hX hF hs hu hx hf
  by_cases hz : mgC t0 m1 t1 t2 = 0
  · obtain ⟨M, rfl, hMF, hsx, -⟩ := mgE_zero (es := []) (show mgE t0 m1 t1 t2 [] = 0 from hz)
    cases hcb : cocB t2.length (M : Int) m3 t3 with
    | false => exact specTC_no t0 M t1 t2 m3 t3 B0 d0 B1 d1 B2 d2 B3 d3 w hR hU hX hF hs hu hx hf hz hMF hsx hcb
    | true =>
      by_cases hn : m3 > 1
      · exact specTC_big t0 M t1 t2 m3 t3 B0 d0 B1 d1 B2 d2 B3 d3 w hR hU hX hF hs hu hx hf hz hMF hsx hcb hn
      · obtain ⟨M', d, e1, rfl, -, hf'⟩ := tcC_zero (tcC_yes (scC_yes hz hcb) hn)
        obtain rfl : M = M' := by omega
        rcases (by have := hf'.d1; omega : d = 0 ∨ d = 1) with hd | hd
        · exact specTC_yes0 t0 M t1 t2 d t3 B0 d0 B1 d1 B2 d2 B3 d3 w hR hU hX hF hs hu hx hf hd hz hcb hf'
        · exact specTC_yes1 t0 M t1 t2 d t3 B0 d0 B1 d1 B2 d2 B3 d3 w hR hU hX hF hs hu hx hf hd hz hcb hf'
  · exact specTC_err t0 m1 t1 t2 m3 t3 B0 d0 B1 d1 B2 d2 B3 d3 w hR hU hX hF hs hu hx hf hz

end Go.Proofs.YtcdijeeabgmgmaaGreatDoor
