/- ClassOfCrossed: the model's side. -/
import Derived.Test.YtfafccldngekgaaBe
import Derived.Test.YtfafccldngekgaaPl
import Derived.Test.YtfafccldngekgaaCa
import Derived.Test.YtfafccldngekgaaOl
namespace Go.Proofs.Ytfafccldngekgaa
open Go.RowKit

/-- A list of numbers and the principal map of m together; the least of the list and the first k of these. -/
def clX (M : Nat) (us fs : List Int) (m x : Nat) : Int := (nth fs x + prinX M us m x) % (M : Int)
def shL (M : Nat) (us fs : List Int) (m q : Nat) : List Int := (List.range q).map fun x => clX M us fs m x
def cls (M : Nat) (us fs : List Int) : Nat → List Int
  | 0 => fs
  | k + 1 => if lexB (shL M us fs k fs.length) (cls M us fs k) = true then shL M us fs k fs.length else cls M us fs k
theorem shL_len (M : Nat) (us fs : List Int) (m q : Nat) : (shL M us fs m q).length = q := by simp [shL]
theorem shL_snoc (M : Nat) (us fs : List Int) (m q : Nat) : shL M us fs m (q + 1) = shL M us fs m q ++ [clX M us fs m q] := by simp [shL, List.range_succ]
theorem cls_len (M : Nat) (us fs : List Int) : ∀ k, (cls M us fs k).length = fs.length
  | 0 => rfl
  | k + 1 => by
    unfold cls
    split
    · exact shL_len ..
    · exact cls_len M us fs k
theorem cls_yes {M k : Nat} {us fs : List Int} (h : lexB (shL M us fs k fs.length) (cls M us fs k) = true) : cls M us fs (k + 1) = shL M us fs k fs.length := by rw [cls, if_pos h]
theorem cls_no {M k : Nat} {us fs : List Int} (h : lexB (shL M us fs k fs.length) (cls M us fs k) = false) : cls M us fs (k + 1) = cls M us fs k := by rw [cls, h]; rfl
theorem prinX_in {M : Nat} (hM : 0 < M) (us : List Int) (m x : Nat) : 0 ≤ prinX M us m x ∧ prinX M us m x < (M : Int) := ⟨Int.emod_nonneg _ (by omega), Int.emod_lt_of_pos _ (by omega)⟩
theorem nth_prinL {N M x m : Nat} {us : List Int} (h : x < N) : nth (prinL N M us m) x = prinX M us m x := by simp [nth, prinL, h]

set_option maxRecDepth 100000 in
set_option maxHeartbeats 4000000 in
theorem l05Class_any (B0 B1 B2 : Option Addr) (t0 : List (List Int)) (M : Nat) (us fs : List Int) (d0 d1 d2 : Nat) (w : World) (hX : IntsW w B1 us) (hF : IntsW w B2 fs) (hm : ModF t0 M us) (hl : fs.length = t0.length) (hr : InR M fs) :
    Calls Try.prog 89 #[.agg #[.slice B0 t0.length d0], .agg #[.int .i64 (M : Int), .slice B1 us.length d1], .slice B2 fs.length d2] w fun e w' => ∃ A' n', e = .returned (.slice A' (cls M us fs M).length n') ∧ Ex w w' ∧ OwnL w' w.heap.size w'.heap.size A' (cls M us fs M) := by
  obtain ⟨i0, hi, hi0, hi1, hi2⟩ := info_parts infoI
  have hN1 := hm.g.n1
  have hN8 := hm.g.n8
  have hM2 := hm.m2
  have hM12 := hm.m12
  have hf8 : fs.length ≤ 8 := by omega
  have e0 : Ex w ((w.alloc (.cells #[.slice B0 t0.length d0] 32)).alloc (.cells #[.int .i64 (M : Int), .slice B1 us.length d1] 34)) := ((Ex.refl w).alloc _).alloc _
  have b0 : Has ((w.alloc (.cells #[.slice B0 t0.length d0] 32)).alloc (.cells #[.int .i64 (M : Int), .slice B1 us.length d1] 34)) (w.heap.size) 32 #[.slice B0 t0.length d0] := ((Has.newAt (w := w) (e := 32) (cs := #[.slice B0 t0.length d0]) (k := w.heap.size) (by simp)).alloc _)
  have b1 : Has ((w.alloc (.cells #[.slice B0 t0.length d0] 32)).alloc (.cells #[.int .i64 (M : Int), .slice B1 us.length d1] 34)) (w.heap.size + 1) 34 #[.int .i64 (M : Int), .slice B1 us.length d1] := (Has.newAt (w := (w.alloc (.cells #[.slice B0 t0.length d0] 32))) (e := 34) (cs := #[.int .i64 (M : Int), .slice B1 us.length d1]) (k := w.heap.size + 1) (by simp))
  have HOW := Lib.hid (l01Own_any B2 fs d2 ((w.alloc (.cells #[.slice B0 t0.length d0] 32)).alloc (.cells #[.int .i64 (M : Int), .slice B1 us.length d1] 34)) (hF.ex e0) (by omega))
  have HPR := Lib.hid (fun m (hmM : m < M) W (he : Ex w W) => l05Principal_any B0 B1 t0 M m us d0 d1 W (hX.ex he) hm hmM)
  have HF := Lib.hid hF
  have HFR := Lib.hid hr
  have HL := Lib.hid hl
  have HE0 := Lib.hid e0
  obtain ⟨bf, of, rfl, hbf, -⟩ := hF.ints.at_ (j := 0) (by omega)
  have HFC := Lib.hid (fun q (hq : q < fs.length) => (⟨(im_eq hr hq).2, (im_eq hr hq).1, by rw [← (im_eq hr hq).1]; exact ints_cell hF.ints hq⟩ : im fs q < M ∧ nth fs q = (im fs q : Int) ∧ w.cell? ⟨bf, of + q, none⟩ = some (.int .i64 (im fs q : Int))))
  clear hX hF hm hl hr
  go_enter Try.func89, Try.ntmps89
  go_wp2_with fail
  generalize ((w.alloc (.cells #[.slice B0 t0.length d0] 32)).alloc (.cells #[.int .i64 (M : Int), .slice B1 us.length d1] 34)) = W0 at *
  refine HOW.out.mono ?_
  rintro e W1 ⟨v, rfl, he1, hg1⟩
  obtain ⟨A0, n0, rfl, ho1⟩ := hg1.own
  have HE1 := Lib.hid (e0.trans he1)
  have HB0 := Lib.hid (b0.ex he1)
  have HB1 := Lib.hid (b1.ex he1)
  have HO1 := Lib.hid (ho1.mono e0.size (Nat.le_refl _) ho1.le)
  clear b0 b1 e0 he1 hg1 ho1
  go_wp2_with fail
  go_loopw [7, 8] (fun v i wr => ∃ (k : Nat) (A' : Option Addr) (n' : Nat), k ≤ M ∧ i = .int .i64 (k : Int) ∧ v = .slice A' fs.length n' ∧ Hid (Ex w wr) ∧ Hid (Has wr w.heap.size 32 #[.slice B0 t0.length d0]) ∧ Hid (Has wr (w.heap.size + 1) 34 #[.int .i64 (M : Int), .slice B1 us.length d1]) ∧ Hid (OwnL wr w.heap.size wr.heap.size A' (cls M us fs k))) (fun _ i _ => M - (intOf i).toNat)
  case atStart => exact ⟨0, A0, n0, Nat.zero_le _, rfl, rfl, HE1, HB0, HB1, HO1⟩
  case round =>
    obtain ⟨k, A', n', hk, rfl, rfl, HE, HA, HB, HC⟩ := hrel
    have c1 := HB.out.cell 0
    by_cases hlt : k < M
    · have c0 := HA.out.cell 0
      have c1' := HB.out.cell 1
      go_wp2_with fail
      refine (HPR.out k hlt wr HE.out).mono ?_
      rintro e W2 ⟨P, n2, rfl, he2, ho2⟩
      obtain ⟨bp, op, rfl, hbp1, hbp2, -⟩ := ho2.at_ (j := 0) (by rw [prinL_len]; omega)
      rw [prinL_len]
      have HPC := Lib.hid (fun q (hq : q < t0.length) W (he : Ex W2 W) => (by
        obtain ⟨b', o', e', _, _, hc, _⟩ := (ho2.ex he).at_ (j := q) (by rw [prinL_len]; exact hq)
        simp only [Option.some.injEq, Addr.mk.injEq, and_true] at e'
        obtain ⟨rfl, rfl⟩ := e'
        rw [nth_prinL hq] at hc
        exact hc : W.cell? ⟨bp, op + q, none⟩ = some (.int .i64 (prinX M us k q))))
      have HE2 := Lib.hid (HE.out.trans he2)
      have HA2 := Lib.hid (HA.out.ex he2)
      have HB2 := Lib.hid (HB.out.ex he2)
      have HC2 := Lib.hid ((HC.out.ex he2).mono (Nat.le_refl _) he2.size (Nat.le_refl _))
      have g0 := GrowI.empty (lo := W2.heap.size) W2 (Nat.le_refl _)
      have hx3 : Ex W2 (W2.alloc (.cells #[] 2)) := Ex.new _ _
      have HG0 := Lib.hid g0
      have HX3 := Lib.hid hx3
      clear he2 ho2 c0 c1 c1' g0 hx3
      go_wp2_with fail
      generalize W2.alloc (.cells #[] 2) = W3 at *
      go_loopw [10, 11] (fun v i wx => ∃ q : Nat, q ≤ fs.length ∧ i = .int .i64 (q : Int) ∧ Hid (Ex W2 wx) ∧ Hid (GrowI wx W2.heap.size v q (shL M us fs k q))) (fun _ i _ => fs.length - (intOf i).toNat)
      case atStart => exact ⟨0, Nat.zero_le _, rfl, HX3, Lib.hid (by exact HG0.out)⟩
      case round =>
        obtain ⟨q, hq, rfl, HEx', HGx'⟩ := hrel
        by_cases hqd : q < fs.length
        · have hqt : q < t0.length := by rw [← HL.out]; exact hqd
          obtain ⟨hfM, hfe, hfc⟩ := HFC.out q hqd
          have hpx := prinX_in (show 0 < M by omega) us k q
          have HPQ := Lib.hid (HPC.out q hqt)
          have HSN := Lib.hid (shL_snoc M us fs k q)
          have HCX : Hid (clX M us fs k q = (nth fs q + prinX M us k q) % (M : Int)) := Lib.hid rfl
          rw [hfe] at HCX
          obtain ⟨f, hf0⟩ : ∃ f, im fs q = f := ⟨_, rfl⟩
          rw [hf0] at hfM hfc HCX
          obtain ⟨px, hp0⟩ : ∃ px, prinX M us k q = px := ⟨_, rfl⟩
          rw [hp0] at hpx HCX
          simp only [hp0] at HPQ
          obtain ⟨p, rfl⟩ : ∃ p : Nat, px = (p : Int) := ⟨px.toNat, by omega⟩
          obtain ⟨s, hs0⟩ : ∃ s, f + p = s := ⟨_, rfl⟩
          have hps : (f : Int) + (p : Int) = (s : Int) := by rw [← hs0]; simp
          have hs24 : s ≤ 24 := by omega
          rw [hps] at HCX
          obtain ⟨z, hz⟩ : ∃ z, clX M us fs k q = z := ⟨_, rfl⟩
          rw [hz] at HCX HSN
          have HMV := Lib.hid (fun W => HCX.out ▸ l01Mod_ex (s : Int) M W (by omega) hM12 (by omega) (by omega))
          have hws : IntKind.i64.wrap (s : Int) = (s : Int) := IntWalk.i64_in _ (by omega)
          have HUC := Lib.hid hfc
          have hq0 : (0 : Int) ≤ (q : Int) := by omega
          have hqn : (q : Int) < (fs.length : Int) := by omega
          have hqn2 : (q : Int) < (t0.length : Int) := by omega
          have hex := HEx'.out.drew
          have hC0 := And.intro (((HE2.out.trans hex).below.cell (p := ⟨bf, of + q, none⟩) hbf).trans hfc) (And.intro (HPQ.out _ hex) ((HB2.out.ex hex).cell 0))
          clear hf0 hp0 hs0 hz hfc hfe hex
          go_wp2_with fail
          refine Late.region (C := fun w' => w'.cell? ⟨bf, of + q, none⟩ = some (.int .i64 (f : Int)) ∧ w'.cell? ⟨bp, op + q, none⟩ = some (.int .i64 (p : Int)) ∧ w'.cell? ⟨w.heap.size + 1, 0, none⟩ = some (.int .i64 (M : Int))) (fun j => decide (j < 15)) (by kernel_rfl) hC0 (fun hC => ?_)
          refine Late.take (i := 0) (oi := _) (v := ?_) rfl (by kernel_rfl) (by kernel_rfl) (by kernel_rfl) (by kernel_rfl) (fun _ _ _ h => h) (Or.inl ⟨by rfl, ?_⟩) hC ?_
          rotate_left
          · (intro w hSw; (try dsimp only at hSw); go_simp; first | done | with_reducible rfl)
          simp only [Act.put]
          refine Late.take (i := 1) (oi := _) (v := ?_) rfl (by kernel_rfl) (by kernel_rfl) (by kernel_rfl) (by kernel_rfl) (fun _ _ _ h => h) (Or.inl ⟨by rfl, ?_⟩) hC ?_
          rotate_left
          · (intro w hSw; (try dsimp only at hSw); go_simp; first | done | with_reducible rfl)
          simp only [Act.put]
          refine Late.take (i := 2) (oi := _) (v := ?_) rfl (by kernel_rfl) (by kernel_rfl) (by kernel_rfl) (by kernel_rfl) (fun _ _ _ h => h) (Or.inl ⟨by rfl, ?_⟩) hC ?_
          rotate_left
          · (intro w hSw; (try dsimp only at hSw); go_simp; first | done | with_reducible rfl)
          simp only [Act.put]
          refine Late.take (i := 3) (oi := _) (v := ?_) rfl (by kernel_rfl) (by kernel_rfl) (by kernel_rfl) (by kernel_rfl) (fun _ _ _ h => h) (Or.inl ⟨by rfl, ?_⟩) hC ?_
          rotate_left
          · (intro w hSw; (try dsimp only at hSw); go_simp; first | done | with_reducible rfl)
          simp only [Act.put]
          refine Late.take (i := 4) (oi := _) (v := ?_) rfl (by kernel_rfl) (by kernel_rfl) (by kernel_rfl) (by kernel_rfl) (fun _ _ _ h => h) (Or.inl ⟨by rfl, ?_⟩) hC ?_
          rotate_left
          · (intro w hSw; (try dsimp only at hSw); go_simp; first | done | with_reducible rfl)
          simp only [Act.put]
          refine Late.take (i := 5) (oi := _) (v := ?_) rfl (by kernel_rfl) (by kernel_rfl) (by kernel_rfl) (by kernel_rfl) (fun _ _ _ h => h) (Or.inl ⟨by rfl, ?_⟩) hC ?_
          rotate_left
          · (intro w hSw; (try dsimp only at hSw); go_simp; first | done | with_reducible rfl)
          simp only [Act.put]
          refine Late.take (i := 6) (oi := _) (v := ?_) rfl (by kernel_rfl) (by kernel_rfl) (by kernel_rfl) (by kernel_rfl) (fun _ _ _ h => h) (Or.inl ⟨by rfl, ?_⟩) hC ?_
          rotate_left
          · (intro w hSw; (try dsimp only at hSw); go_simp; first | done | with_reducible rfl)
          simp only [Act.put]
          refine Late.take (i := 7) (oi := _) (v := ?_) rfl (by kernel_rfl) (by kernel_rfl) (by kernel_rfl) (by kernel_rfl) (fun _ _ _ h => h) (Or.inl ⟨by rfl, ?_⟩) hC ?_
          rotate_left
          · (intro w hSw; (try dsimp only at hSw); go_simp; first | done | with_reducible rfl)
          simp only [Act.put]
          refine Late.take (i := 8) (oi := _) (v := ?_) rfl (by kernel_rfl) (by kernel_rfl) (by kernel_rfl) (by kernel_rfl) (fun _ _ _ h => h) (Or.inl ⟨by rfl, ?_⟩) hC ?_
          rotate_left
          · (intro w hSw; (try dsimp only at hSw); go_simp; first | done | with_reducible rfl)
          simp only [Act.put]
          refine Late.take (i := 9) (oi := _) (v := ?_) rfl (by kernel_rfl) (by kernel_rfl) (by kernel_rfl) (by kernel_rfl) (fun _ _ _ h => h) (Or.inl ⟨by rfl, ?_⟩) hC ?_
          rotate_left
          · (intro w hSw; (try dsimp only at hSw); go_simp; first | done | with_reducible rfl)
          simp only [Act.put]
          refine Late.take (i := 10) (oi := _) (v := ?_) rfl (by kernel_rfl) (by kernel_rfl) (by kernel_rfl) (by kernel_rfl) (fun _ _ _ h => h) (Or.inl ⟨by rfl, ?_⟩) hC ?_
          rotate_left
          · (intro w hSw; (try dsimp only at hSw); go_simp; first | done | with_reducible rfl)
          simp only [Act.put]
          refine Late.take (i := 11) (oi := _) (v := ?_) rfl (by kernel_rfl) (by kernel_rfl) (by kernel_rfl) (by kernel_rfl) (fun _ _ _ h => h) (Or.inl ⟨by rfl, ?_⟩) hC ?_
          rotate_left
          · (intro w hSw; (try dsimp only at hSw); go_simp; first | done | with_reducible rfl)
          simp only [Act.put]
          refine Late.one (i := 12) (o := _) (by kernel_rfl) rfl (fun K' hK' => ?_)
          go_simp
          refine (HMV.out _).mono ?_
          rintro e W6 ⟨rfl, he6⟩
          have hx6 := HEx'.out.drew.trans he6
          have HE6 := Lib.hid hx6
          have HB6 := Lib.hid (HB2.out.ex hx6)
          have HG := Lib.hid (HGx'.out.ex ((Ex.refl wr).drew.trans he6))
          have HE := HE6
          have hcf6 := ((HE2.out.trans hx6).below.cell (p := ⟨bf, of + q, none⟩) hbf).trans HUC.out
          refine hK'.out _ _ (fun _ => ⟨hcf6, HPQ.out _ hx6, HB6.out.cell 0⟩) (fun _ => ?_)
          clear hK' K' hC hC0 he6 hx6
          try simp only [Act.put, List.setIfInBounds_toArray, List.set_cons_zero, List.set_cons_succ]
          refine Late.one (i := 13) (o := _) (by kernel_rfl) rfl (fun K' hK' => ?_)
          go_simp
          have e1 := HE.out.alloc (.cells #[.int .i64 z] 2)
          have HB61 := HB6.out.alloc (.cells #[.int .i64 z] 2)
          have g1 := HG.out.ex (Ex.new W6 (.cells #[.int .i64 z] 2))
          have hn1 := cell_one_new W6 (.int .i64 z) 2
          have hz1 : W6.heap.size + 1 = (W6.alloc (.cells #[.int .i64 z] 2)).heap.size := by simp
          have hx1 := Ex.new W6 (.cells #[.int .i64 z] 2)
          refine hK'.out _ _ (fun _ => ⟨((HE2.out.trans e1).below.cell (p := ⟨bf, of + q, none⟩) hbf).trans HUC.out, HPQ.out _ e1, HB61.cell 0⟩) (fun _ => ?_)
          clear hK' K'
          generalize W6.alloc (.cells #[.int .i64 z] 2) = w1 at *
          try simp only [Act.put, List.setIfInBounds_toArray, List.set_cons_zero, List.set_cons_succ]
          refine Late.one (i := 14) (o := _) (by kernel_rfl) rfl (fun K' hK' => ?_)
          rw [if_pos (by rfl)]
          refine wp_append_own _ _ _ 25 rfl W2.heap.size 2 i0 (.int .i64 0) 1 8 Try.underlying25 hi hi0 hi1 hi2 rfl (by decide) _ _ _ rfl g1.1 ⟨W6.heap.size, 0, none⟩ 1 1 [.int .i64 z] rfl rfl hn1 (by simp [Value.oneCell']) (by unfold maxLen; omega) (by omega) (by have := e1.size; omega) ?_
          intro v' w3 hown3 hgrow3 _
          have HE3 := Lib.hid (Ex.grew e1 g1 (Nat.le_refl _) hgrow3)
          have HB63 := Lib.hid (Has.grew HB61 (by decide) g1 hgrow3)
          have HG3 := Lib.hid (g1.snoc hown3)
          refine hK'.out _ _ (fun _ => ⟨((HE2.out.trans HE3.out).below.cell (p := ⟨bf, of + q, none⟩) hbf).trans HUC.out, HPQ.out _ HE3.out, HB63.out.cell 0⟩) (fun _ => ?_)
          clear hK' K' hown3 hgrow3 g1 e1 hn1 hx1 HB61
          try simp only [Act.put]
          refine Late.one (i := 15) (o := _) (by kernel_rfl) rfl (fun K' hK' => ?_)
          go_simp
          refine hK'.out _ _ (fun h => by cases h) (fun _ => ?_)
          clear hK' K'
          try simp only [Act.put, List.setIfInBounds_toArray, List.set_cons_zero, List.set_cons_succ]
          refine Late.done (by kernel_rfl) ?_ _
          go_wp2_with fail
          go_roundw
          case rel => exact ⟨q + 1, by omega, by go_num, HE3, by rw [HSN.out]; exact HG3⟩
          case measure => simp [intOf]; omega
        · obtain rfl : q = fs.length := by omega
          obtain ⟨Ao, no, rfl, hO⟩ := HGx'.out.own
          rw [shL_len]
          have HO := Lib.hid hO
          have HCx := Lib.hid (HC2.out.ex HEx'.out)
          have hbe := l01Before_any Ao A' (shL M us fs k fs.length) (cls M us fs k) no n' _ hO.ints (HCx.out.ints) (by rw [shL_len, cls_len]) (by rw [shL_len]; exact hf8)
          rw [shL_len, cls_len] at hbe
          have HBE := Lib.hid hbe
          clear hO hbe
          cases hlx : lexB (shL M us fs k fs.length) (cls M us fs k) with
          | true =>
            have HK1 := Lib.hid (cls_yes hlx)
            rw [hlx] at HBE
            clear hlx
            go_wp2_with fail
            refine HBE.out.mono ?_
            rintro e W7 ⟨rfl, he7⟩
            have hx7 := HEx'.out.trans he7
            have HE7 := Lib.hid (HE2.out.trans hx7)
            have HA7 := Lib.hid (HA2.out.ex hx7)
            have HB7 := Lib.hid (HB2.out.ex hx7)
            have HO7 := Lib.hid ((HO.out.ex he7).mono HE2.out.size he7.size (Nat.le_refl _))
            clear he7 hx7
            go_wp2_with fail
            go_roundw
            case rel => exact ⟨k + 1, Ao, no, by omega, by go_num, rfl, HE7, HA7, HB7, by rw [HK1.out]; exact HO7⟩
            case measure => simp [intOf]; omega
          | false =>
            have HK1 := Lib.hid (cls_no hlx)
            rw [hlx] at HBE
            clear hlx
            go_wp2_with fail
            refine HBE.out.mono ?_
            rintro e W7 ⟨rfl, he7⟩
            have hx7 := HEx'.out.trans he7
            have HE7 := Lib.hid (HE2.out.trans hx7)
            have HA7 := Lib.hid (HA2.out.ex hx7)
            have HB7 := Lib.hid (HB2.out.ex hx7)
            have HO7 := Lib.hid ((HC2.out.ex hx7).mono (Nat.le_refl _) hx7.size (Nat.le_refl _))
            clear he7 hx7
            go_wp2_with fail
            go_roundw
            case rel => exact ⟨k + 1, A', n', by omega, by go_num, rfl, HE7, HA7, HB7, by rw [HK1.out]; exact HO7⟩
            case measure => simp [intOf]; omega
    · obtain rfl : k = M := by omega
      go_wp2_with fail
      go_ret
      exact ⟨A', n', by rw [cls_len]; rfl, HE.out, HC.out⟩

end Go.Proofs.Ytfafccldngekgaa
