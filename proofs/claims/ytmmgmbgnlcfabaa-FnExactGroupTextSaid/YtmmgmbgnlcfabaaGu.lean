/- GroupText: both contracts of the function. -/
import Derived.IntWalk
import Derived.Test.YtmmgmbgnlcfabaaGt
import Derived.Test.YtmmgmbgnlcfabaaBy
namespace Go.Proofs.Ytmmgmbgnlcfabaa
open Go.RowKit Go.Shelf

attribute [local go_sem] Oper.semAt_some

def byteV (c : UInt8) : Value := .int .u8 (c.toNat : Int)
theorem decL_one {u : Nat} (h : u < 10) : (decL u).length = 1 := by simp [decL, h]
theorem byteV_dec : ∀ {u : Nat}, u < 10 → (decL u).map byteV = [.int .u8 (48 + (u : Int))] := by
  intro u h
  have : u = 0 ∨ u = 1 ∨ u = 2 ∨ u = 3 ∨ u = 4 ∨ u = 5 ∨ u = 6 ∨ u = 7 ∨ u = 8 ∨ u = 9 := by omega
  rcases this with rfl | rfl | rfl | rfl | rfl | rfl | rfl | rfl | rfl | rfl <;> rfl
/-- The text of some rows. -/
def textP (t : List (List Int)) (pre : List Nat) : List UInt8 := pre.foldl (fun s a => s ++ (if 0 < a then [44] else []) ++ rowL (row t a) t.length) []
theorem textP_snoc (t : List (List Int)) (pre : List Nat) (a : Nat) : textP t (pre ++ [a]) = textP t pre ++ (if 0 < a then [44] else []) ++ rowL (row t a) t.length := by simp [textP, List.foldl_append]
theorem textP_all (t : List (List Int)) : ∀ k, textP t (List.range k) = textL t k
  | 0 => rfl
  | k + 1 => by rw [List.range_succ, textP_snoc, textP_all t k]; rfl
theorem textP_len {t : List (List Int)} (hn : t.length ≤ 8) (pre : List Nat) : ∀ s : List UInt8, (pre.foldl (fun s a => s ++ (if 0 < a then [44] else []) ++ rowL (row t a) t.length) s).length ≤ s.length + 17 * pre.length := by
  induction pre with
  | nil => exact fun s => by simp
  | cons a pre ih =>
    intro s
    have h1 := ih (s ++ (if 0 < a then [44] else []) ++ rowL (row t a) t.length)
    have h2 := rowL_len (row t a) t.length
    have h3 : (if 0 < a then [44] else [] : List UInt8).length ≤ 1 := by split <;> simp
    simp only [List.length_append, List.foldl_cons, List.length_cons] at h1 ⊢
    omega
theorem fin_snocT {N : Nat} (pre : List (Fin N)) (x : Fin N) : (pre ++ [x]).map (fun x => x.val) = pre.map (fun x => x.val) ++ [x.val] := by simp
theorem fin_allT (N : Nat) : (List.finRange N).map (fun x => x.val) = List.range N := by
  apply List.ext_getElem
  · simp
  · intro i h1 h2; simp

noncomputable def qGroupText0 (t : List (List Int)) : ByteArray := if grpB t = true then bts (textL t t.length) else ByteArray.empty
noncomputable def qGroupText1 (t : List (List Int)) : Int := if grpB t = true then 0 else 1
section
variable {t : List (List Int)}
theorem gt_no (h : grpB t = false) : qGroupText0 t = ByteArray.empty ∧ qGroupText1 t = 1 := by simp [qGroupText0, qGroupText1, h]
theorem gt_yes (h : grpB t = true) : qGroupText0 t = bts (textL t t.length) ∧ qGroupText1 t = 0 := by simp [qGroupText0, qGroupText1, h]
end

set_option maxHeartbeats 1000000 in
theorem specGroupText_ex (t0 : List (List Int)) : ∀ (B0 : Option Addr) (d0 : Nat) (W : World), RwsW W B0 t0 → SmallT t0 →
    Calls Try.prog 21 #[.agg #[.slice B0 t0.length d0]] W fun e W' => e = .returned (.tuple #[.string (qGroupText0 t0), .int .i64 (qGroupText1 t0)]) ∧ Ex W W' := by
  intro B0 d0 w hR hs
  have e0 : Ex w (w.alloc (.cells #[.slice B0 t0.length d0] 28)) := (Ex.refl w).alloc _
  have b0 : Has (w.alloc (.cells #[.slice B0 t0.length d0] 28)) (w.heap.size) 28 #[.slice B0 t0.length d0] := (Has.newAt (w := w) (e := 28) (cs := #[.slice B0 t0.length d0]) (k := w.heap.size) (by simp))
  have HC := Lib.hid (l01Is_ex B0 t0 d0 _ (hR.ex e0) hs)
  cases hg : grpB t0 with
  | false =>
    rw [hg] at HC
    have HQ := Lib.hid (gt_no hg)
    clear hg hR
    go_enter Try.func21, Try.ntmps21
    go_wp2_with fail
    generalize (w.alloc (.cells #[.slice B0 t0.length d0] 28)) = W0 at *
    refine HC.out.mono ?_
    rintro e W1 ⟨rfl, he1⟩
    have HE1 := Lib.hid (e0.trans he1)
    clear b0 e0 he1
    go_wp2_with fail
    go_ret2
    exact ⟨by rw [HQ.out.1, HQ.out.2]; rfl, HE1.out⟩
  | true =>
    rw [hg] at HC
    have HQ := Lib.hid (gt_yes hg)
    have HL := Lib.hid (fun W he => l01Text_any B0 t0 d0 W (hR.ex (e0.trans he)) (grpB_iff.1 hg))
    obtain ⟨tb, htb⟩ : ∃ tb, bts (textL t0 t0.length) = tb := ⟨_, rfl⟩
    rw [htb] at HQ HL
    clear hg hR hs htb
    go_enter Try.func21, Try.ntmps21
    go_wp2_with fail
    generalize (w.alloc (.cells #[.slice B0 t0.length d0] 28)) = W0 at *
    refine HC.out.mono ?_
    rintro e W1 ⟨rfl, he1⟩
    have HE1 := Lib.hid (e0.trans he1)
    have c0 := (b0.ex he1).cell 0
    have HL1 := Lib.hid (HL.out W1 he1)
    clear b0 e0 he1 HL
    go_wp2_with fail
    refine HL1.out.mono ?_
    rintro e W2 ⟨rfl, he2⟩
    have HE2 := Lib.hid he2
    clear he2
    go_wp2_with fail
    go_ret2
    exact ⟨by rw [HQ.out.1, HQ.out.2]; rfl, HE1.out.trans HE2.out⟩

set_option maxRecDepth 100000 in
set_option maxHeartbeats 4000000 in
theorem implGroupText_any (t0 : List (List Int)) (B0 : Option Addr) (d0 : Nat) (w : World) (hR : RwsW w B0 t0) (hs : SmallT t0) :
    Calls Try.prog 22 #[.agg #[.slice B0 t0.length d0]] w fun e W' => e = .returned (.tuple #[.string (qGroupText0 t0), .int .i64 (qGroupText1 t0)]) ∧ Ex w W' := by
  obtain ⟨i0, hi, hi0, hi1, hi2⟩ := info_parts infoB
  have e0 : Ex w (w.alloc (.cells #[.slice B0 t0.length d0] 28)) := (Ex.refl w).alloc _
  have b0 : Has (w.alloc (.cells #[.slice B0 t0.length d0] 28)) (w.heap.size) 28 #[.slice B0 t0.length d0] := (Has.newAt (w := w) (e := 28) (cs := #[.slice B0 t0.length d0]) (k := w.heap.size) (by simp))
  have HC := Lib.hid (implIsGroup_ex B0 t0 d0 _ (hR.ex e0) hs)
  cases hg : grpB t0 with
  | false =>
    rw [hg] at HC
    have HQ := Lib.hid (gt_no hg)
    clear hg hR
    refine (callsIn_wide (n := 8)).1 ?_
    refine callsIn_of_wp_marks Try.func22 rfl trivial ?_ rfl
    simp only [Try.ntmps22, List.size_toArray, List.length_cons, List.length_nil, Nat.reduceAdd, Nat.reduceSub, Array.replicate_succ, Array.replicate_zero, List.push_toArray, List.append_toArray, List.nil_append, List.cons_append]
    gi_wp2_with fail
    generalize (w.alloc (.cells #[.slice B0 t0.length d0] 28)) = W0 at *
    refine ⟨trivial, (callsIn_wide.2 HC.out).mono ?_⟩
    rintro e W1 ⟨rfl, he1⟩
    have HE1 := Lib.hid (e0.trans he1)
    clear b0 e0 he1
    gi_wp2
    exact ⟨_, results_tmp2 rfl _ _ _, by rw [HQ.out.1, HQ.out.2]; rfl, HE1.out⟩
  | true =>
    rw [hg] at HC
    have HQ := Lib.hid (gt_yes hg)
    have hgr := grpB_iff.1 hg
    obtain ⟨b, o, bb, oo, C, rfl, hQ⟩ := hR.sq hgr
    have HQT := Lib.hid hQ
    have HG := Lib.hid hgr
    have hn8 := hgr.n8
    clear hg hgr hR hs hQ
    refine (callsIn_wide (n := 8)).1 ?_
    refine callsIn_of_wp_marks Try.func22 rfl trivial ?_ rfl
    simp only [Try.ntmps22, List.size_toArray, List.length_cons, List.length_nil, Nat.reduceAdd, Nat.reduceSub, Array.replicate_succ, Array.replicate_zero, List.push_toArray, List.append_toArray, List.nil_append, List.cons_append]
    gi_wp2_with fail
    generalize (w.alloc (.cells #[.slice (some ⟨b, o, none⟩) t0.length d0] 28)) = W0 at *
    refine ⟨trivial, (callsIn_wide.2 HC.out).mono ?_⟩
    rintro e W1 ⟨rfl, he1⟩
    have hz1 := (b0.ex he1).lt
    have HE1 := Lib.hid (e0.trans he1)
    have HB0 := Lib.hid (b0.ex he1)
    clear b0 e0 he1
    have e3 := Ex.new W1 (.cells #[.slice none 0 0] 65)
    have c0 := (HB0.out.ex e3).cell 0
    have HS := Lib.hid (Boxed.new W1 65 (.slice none 0 0))
    gi_wp2_with (refine ⟨trivial, ?_⟩; gi_at_call 42; refine (callsIn_wide.2 (elementsOf_any _ t0.length d0 _)).mono ?_; rintro e w' ⟨rfl, rfl⟩)
    obtain ⟨D, hD⟩ : ∃ D, W1.heap.size = D := ⟨_, rfl⟩
    have e4 := HE1.out.trans (e3.alloc (.cells #[.slice (some ⟨b, o, none⟩) t0.length d0] 28))
    have bS := HS.out.alloc (.cells #[.slice (some ⟨b, o, none⟩) t0.length d0] 28)
    have bE := Has.newAt (w := W1.alloc (.cells #[.slice none 0 0] 65)) (e := 28) (cs := #[.slice (some ⟨b, o, none⟩) t0.length d0]) (k := W1.heap.size + 1) (by simp)
    have bG := (HB0.out.ex e3).alloc (.cells #[.slice (some ⟨b, o, none⟩) t0.length d0] 28)
    have hz4 : ((W1.alloc (.cells #[.slice none 0 0] 65)).alloc (.cells #[.slice (some ⟨b, o, none⟩) t0.length d0] 28)).heap.size = D + 1 + 1 := by simp [hD]
    rw [hD] at bS bE hz1 ⊢
    clear HB0 HS e3 c0 HE1
    generalize ((W1.alloc (.cells #[.slice none 0 0] 65)).alloc (.cells #[.slice (some ⟨b, o, none⟩) t0.length d0] 28)) = W4 at *
    have HE4 := Lib.hid e4
    have HBG := Lib.hid bG
    clear e4 hD bG
    refine range_top (n := 8) (n₀ := w.heap.size + 1) (by omega) (gf := 57) (lb := #[.pointer (some ⟨D + 1, 0, none⟩)]) rfl (enters_of Try.func57 (by kernel_rfl) rfl)
      (elements_stops 7 (by omega) (D + 1) (w.heap.size + 1) t0.length d0 _ W4 (by omega) (bE.cell 0) (by omega)) (by omega) (fun _ => rfl)
      (fun pre W => ∃ v, Boxed W D 65 v ∧ W.ownsRow (w.heap.size + 1) 5 1 v (textP t0 (pre.map fun x => x.val)).length ((textP t0 (pre.map fun x => x.val)).map byteV) ∧ True)
      (fun c' _ W => False)
      (Own.from (holdsRow_own (w.heap.size + 1) D 65 5 1 (fun pre : List (Fin t0.length) => (textP t0 (pre.map fun x => x.val)).length) (fun pre => (textP t0 (pre.map fun x => x.val)).map byteV) (fun _ _ => True)) _)
      (fun _ => ownFrom_pure _ _)
      ⟨_, bS, ⟨rfl, .inl ⟨rfl, rfl⟩⟩, trivial⟩ ?round ?done ?stop
    case round =>
      clear bS bE
      intro l x W K hK
      have HK := Lib.hid hK
      clear hK
      gi_wp2
      refine HK.out _ ?_
      clear HK
      rintro l pre W hr ⟨v, bS1, hown, _⟩ hKW hpl
      obtain ⟨k, hlt⟩ := x
      have hzW := hKW.size
      have hQW : SqT W w.heap.size b o bb oo C t0 := (HQT.out.ex HE4.out).below hKW.1 (Nat.le_succ _)
      have HQW := Lib.hid hQW
      have hbg := (HBG.out.below hKW.1 (Nat.lt_succ_self _)).cell 0
      have HBGW := Lib.hid (HBG.out.below hKW.1 (Nat.lt_succ_self _))
      have hrk := hQW.row_ hlt
      have hbox := bS1.cell
      have HV := Lib.hid bS1
      have HTPx := Lib.hid (textP_snoc t0 (pre.map fun x => x.val) k)
      have HSNx : Hid ((pre ++ [(⟨k, hlt⟩ : Fin t0.length)]).map (fun x => x.val) = pre.map (fun x => x.val) ++ [k]) := Lib.hid (fin_snocT _ _)
      have hpb := textP_len hn8 (pre.map fun x => x.val) []
      rw [List.length_map] at hpb
      have hl0 : (textP t0 (pre.map fun x => x.val)).length ≤ 130 := by
        have h2 : (textP t0 (pre.map fun x => x.val)).length ≤ 0 + 17 * pre.length := hpb
        omega
      clear hpb hKW bS1 hQW
      by_cases h0 : 0 < k
      · rw [if_pos h0] at HTPx
        obtain ⟨lp, hlp⟩ : ∃ lp, textP t0 (pre.map fun x => x.val) = lp := ⟨_, rfl⟩
        rw [hlp] at hl0 hown HTPx
        have HOWN := Lib.hid hown
        clear hlp hown
        obtain ⟨l0, hl0e⟩ : ∃ l0, lp ++ [44] = l0 := ⟨_, rfl⟩
        have HL0 := Lib.hid hl0e
        have hl1 : l0.length ≤ 137 := by rw [← hl0e, List.length_append]; simp; omega
        have hl2 : l0.length = lp.length + 1 := by rw [← hl0e, List.length_append]; rfl
        have HM : Hid (l0.map byteV = lp.map byteV ++ [.int .u8 44]) := Lib.hid (by rw [← hl0e, List.map_append]; rfl)
        have HTP : Hid (textP t0 ((pre ++ [(⟨k, hlt⟩ : Fin t0.length)]).map fun x => x.val) = l0 ++ rowL (row t0 k) t0.length) := Lib.hid (by rw [HSNx.out, HTPx.out, hl0e])
        clear hl0e
        gi_wp2_with (gi_at_builtin; refine wpListIn_append_own _ rfl _ _ 65 rfl (w.heap.size + 1) 5 i0 (.int .u8 0) 1 1 Try.underlying65 hi hi0 hi1 hi2 rfl (by decide) _ _ _ rfl (HOWN.out.alloc _) ⟨W.heap.size, 0, none⟩ 1 1 [.int .u8 44] rfl rfl (cell_one_new _ _ _) (by simp [Value.oneCell']) (by unfold maxLen; omega) (by omega) (by simp; omega) ?_; intro v' w3 hown3 hgrow3 _; obtain ⟨f1, f2, f3, f4, f5⟩ := HV.out.appended (by decide) HOWN.out (by omega) (by omega) hown3 hgrow3; obtain ⟨g3, cap3, rfl⟩ := ownsRow_succ hown3; have hc3 := f1.cell; have hz3 := f1.frozen; have hq3 := HQW.out.below f5 (Nat.le_succ _); have hrk3 := hq3.row_ hlt; have hbg3 := (HBGW.out.below f5 (Nat.lt_succ_self _)).cell 0; have HV0 := Lib.hid f2; have HO0 := Lib.hid f3; have HKP : Hid (Keeps (w.heap.size + 1) W _) := Lib.hid ⟨f5, f4.from 0⟩; clear f1 f2 f3 f4 f5 hgrow3 hown3 hq3)
        rw [← HM.out] at HO0
        gi_loopw [25] (fun i wr => ∃ j : Nat, j ≤ t0.length ∧ i = .int .i64 (j : Int) ∧ ∃ v, Hid (Boxed wr D 65 v) ∧ Hid (wr.ownsRow (w.heap.size + 1) 5 1 v (l0 ++ rowL (row t0 k) j).length ((l0 ++ rowL (row t0 k) j).map byteV)) ∧ Hid (Keeps (w.heap.size + 1) W wr)) (fun i _ => t0.length - (intOf i).toNat)
        case atStart => exact ⟨0, Nat.zero_le _, rfl, _, HV0, by rw [rowL, List.append_nil, hl2]; exact HO0, HKP⟩
        case round =>
          obtain ⟨j, hj, rfl, v1, HV, HO, HK1⟩ := hrel
          have hq := HQW.out.below HK1.out.1 (Nat.le_succ _)
          by_cases hlt2 : j < t0.length
          · have hek := hq.ent_ hlt hlt2
            have hrg := HG.out.rng k hlt j hlt2
            obtain ⟨u, hu⟩ : ∃ u : Nat, nth (row t0 k) j = (u : Int) := ⟨(nth (row t0 k) j).toNat, by have h := hrg.1; unfold ent at h; omega⟩
            have hu8 : u < 8 := by have h := hrg.2; unfold ent at h; omega
            rw [hu] at hek
            have HN : Hid ((l0 ++ rowL (row t0 k) (j + 1)).map byteV = (l0 ++ rowL (row t0 k) j).map byteV ++ [.int .u8 (48 + (u : Int))]) := Lib.hid (by rw [rowL, hu, ← List.append_assoc, List.map_append, show ((u : Int).toNat) = u from rfl, byteV_dec (by omega)])
            have HN2 : Hid ((l0 ++ rowL (row t0 k) (j + 1)).length = (l0 ++ rowL (row t0 k) j).length + 1) := Lib.hid (by rw [rowL, hu, ← List.append_assoc, List.length_append, show ((u : Int).toNat) = u from rfl, decL_one (by omega)])
            have hsz := rowL_len (row t0 k) j
            have hszl : (l0 ++ rowL (row t0 k) j).length ≤ 400 := by rw [List.length_append]; omega
            have hbox := HV.out.cell
            have hzz := HK1.out.size
            have hw1 : IntKind.u8.wrap (u : Int) = (u : Int) := IntWalk.u8_in _ (by omega)
            have hw2 : IntKind.u8.wrap (48 + (u : Int)) = 48 + (u : Int) := IntWalk.u8_in _ (by omega)
            obtain ⟨lx, hlx⟩ : ∃ lx, l0 ++ rowL (row t0 k) j = lx := ⟨_, rfl⟩
            rw [hlx] at HO HN HN2 hszl
            clear hq hu hrg hsz hlx
            gi_wp2_with (gi_at_builtin; refine wpListIn_append_own _ rfl _ _ 65 rfl (w.heap.size + 1) 5 i0 (.int .u8 0) 1 1 Try.underlying65 hi hi0 hi1 hi2 rfl (by decide) _ _ _ rfl (HO.out.alloc _) ⟨wr.heap.size, 0, none⟩ 1 1 [.int .u8 (48 + (u : Int))] rfl rfl (cell_one_new _ _ _) (by simp [Value.oneCell']) (by unfold maxLen; omega) (by omega) (by simp; omega) ?_; intro v' w3 hown3 hgrow3 _; obtain ⟨f1, f2, f3, f4, f5⟩ := HV.out.appended (by decide) HO.out (by omega) (by omega) hown3 hgrow3; obtain ⟨g3, cap3, rfl⟩ := ownsRow_succ hown3; have hc3 := f1.cell; have hz3 := f1.frozen; have HF2 := Lib.hid f2; have HF3 := Lib.hid f3; have HF4 := Lib.hid f4; have HF5 := Lib.hid f5; clear f1 f2 f3 f4 f5 hgrow3 hown3)
            go_roundw
            case rel => exact ⟨j + 1, by omega, by go_num, _, HF2, by rw [HN.out, HN2.out]; exact HF3, Lib.hid (HK1.out.trans ⟨HF5.out, HF4.out.from 0⟩)⟩
            case measure => simp [intOf]; omega
          · obtain rfl : j = t0.length := by omega
            clear hq
            gi_wp2_with fail
            refine ⟨HK1.out, v1, HV.out, ?_, trivial⟩
            rw [HTP.out]
            exact HO.out
      · rw [if_neg h0, List.append_nil] at HTPx
        obtain ⟨l0, hlp⟩ : ∃ lp, textP t0 (pre.map fun x => x.val) = lp := ⟨_, rfl⟩
        rw [hlp] at hl0 hown HTPx
        have HO0 := Lib.hid hown
        have hl1 : l0.length ≤ 137 := by omega
        have h0' : decide ((0 : Int) < (k : Int)) = false := decide_eq_false (by omega)
        have HTP : Hid (textP t0 ((pre ++ [(⟨k, hlt⟩ : Fin t0.length)]).map fun x => x.val) = l0 ++ rowL (row t0 k) t0.length) := Lib.hid (by rw [HSNx.out, HTPx.out])
        have HV0 := Lib.hid HV.out
        have HKP : Hid (Keeps (w.heap.size + 1) W W) := Lib.hid (Keeps.refl _ _)
        clear hlp hown
        gi_wp2_with fail
        gi_loopw [25] (fun i wr => ∃ j : Nat, j ≤ t0.length ∧ i = .int .i64 (j : Int) ∧ ∃ v, Hid (Boxed wr D 65 v) ∧ Hid (wr.ownsRow (w.heap.size + 1) 5 1 v (l0 ++ rowL (row t0 k) j).length ((l0 ++ rowL (row t0 k) j).map byteV)) ∧ Hid (Keeps (w.heap.size + 1) W wr)) (fun i _ => t0.length - (intOf i).toNat)
        case atStart => exact ⟨0, Nat.zero_le _, rfl, _, HV0, by rw [rowL, List.append_nil]; exact HO0, HKP⟩
        case round =>
          obtain ⟨j, hj, rfl, v1, HV, HO, HK1⟩ := hrel
          have hq := HQW.out.below HK1.out.1 (Nat.le_succ _)
          by_cases hlt2 : j < t0.length
          · have hek := hq.ent_ hlt hlt2
            have hrg := HG.out.rng k hlt j hlt2
            obtain ⟨u, hu⟩ : ∃ u : Nat, nth (row t0 k) j = (u : Int) := ⟨(nth (row t0 k) j).toNat, by have h := hrg.1; unfold ent at h; omega⟩
            have hu8 : u < 8 := by have h := hrg.2; unfold ent at h; omega
            rw [hu] at hek
            have HN : Hid ((l0 ++ rowL (row t0 k) (j + 1)).map byteV = (l0 ++ rowL (row t0 k) j).map byteV ++ [.int .u8 (48 + (u : Int))]) := Lib.hid (by rw [rowL, hu, ← List.append_assoc, List.map_append, show ((u : Int).toNat) = u from rfl, byteV_dec (by omega)])
            have HN2 : Hid ((l0 ++ rowL (row t0 k) (j + 1)).length = (l0 ++ rowL (row t0 k) j).length + 1) := Lib.hid (by rw [rowL, hu, ← List.append_assoc, List.length_append, show ((u : Int).toNat) = u from rfl, decL_one (by omega)])
            have hsz := rowL_len (row t0 k) j
            have hszl : (l0 ++ rowL (row t0 k) j).length ≤ 400 := by rw [List.length_append]; omega
            have hbox := HV.out.cell
            have hzz := HK1.out.size
            have hw1 : IntKind.u8.wrap (u : Int) = (u : Int) := IntWalk.u8_in _ (by omega)
            have hw2 : IntKind.u8.wrap (48 + (u : Int)) = 48 + (u : Int) := IntWalk.u8_in _ (by omega)
            obtain ⟨lx, hlx⟩ : ∃ lx, l0 ++ rowL (row t0 k) j = lx := ⟨_, rfl⟩
            rw [hlx] at HO HN HN2 hszl
            clear hq hu hrg hsz hlx
            gi_wp2_with (gi_at_builtin; refine wpListIn_append_own _ rfl _ _ 65 rfl (w.heap.size + 1) 5 i0 (.int .u8 0) 1 1 Try.underlying65 hi hi0 hi1 hi2 rfl (by decide) _ _ _ rfl (HO.out.alloc _) ⟨wr.heap.size, 0, none⟩ 1 1 [.int .u8 (48 + (u : Int))] rfl rfl (cell_one_new _ _ _) (by simp [Value.oneCell']) (by unfold maxLen; omega) (by omega) (by simp; omega) ?_; intro v' w3 hown3 hgrow3 _; obtain ⟨f1, f2, f3, f4, f5⟩ := HV.out.appended (by decide) HO.out (by omega) (by omega) hown3 hgrow3; obtain ⟨g3, cap3, rfl⟩ := ownsRow_succ hown3; have hc3 := f1.cell; have hz3 := f1.frozen; have HF2 := Lib.hid f2; have HF3 := Lib.hid f3; have HF4 := Lib.hid f4; have HF5 := Lib.hid f5; clear f1 f2 f3 f4 f5 hgrow3 hown3)
            go_roundw
            case rel => exact ⟨j + 1, by omega, by go_num, _, HF2, by rw [HN.out, HN2.out]; exact HF3, Lib.hid (HK1.out.trans ⟨HF5.out, HF4.out.from 0⟩)⟩
            case measure => simp [intOf]; omega
          · obtain rfl : j = t0.length := by omega
            clear hq
            gi_wp2_with fail
            refine ⟨HK1.out, v1, HV.out, ?_, trivial⟩
            rw [HTP.out]
            exact HO.out
    case done =>
      rintro D' xs W hD' rfl ⟨v, bS1, hown, _⟩ hKW hK
      rw [fin_allT, textP_all] at hown
      have hcv := bytes_string W (w.heap.size + 1) v (textL t0 t0.length) hown
      have hbox := bS1.cell
      have HEW := Lib.hid (show Ex w W from HE4.out.trans' hKW.1 (Nat.le_succ _))
      clear bS1 hown hKW
      gi_wp2
      refine ⟨by simp, .inl ⟨_, _, rfl, run_takeDeferred hK, ?_⟩⟩
      exact ⟨_, results_tmp2 rfl _ _ _, by rw [HQ.out.1, HQ.out.2]; rfl, HEW.out.below.trans (belowK_b (w := w) (Nat.le_refl _) W D' _ _ (by omega) hK rfl rfl)⟩
    case stop =>
      rintro D c' pre W hD hpre h
      exact h.elim

theorem implGroupText_ex (t0 : List (List Int)) : ∀ (B0 : Option Addr) (d0 : Nat) (W : World), RwsW W B0 t0 → SmallT t0 →
    Calls Try.prog 22 #[.agg #[.slice B0 t0.length d0]] W fun e W' => e = .returned (.tuple #[.string (qGroupText0 t0), .int .i64 (qGroupText1 t0)]) ∧ Ex W W' :=
  fun B0 d0 W hR hs => implGroupText_any t0 B0 d0 W hR hs

end Go.Proofs.Ytmmgmbgnlcfabaa
