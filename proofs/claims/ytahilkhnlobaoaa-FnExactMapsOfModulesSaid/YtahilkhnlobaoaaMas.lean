/- MapsOfModules, of the specification and of the program. -/
import Derived.Test.YtahilkhnlobaoaaMaq
import Derived.Test.YtahilkhnlobaoaaPrd
namespace Go.Proofs.Ytahilkhnlobaoaa
open Go.RowKit

/-- The maps below k. -/
def mapsL (M N : Nat) (us vs : List Int) (k : Nat) : List Int := ((List.range k).filter fun c => mapB c M N us vs).map fun c : Nat => (c : Int)
theorem mapsL_step {M N : Nat} {us vs : List Int} (k : Nat) : mapsL M N us vs (k + 1) = if mapB k M N us vs = true then mapsL M N us vs k ++ [(k : Int)] else mapsL M N us vs k := by
  unfold mapsL
  rw [List.range_succ, List.filter_append]
  by_cases h : mapB k M N us vs = true
  · rw [if_pos h]
    simp [h]
  · rw [if_neg h]
    simp [h]
theorem mapsL_len (M N : Nat) (us vs : List Int) (k : Nat) : (mapsL M N us vs k).length ≤ k := by
  unfold mapsL
  rw [List.length_map]
  exact Nat.le_trans (List.length_filter_le _ _) (by simp)
theorem mapB_zero (M N : Nat) (us vs : List Int) : mapB 0 M N us vs = true := by simp [mapB]
theorem mapsL_pos {M N : Nat} {us vs : List Int} : ∀ {k : Nat}, 0 < k → 0 < (mapsL M N us vs k).length
  | k + 1, _ => by
    rw [mapsL_step]
    rcases Nat.eq_zero_or_pos k with h | h
    · subst h
      rw [if_pos (mapB_zero _ _ _ _)]
      simp
    · have := mapsL_pos (M := M) (N := N) (us := us) (vs := vs) h
      split
      · simp
      · exact this

/-- The result: none where there is no module. -/
noncomputable def mapsR (t : List (List Int)) (m : Int) (us : List Int) (m' : Int) (vs : List Int) : List Int := if gm2B t m us m' vs = true then mapsL m.toNat m'.toNat us vs m'.toNat else []
theorem mapsR_no {t : List (List Int)} {m m' : Int} {us vs : List Int} (h : gm2B t m us m' vs = false) : mapsR t m us m' vs = [] := by rw [mapsR, h]; rfl
theorem mapsR_yes {t : List (List Int)} {M N : Nat} {us vs : List Int} (h : gm2B t (M : Int) us (N : Int) vs = true) : mapsR t (M : Int) us (N : Int) vs = mapsL M N us vs N := by
  rw [mapsR, if_pos h]
  simp
theorem gm2B_true {t : List (List Int)} {m m' : Int} {us vs : List Int} (h : gm2B t m us m' vs = true) : gmB t m us = true ∧ gmB t m' vs = true := by
  simpa [gm2B] using h
theorem mapsR_small (t : List (List Int)) (m : Int) (us : List Int) (m' : Int) (vs : List Int) : (mapsR t m us m' vs).length ≤ 24 := by
  cases hg : gm2B t m us m' vs with
  | false => rw [mapsR_no hg]; simp
  | true =>
    obtain ⟨h1, h2⟩ := gm2B_true hg
    obtain ⟨_, hm2, hm12, _⟩ := gmB_true h1
    obtain ⟨_, hn2, hn12, _⟩ := gmB_true h2
    obtain ⟨M, rfl⟩ : ∃ M : Nat, m = (M : Int) := ⟨m.toNat, by omega⟩
    obtain ⟨N, rfl⟩ : ∃ N : Nat, m' = (N : Int) := ⟨m'.toNat, by omega⟩
    rw [mapsR_yes hg]
    have := mapsL_len M N us vs N
    omega

/-- A group and two modules have been laid. -/
structure LaidM (w W : World) (A L L' : Option Addr) (n c l c' l' c'' : Nat) (m m' : Int) : Prop where
  below : Below w.heap.size w W
  g : Has W w.heap.size 26 #[.slice A n c]
  a : Has W (w.heap.size + 1) 29 #[.int .i64 m, .slice L l c']
  b : Has W (w.heap.size + 1 + 1) 29 #[.int .i64 m', .slice L' l' c'']
theorem LaidM.mk_ (w : World) (A L L' : Option Addr) (n c l c' l' c'' : Nat) (m m' : Int) :
    LaidM w (((w.alloc (.cells #[.slice A n c] 26)).alloc (.cells #[.int .i64 m, .slice L l c'] 29)).alloc (.cells #[.int .i64 m', .slice L' l' c''] 29)) A L L' n c l c' l' c'' m m' :=
  ⟨(((Below.refl _ _).alloc (Nat.le_refl _) _).alloc (by simp) _).alloc (by simp; omega) _,
    ((Has.new w 26 #[.slice A n c]).alloc _).alloc _,
    (Has.newAt (w := w.alloc (.cells #[.slice A n c] 26)) (e := 29) (cs := #[.int .i64 m, .slice L l c']) (k := w.heap.size + 1) (by simp)).alloc _,
    Has.newAt (w := (w.alloc (.cells #[.slice A n c] 26)).alloc (.cells #[.int .i64 m, .slice L l c'] 29)) (e := 29) (cs := #[.int .i64 m', .slice L' l' c'']) (k := w.heap.size + 1 + 1) (by simp)⟩
theorem LaidM.alloc {w W : World} {A L L' : Option Addr} {n c l c' l' c'' : Nat} {m m' : Int} (h : LaidM w W A L L' n c l c' l' c'' m m') (o : Obj) : LaidM w (W.alloc o) A L L' n c l c' l' c'' m m' :=
  ⟨h.below.alloc h.below.size o, h.g.alloc o, h.a.alloc o, h.b.alloc o⟩

/-- What a module's list reads as. -/
theorem units_cells {w : World} {B : Nat} {L : Option Addr} {us : List Int} {M : Nat} (hX : Ints w B L us) (hu : unitsB (M : Int) us = true) (hpos : 0 < us.length) :
    ∃ b o, L = some ⟨b, o, none⟩ ∧ b < B ∧ (∀ k, k < us.length → w.cell? ⟨b, o + k, none⟩ = some (.int .i64 (im us k : Int))) ∧ ∀ k, k < us.length → im us k < M := by
  have hin : InR M us := by have := units_inR hu (by omega); simpa using this
  rcases hX with hX | ⟨b, o, rfl, hb, hc⟩
  · subst hX
    exact absurd hpos (by simp)
  · exact ⟨b, o, rfl, hb, fun k hk => by rw [hc k hk, (im_eq hin hk).1], fun k hk => (im_eq hin hk).2⟩

set_option maxRecDepth 100000 in
set_option maxHeartbeats 2000000 in
theorem specMapsOfModules_any (A L L' : Option Addr) (t : List (List Int)) (m : Int) (us : List Int) (m' : Int) (vs : List Int) (c c' c'' B B' B'' : Nat) (w : World) (hR : Rws w B A t) (hX : Ints w B' L us) (hY : Ints w B'' L' vs) (hB : B ≤ w.heap.size) (hB' : B' ≤ w.heap.size) (hB'' : B'' ≤ w.heap.size)
    (hn : t.length ≤ 1048576) (hl : ∀ i, i < t.length → (row t i).length ≤ 1048576) (hx : us.length ≤ 1048576) (hy : vs.length ≤ 1048576) :
    Calls Try.prog 72 #[.agg #[.slice A t.length c], .agg #[.int .i64 m, .slice L us.length c'], .agg #[.int .i64 m', .slice L' vs.length c'']] w fun e w' => ∃ A' n', e = .returned (.tuple #[.slice A' (mapsR t m us m' vs).length n', .int .i64 (gm2C t m us m' vs)]) ∧ Below w.heap.size w w' ∧ OwnI w' w.heap.size A' (mapsR t m us m' vs) := by
  have hlaid := (LaidM.mk_ w A L L' t.length c us.length c' vs.length c'' m m').alloc (.cells #[.int .i64 m, .slice L us.length c', .int .i64 m', .slice L' vs.length c''] 29)
  have hb0 := hlaid.below
  have hz0 := hb0.size
  have hkx := Has.newAt (w := (((w.alloc (.cells #[.slice A t.length c] 26)).alloc (.cells #[.int .i64 m, .slice L us.length c'] 29)).alloc (.cells #[.int .i64 m', .slice L' vs.length c''] 29))) (e := 29) (cs := #[.int .i64 m, .slice L us.length c', .int .i64 m', .slice L' vs.length c'']) (k := w.heap.size + 1 + 1 + 1) (by simp)
  have hcon := l02Code2_any A L L' t m m' us vs c c' c'' (w.heap.size + 1 + 1 + 1) B B' B'' _ (hR.below hb0 hB) (hX.below hb0 hB') (hY.below hb0 hB'') hkx (by omega) (by omega) (by omega) hn hl hx hy
  clear hl hkx
  have HLD := Lib.hid hlaid
  have HX := Lib.hid hX
  have HY := Lib.hid hY
  clear hR hX hY hlaid
  cases hg : gm2B t m us m' vs with
  | false =>
    have HP := Lib.hid (mapsR_no hg)
    have HC := Lib.hid (gm2C_no hg)
    rw [gm2C_no hg] at hcon
    have HCON := Lib.hid hcon
    clear hcon hg
    go_enter Try.func72, Try.ntmps72
    go_wp2_with fail
    refine HCON.out.mono ?_
    rintro e W2 ⟨rfl, hb2⟩
    have hbw := hb0.trans (hb2.mono hz0)
    have hlt : w.heap.size < W2.heap.size := Nat.lt_of_lt_of_le HLD.out.g.lt hb2.size
    have hzw := hbw.size
    go_wp2_with fail
    go_ret2
    refine ⟨none, 0, by rw [HP.out, HC.out]; rfl, hbw, ?_⟩
    rw [HP.out]
    exact ⟨w.heap.size, 0, fun h => absurd h (by simp), Nat.le_refl _, hlt, fun j hj => absurd hj (by simp)⟩
  | true =>
    obtain ⟨hg1, hg2⟩ := gm2B_true hg
    rw [gm2C_yes hg] at hcon
    have HCON := Lib.hid hcon
    clear hcon
    obtain ⟨hgr, hm2, hm12, hlen, hun, -⟩ := gmB_true hg1
    obtain ⟨-, hn2, hn12, hlen2, hun2, -⟩ := gmB_true hg2
    have hn8 := hgr.n8
    have hn1 := hgr.n1
    obtain ⟨M, rfl⟩ : ∃ M : Nat, m = (M : Int) := ⟨m.toNat, by omega⟩
    obtain ⟨N, rfl⟩ : ∃ N : Nat, m' = (N : Int) := ⟨m'.toNat, by omega⟩
    have HP := Lib.hid (mapsR_yes hg)
    have HC := Lib.hid (gm2C_yes hg)
    obtain ⟨bx, ox, rfl, hbx, hcx, hux⟩ := units_cells HX.out hun (by omega)
    obtain ⟨by_, oy, rfl, hby, hcy, huy⟩ := units_cells HY.out hun2 (by omega)
    have hvu : vs.length = us.length := by omega
    have hus8 : us.length ≤ 8 := by omega
    have HVU := Lib.hid hvu
    have hMM : M ≤ 12 := by omega
    have hNN : N ≤ 12 := by omega
    have hN0 : 0 < N := by omega
    have HMAP := Lib.hid (fun (W : World) (k : Nat) (hk : k < N) (hb : Below w.heap.size w W) => l02Map_any k M N us vs bx ox by_ oy c' c'' W (fun i hi => (hb.cell (p := ⟨bx, ox + i, none⟩) (by show bx < _; omega)).trans (hcx i hi)) (fun i hi => (hb.cell (p := ⟨by_, oy + i, none⟩) (by show by_ < _; omega)).trans (hcy i (by omega)))
      (by have := hb.size; omega) (by have := hb.size; omega) HVU.out hus8 (by omega) hMM hNN hN0 (fun i hi => by have := hux i hi; omega) (fun i hi => by have := huy i (by omega); omega))
    clear hg hg1 hg2 hgr hm2 hm12 hlen hun hn2 hn12 hlen2 hun2 hcx hux hcy huy HX HY hvu
    obtain ⟨i0, hi, hi0, hi1, hi2⟩ := info_parts infoI
    go_enter Try.func72, Try.ntmps72
    go_wp2_with fail
    refine HCON.out.mono ?_
    rintro e W2 ⟨rfl, hbD⟩
    have hbw := hb0.trans (hbD.mono hz0)
    have H2a := Lib.hid (HLD.out.a.below hbD HLD.out.a.lt)
    have H2b := Lib.hid (HLD.out.b.below hbD HLD.out.b.lt)
    have HBW := Lib.hid hbw
    have hzw := hbw.size
    clear hbD
    have hown0 := own_empty W2 W2.heap.size 2 (Nat.le_refl _)
    have HO0 := Lib.hid hown0
    clear hown0
    go_wp2_with fail
    go_loopw [9, 10] (fun out i wr => ∃ k : Nat, k ≤ N ∧ i = .int .i64 (k : Int) ∧ Hid (wr.ownsRow W2.heap.size 2 1 out (mapsL M N us vs k).length ((mapsL M N us vs k).map fun x => .int .i64 x)) ∧ Hid (Below W2.heap.size W2 wr)) (fun _ i _ => N - (intOf i).toNat)
    case atStart => exact ⟨0, by omega, rfl, HO0, (Below.refl _ _).alloc (Nat.le_refl _) _⟩
    case round =>
      obtain ⟨k, hk, rfl, HOWN, HB⟩ := hrel
      have hzr := HB.out.size
      have ca0 := (H2a.out.below HB.out H2a.out.lt).cell 0
      have ca1 := (H2a.out.below HB.out H2a.out.lt).cell 1
      have cb0 := (H2b.out.below HB.out H2b.out.lt).cell 0
      have cb1 := (H2b.out.below HB.out H2b.out.lt).cell 1
      have hlk := mapsL_len M N us vs k
      by_cases hlt : k < N
      · have hmap := HMAP.out wr k hlt (HBW.out.trans (HB.out.mono hzw))
        have hst := mapsL_step (M := M) (N := N) (us := us) (vs := vs) k
        obtain ⟨bq, hbq⟩ : ∃ b, mapB k M N us vs = b := ⟨_, rfl⟩
        rw [hbq] at hmap hst
        have HCALL := Lib.hid hmap
        clear hmap hbq
        go_wp2_with fail
        refine HCALL.out.mono ?_
        rintro e w1 ⟨rfl, hb1⟩
        have HB1 := Lib.hid (HB.out.trans (hb1.mono hzr))
        have HO1 := Lib.hid (own_below HOWN.out hb1)
        have hz1 := HB1.out.size
        clear hb1 ca0 ca1 cb0 cb1
        cases bq with
        | false =>
          have HST := Lib.hid (show mapsL M N us vs (k + 1) = mapsL M N us vs k by rw [hst]; rfl)
          clear hst
          go_wp2_with fail
          go_roundw
          case rel => exact ⟨k + 1, by omega, by go_num, by rw [HST.out]; exact HO1, HB1⟩
          case measure => simp [intOf]; omega
        | true =>
          have HST := Lib.hid (show mapsL M N us vs (k + 1) = mapsL M N us vs k ++ [(k : Int)] by rw [hst]; rfl)
          clear hst
          go_wp2_with (at_builtin; refine wpList_append_own _ rfl _ _ 27 rfl W2.heap.size 2 i0 (.int .i64 0) 1 8 Try.underlying27 hi hi0 hi1 hi2 rfl (by decide) _ _ _ rfl (HO1.out.alloc _) ⟨w1.heap.size, 0, none⟩ 1 1 [.int .i64 (k : Int)] rfl rfl (cell_one_new _ _ _) (by simp [Value.oneCell']) (by unfold maxLen; omega) (by omega) (by simp; omega) ?_; intro v' w3 hown3 hgrow3 _)
          refine ⟨?rel, ?measure⟩
          case rel =>
            refine ⟨k + 1, by omega, by go_num, ?_, (HB1.out.alloc hz1 _).grown hgrow3 (by simp; omega) (fun k' hk' => (HO1.out.lt k' hk').1)⟩
            rw [HST.out, List.map_append, List.length_append]
            exact hown3
          case measure => simp [intOf]; omega
      · have hkK : k = N := by omega
        subst hkK
        have hown2 := HOWN.out
        have hlp := mapsL_pos (M := M) (N := k) (us := us) (vs := vs) hN0
        have hp : 0 < wr.heap.size := by
          rcases hown2.2 with ⟨_, h0⟩ | ⟨g, cap, cur, _, _, hh, _⟩
          · omega
          · exact Nat.lt_of_le_of_lt (Nat.zero_le _) (Array.getElem?_eq_some_iff.1 hh).1
        obtain ⟨A', n', rfl, hO⟩ := own_ints hown2 rfl hzr hp
        have HO := Lib.hid ((hO (.inr hlp)).mono hzw)
        clear hO hown2 HOWN
        go_wp2_with fail
        go_ret2
        refine ⟨A', n', by rw [HP.out, HC.out]; rfl, HBW.out.trans (HB.out.mono hzw), ?_⟩
        rw [HP.out]
        exact HO.out

set_option maxRecDepth 100000 in
set_option maxHeartbeats 2000000 in
theorem implMapsOfModules_any (A L L' : Option Addr) (t : List (List Int)) (m : Int) (us : List Int) (m' : Int) (vs : List Int) (c c' c'' B B' B'' : Nat) (w : World) (hR : Rws w B A t) (hX : Ints w B' L us) (hY : Ints w B'' L' vs) (hB : B ≤ w.heap.size) (hB' : B' ≤ w.heap.size) (hB'' : B'' ≤ w.heap.size)
    (hn : t.length ≤ 1048576) (hl : ∀ i, i < t.length → (row t i).length ≤ 1048576) (hx : us.length ≤ 1048576) (hy : vs.length ≤ 1048576) :
    Calls Try.prog 28 #[.agg #[.slice A t.length c], .agg #[.int .i64 m, .slice L us.length c'], .agg #[.int .i64 m', .slice L' vs.length c'']] w fun e w' => ∃ A' n', e = .returned (.tuple #[.slice A' (mapsR t m us m' vs).length n', .int .i64 (gm2C t m us m' vs)]) ∧ Below w.heap.size w w' ∧ OwnI w' w.heap.size A' (mapsR t m us m' vs) := by
  have hlaid := LaidM.mk_ w A L L' t.length c us.length c' vs.length c'' m m'
  have hb0 := hlaid.below
  have hz0 := hb0.size
  have hR0 := hR.below hb0 hB
  have hX0 := hX.below hb0 hB'
  have hY0 := hY.below hb0 hB''
  have hcon := isModule_any A L t m us c c' B B' _ hR0 hX0 (by omega) (by omega) hn hl hx
  have hcon2 := fun (W : World) (hb : Below (((w.alloc (.cells #[.slice A t.length c] 26)).alloc (.cells #[.int .i64 m, .slice L us.length c'] 29)).alloc (.cells #[.int .i64 m', .slice L' vs.length c''] 29)).heap.size (((w.alloc (.cells #[.slice A t.length c] 26)).alloc (.cells #[.int .i64 m, .slice L us.length c'] 29)).alloc (.cells #[.int .i64 m', .slice L' vs.length c''] 29)) W) =>
    isModule_any A L' t m' vs c c'' B B'' W (hR0.below hb (by omega)) (hY0.below hb (by omega)) (by have := hb.size; omega) (by have := hb.size; omega) hn hl hy
  clear hl hR0 hX0 hY0
  have HLD := Lib.hid hlaid
  have HX := Lib.hid hX
  have HY := Lib.hid hY
  clear hR hX hY hlaid
  cases hg : gm2B t m us m' vs with
  | false =>
    have HP := Lib.hid (mapsR_no hg)
    have HC := Lib.hid (gm2C_no hg)
    cases hg1 : gmB t m us with
    | false =>
      rw [hg1] at hcon
      have HCON := Lib.hid hcon
      clear hcon hg hg1 hcon2
      go_enter Try.func28, Try.ntmps28
      go_wp2_with fail
      refine HCON.out.mono ?_
      rintro e W2 ⟨rfl, hb2⟩
      have hbw := hb0.trans (hb2.mono hz0)
      have hlt : w.heap.size < W2.heap.size := Nat.lt_of_lt_of_le HLD.out.g.lt hb2.size
      have hzw := hbw.size
      go_wp2_with fail
      go_ret2
      refine ⟨none, 0, by rw [HP.out, HC.out]; rfl, hbw, ?_⟩
      rw [HP.out]
      exact ⟨w.heap.size, 0, fun h => absurd h (by simp), Nat.le_refl _, hlt, fun j hj => absurd hj (by simp)⟩
    | true =>
      have hg2 : gmB t m' vs = false := by
        have := hg
        rw [gm2B, hg1, Bool.true_and] at this
        exact this
      rw [hg1] at hcon
      rw [hg2] at hcon2
      have HCON := Lib.hid hcon
      have HCON2 := Lib.hid hcon2
      clear hcon hcon2 hg hg1 hg2
      go_enter Try.func28, Try.ntmps28
      go_wp2_with fail
      refine HCON.out.mono ?_
      rintro e W1 ⟨rfl, hb1⟩
      have cg := (HLD.out.g.below hb1 HLD.out.g.lt).cell 0
      have cb0 := (HLD.out.b.below hb1 HLD.out.b.lt).cell 0
      have cb1 := (HLD.out.b.below hb1 HLD.out.b.lt).cell 1
      have hz1 := hb1.size
      go_wp2_with fail
      refine (HCON2.out W1 hb1).mono ?_
      rintro e W2 ⟨rfl, hb2⟩
      have hbw := hb0.trans ((hb1.trans (hb2.mono hz1)).mono hz0)
      have hlt : w.heap.size < W2.heap.size := Nat.lt_of_lt_of_le HLD.out.g.lt (hb1.trans (hb2.mono hz1)).size
      clear cg cb0 cb1
      have hzw := hbw.size
      go_wp2_with fail
      go_ret2
      refine ⟨none, 0, by rw [HP.out, HC.out]; rfl, hbw, ?_⟩
      rw [HP.out]
      exact ⟨w.heap.size, 0, fun h => absurd h (by simp), Nat.le_refl _, hlt, fun j hj => absurd hj (by simp)⟩
  | true =>
    obtain ⟨hg1, hg2⟩ := gm2B_true hg
    rw [hg1] at hcon
    rw [hg2] at hcon2
    have HCON := Lib.hid hcon
    have HCON2 := Lib.hid hcon2
    clear hcon hcon2
    obtain ⟨hgr, hm2, hm12, hlen, hun, -⟩ := gmB_true hg1
    obtain ⟨-, hn2, hn12, hlen2, hun2, -⟩ := gmB_true hg2
    have hn8 := hgr.n8
    have hn1 := hgr.n1
    obtain ⟨M, rfl⟩ : ∃ M : Nat, m = (M : Int) := ⟨m.toNat, by omega⟩
    obtain ⟨N, rfl⟩ : ∃ N : Nat, m' = (N : Int) := ⟨m'.toNat, by omega⟩
    have HP := Lib.hid (mapsR_yes hg)
    have HC := Lib.hid (gm2C_yes hg)
    obtain ⟨bx, ox, rfl, hbx, hcx, hux⟩ := units_cells HX.out hun (by omega)
    obtain ⟨by_, oy, rfl, hby, hcy, huy⟩ := units_cells HY.out hun2 (by omega)
    have hvu : vs.length = us.length := by omega
    have hus8 : us.length ≤ 8 := by omega
    have HVU := Lib.hid hvu
    have hMM : M ≤ 12 := by omega
    have hNN : N ≤ 12 := by omega
    have hN0 : 0 < N := by omega
    have HMAP := Lib.hid (fun (W : World) (k : Nat) (hk : k < N) (hb : Below w.heap.size w W) => isMap_any k M N us vs bx ox by_ oy c' c'' W (fun i hi => (hb.cell (p := ⟨bx, ox + i, none⟩) (by show bx < _; omega)).trans (hcx i hi)) (fun i hi => (hb.cell (p := ⟨by_, oy + i, none⟩) (by show by_ < _; omega)).trans (hcy i (by omega)))
      (by have := hb.size; omega) (by have := hb.size; omega) HVU.out hus8 (by omega) hMM hNN hN0 (fun i hi => by have := hux i hi; omega) (fun i hi => by have := huy i (by omega); omega))
    clear hg hg1 hg2 hgr hm2 hm12 hlen hun hn2 hn12 hlen2 hun2 hcx hux hcy huy HX HY hvu
    obtain ⟨i0, hi, hi0, hi1, hi2⟩ := info_parts infoI
    go_enter Try.func28, Try.ntmps28
    go_wp2_with fail
    refine HCON.out.mono ?_
    rintro e W1 ⟨rfl, hb1⟩
    have cg := (HLD.out.g.below hb1 HLD.out.g.lt).cell 0
    have cb0 := (HLD.out.b.below hb1 HLD.out.b.lt).cell 0
    have cb1 := (HLD.out.b.below hb1 HLD.out.b.lt).cell 1
    have hz1 := hb1.size
    go_wp2_with fail
    refine (HCON2.out W1 hb1).mono ?_
    rintro e W2 ⟨rfl, hb2⟩
    have hbD := hb1.trans (hb2.mono hz1)
    have hbw := hb0.trans (hbD.mono hz0)
    clear cg cb0 cb1 hb1 hb2
    have cb0 := (HLD.out.b.below hbD HLD.out.b.lt).cell 0
    have H2a := Lib.hid (HLD.out.a.below hbD HLD.out.a.lt)
    have H2b := Lib.hid (HLD.out.b.below hbD HLD.out.b.lt)
    have HBW := Lib.hid hbw
    have hzw := hbw.size
    clear hbD
    go_wp2_with fail
    clear cb0
    go_loopw [8, 22] (fun out i wr => ∃ k : Nat, k ≤ N ∧ i = .int .i64 (k : Int) ∧ Hid (wr.ownsRow W2.heap.size 2 1 out (mapsL M N us vs k).length ((mapsL M N us vs k).map fun x => .int .i64 x)) ∧ Hid (Below W2.heap.size W2 wr)) (fun _ i _ => N - (intOf i).toNat)
    case atStart => exact ⟨0, by omega, rfl, Lib.hid ⟨rfl, .inl ⟨rfl, rfl⟩⟩, Below.refl _ _⟩
    case round =>
      obtain ⟨k, hk, rfl, HOWN, HB⟩ := hrel
      have hzr := HB.out.size
      have ca0 := (H2a.out.below HB.out H2a.out.lt).cell 0
      have ca1 := (H2a.out.below HB.out H2a.out.lt).cell 1
      have cb0 := (H2b.out.below HB.out H2b.out.lt).cell 0
      have cb1 := (H2b.out.below HB.out H2b.out.lt).cell 1
      have hlk := mapsL_len M N us vs k
      by_cases hlt : k < N
      · have hmap := HMAP.out wr k hlt (HBW.out.trans (HB.out.mono hzw))
        have hst := mapsL_step (M := M) (N := N) (us := us) (vs := vs) k
        obtain ⟨bq, hbq⟩ : ∃ b, mapB k M N us vs = b := ⟨_, rfl⟩
        rw [hbq] at hmap hst
        have HCALL := Lib.hid hmap
        clear hmap hbq
        go_wp2_with fail
        refine HCALL.out.mono ?_
        rintro e w1 ⟨rfl, hb1⟩
        have HB1 := Lib.hid (HB.out.trans (hb1.mono hzr))
        have HO1 := Lib.hid (own_below HOWN.out hb1)
        have hz1 := HB1.out.size
        clear hb1 ca0 ca1 cb0 cb1
        cases bq with
        | false =>
          have HST := Lib.hid (show mapsL M N us vs (k + 1) = mapsL M N us vs k by rw [hst]; rfl)
          clear hst
          go_wp2_with fail
          go_roundw
          case rel => exact ⟨k + 1, by omega, by go_num, by rw [HST.out]; exact HO1, HB1⟩
          case measure => simp [intOf]; omega
        | true =>
          have HST := Lib.hid (show mapsL M N us vs (k + 1) = mapsL M N us vs k ++ [(k : Int)] by rw [hst]; rfl)
          clear hst
          go_wp2_with (at_builtin; refine wpList_append_own _ rfl _ _ 27 rfl W2.heap.size 2 i0 (.int .i64 0) 1 8 Try.underlying27 hi hi0 hi1 hi2 rfl (by decide) _ _ _ rfl (HO1.out.alloc _) ⟨w1.heap.size, 0, none⟩ 1 1 [.int .i64 (k : Int)] rfl rfl (cell_one_new _ _ _) (by simp [Value.oneCell']) (by unfold maxLen; omega) (by omega) (by simp; omega) ?_; intro v' w3 hown3 hgrow3 _)
          refine ⟨?rel, ?measure⟩
          case rel =>
            refine ⟨k + 1, by omega, by go_num, ?_, (HB1.out.alloc hz1 _).grown hgrow3 (by simp; omega) (fun k' hk' => (HO1.out.lt k' hk').1)⟩
            rw [HST.out, List.map_append, List.length_append]
            exact hown3
          case measure => simp [intOf]; omega
      · have hkK : k = N := by omega
        subst hkK
        have hown2 := HOWN.out
        have hlp := mapsL_pos (M := M) (N := k) (us := us) (vs := vs) hN0
        have hp : 0 < wr.heap.size := by
          rcases hown2.2 with ⟨_, h0⟩ | ⟨g, cap, cur, _, _, hh, _⟩
          · omega
          · exact Nat.lt_of_le_of_lt (Nat.zero_le _) (Array.getElem?_eq_some_iff.1 hh).1
        obtain ⟨A', n', rfl, hO⟩ := own_ints hown2 rfl hzr hp
        have HO := Lib.hid ((hO (.inr hlp)).mono hzw)
        clear hO hown2 HOWN
        go_wp2_with fail
        go_ret2
        refine ⟨A', n', by rw [HP.out, HC.out]; rfl, HBW.out.trans (HB.out.mono hzw), ?_⟩
        rw [HP.out]
        exact HO.out

theorem implMapsOfModulesG {t : List (List Int)} {m : Int} {us : List Int} {m' : Int} {vs ys : List Int} {q : Int} (hyy : mapsR t m us m' vs = ys) (hq : gm2C t m us m' vs = q) (A L L' : Option Addr) (c c' c'' B B' B'' : Nat) (w : World) (hR : Rws w B A t) (hX : Ints w B' L us) (hY : Ints w B'' L' vs) (hB : B ≤ w.heap.size) (hB' : B' ≤ w.heap.size) (hB'' : B'' ≤ w.heap.size)
    (hn : t.length ≤ 1048576) (hl : ∀ i, i < t.length → (row t i).length ≤ 1048576) (hx : us.length ≤ 1048576) (hy : vs.length ≤ 1048576) :
    Calls Try.prog 28 #[.agg #[.slice A t.length c], .agg #[.int .i64 m, .slice L us.length c'], .agg #[.int .i64 m', .slice L' vs.length c'']] w fun e w' => ∃ A' n', e = .returned (.tuple #[.slice A' ys.length n', .int .i64 q]) ∧ Below w.heap.size w w' ∧ OwnI w' w.heap.size A' ys := by
  subst hyy
  subst hq
  exact implMapsOfModules_any A L L' t m us m' vs c c' c'' B B' B'' w hR hX hY hB hB' hB'' hn hl hx hy

end Go.Proofs.Ytahilkhnlobaoaa
