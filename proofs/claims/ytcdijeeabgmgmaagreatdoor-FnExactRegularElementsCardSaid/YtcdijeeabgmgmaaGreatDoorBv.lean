/- isCocycle: the program's test. -/
import Derived.Test.YtcdijeeabgmgmaaGreatDoorBu
namespace Go.Proofs.YtcdijeeabgmgmaaGreatDoor
open Go.RowKit Go.Shelf

attribute [local go_sem] Oper.semAt_some

/-- Is the boundary 0 at all lists? -/
noncomputable def cyB (t : List (List Int)) (M n : Nat) (us fs : List Int) : Bool := (List.range (cellsN t.length (n + 1))).all fun k => bdV t M us fs (lsL t.length (n + 1) k) == 0
theorem cyB_true {t : List (List Int)} {M n : Nat} {us fs : List Int} (h : ∀ k, k < cellsN t.length (n + 1) → bdV t M us fs (lsL t.length (n + 1) k) = 0) : cyB t M n us fs = true :=
  List.all_eq_true.2 fun k hk => by simp [h k (List.mem_range.1 hk)]
theorem cyB_false {t : List (List Int)} {M n : Nat} {us fs : List Int} (h : ∃ k, k < cellsN t.length (n + 1) ∧ bdV t M us fs (lsL t.length (n + 1) k) ≠ 0) : cyB t M n us fs = false := by
  obtain ⟨k, hk, hz⟩ := h
  rw [Bool.eq_false_iff]
  intro e
  have := List.all_eq_true.1 e k (List.mem_range.2 hk)
  simp at this
  exact hz this

set_option maxRecDepth 100000 in
set_option maxHeartbeats 4000000 in
theorem isCocycle_any (A U F : Option Addr) (t : List (List Int)) (M n : Nat) (us fs : List Int) (c0 c1 c2 : Nat) (w : World) (hR : RwsW w A t) (hU : IntsW w U us) (hF : IntsW w F fs) (hm : ModF t M us) (hn3 : n ≤ 3) (hfl : fs.length = cellsN t.length n) (hfr : InR M fs) :
    Calls Tryz.prog 138 #[.agg #[.slice A t.length c0], .agg #[.int .i64 (M : Int), .slice U us.length c1], .agg #[.int .i64 (n : Int), .slice F fs.length c2]] w fun e w' => e = .returned (.bool (cyB t M n us fs)) ∧ Ex w w' := by
  have e0 : Ex w ((((((w.alloc (.cells #[.slice A t.length c0] 32)).alloc (.cells #[.int .i64 (M : Int), .slice U us.length c1] 52)).alloc (.cells #[.int .i64 (n : Int), .slice F fs.length c2] 34)).alloc (.cells #[.bool false] 4)).alloc (.cells #[.slice A t.length c0] 32)).alloc (.cells #[.int .i64 ((n : Int) + 1)] 2)) := ((((((Ex.refl w).alloc _).alloc _).alloc _).alloc _).alloc _).alloc _
  have b0 : Has ((((((w.alloc (.cells #[.slice A t.length c0] 32)).alloc (.cells #[.int .i64 (M : Int), .slice U us.length c1] 52)).alloc (.cells #[.int .i64 (n : Int), .slice F fs.length c2] 34)).alloc (.cells #[.bool false] 4)).alloc (.cells #[.slice A t.length c0] 32)).alloc (.cells #[.int .i64 ((n : Int) + 1)] 2)) (w.heap.size) 32 #[.slice A t.length c0] := ((((((Has.newAt (w := w) (e := 32) (cs := #[.slice A t.length c0]) (k := w.heap.size) (by simp)).alloc _).alloc _).alloc _).alloc _).alloc _)
  have b1 : Has ((((((w.alloc (.cells #[.slice A t.length c0] 32)).alloc (.cells #[.int .i64 (M : Int), .slice U us.length c1] 52)).alloc (.cells #[.int .i64 (n : Int), .slice F fs.length c2] 34)).alloc (.cells #[.bool false] 4)).alloc (.cells #[.slice A t.length c0] 32)).alloc (.cells #[.int .i64 ((n : Int) + 1)] 2)) (w.heap.size + 1) 52 #[.int .i64 (M : Int), .slice U us.length c1] := (((((Has.newAt (w := (w.alloc (.cells #[.slice A t.length c0] 32))) (e := 52) (cs := #[.int .i64 (M : Int), .slice U us.length c1]) (k := w.heap.size + 1) (by simp)).alloc _).alloc _).alloc _).alloc _)
  have b2 : Has ((((((w.alloc (.cells #[.slice A t.length c0] 32)).alloc (.cells #[.int .i64 (M : Int), .slice U us.length c1] 52)).alloc (.cells #[.int .i64 (n : Int), .slice F fs.length c2] 34)).alloc (.cells #[.bool false] 4)).alloc (.cells #[.slice A t.length c0] 32)).alloc (.cells #[.int .i64 ((n : Int) + 1)] 2)) (w.heap.size + 1 + 1) 34 #[.int .i64 (n : Int), .slice F fs.length c2] := ((((Has.newAt (w := ((w.alloc (.cells #[.slice A t.length c0] 32)).alloc (.cells #[.int .i64 (M : Int), .slice U us.length c1] 52))) (e := 34) (cs := #[.int .i64 (n : Int), .slice F fs.length c2]) (k := w.heap.size + 1 + 1) (by simp)).alloc _).alloc _).alloc _)
  have b3 : Has ((((((w.alloc (.cells #[.slice A t.length c0] 32)).alloc (.cells #[.int .i64 (M : Int), .slice U us.length c1] 52)).alloc (.cells #[.int .i64 (n : Int), .slice F fs.length c2] 34)).alloc (.cells #[.bool false] 4)).alloc (.cells #[.slice A t.length c0] 32)).alloc (.cells #[.int .i64 ((n : Int) + 1)] 2)) (w.heap.size + 1 + 1 + 1) 4 #[.bool false] := (((Has.newAt (w := (((w.alloc (.cells #[.slice A t.length c0] 32)).alloc (.cells #[.int .i64 (M : Int), .slice U us.length c1] 52)).alloc (.cells #[.int .i64 (n : Int), .slice F fs.length c2] 34))) (e := 4) (cs := #[.bool false]) (k := w.heap.size + 1 + 1 + 1) (by simp)).alloc _).alloc _)
  have b4 : Has ((((((w.alloc (.cells #[.slice A t.length c0] 32)).alloc (.cells #[.int .i64 (M : Int), .slice U us.length c1] 52)).alloc (.cells #[.int .i64 (n : Int), .slice F fs.length c2] 34)).alloc (.cells #[.bool false] 4)).alloc (.cells #[.slice A t.length c0] 32)).alloc (.cells #[.int .i64 ((n : Int) + 1)] 2)) (w.heap.size + 1 + 1 + 1 + 1) 32 #[.slice A t.length c0] := ((Has.newAt (w := ((((w.alloc (.cells #[.slice A t.length c0] 32)).alloc (.cells #[.int .i64 (M : Int), .slice U us.length c1] 52)).alloc (.cells #[.int .i64 (n : Int), .slice F fs.length c2] 34)).alloc (.cells #[.bool false] 4))) (e := 32) (cs := #[.slice A t.length c0]) (k := w.heap.size + 1 + 1 + 1 + 1) (by simp)).alloc _)
  have b5 : Has ((((((w.alloc (.cells #[.slice A t.length c0] 32)).alloc (.cells #[.int .i64 (M : Int), .slice U us.length c1] 52)).alloc (.cells #[.int .i64 (n : Int), .slice F fs.length c2] 34)).alloc (.cells #[.bool false] 4)).alloc (.cells #[.slice A t.length c0] 32)).alloc (.cells #[.int .i64 ((n : Int) + 1)] 2)) (w.heap.size + 1 + 1 + 1 + 1 + 1) 2 #[.int .i64 ((n : Int) + 1)] := (Has.newAt (w := (((((w.alloc (.cells #[.slice A t.length c0] 32)).alloc (.cells #[.int .i64 (M : Int), .slice U us.length c1] 52)).alloc (.cells #[.int .i64 (n : Int), .slice F fs.length c2] 34)).alloc (.cells #[.bool false] 4)).alloc (.cells #[.slice A t.length c0] 32))) (e := 2) (cs := #[.int .i64 ((n : Int) + 1)]) (k := w.heap.size + 1 + 1 + 1 + 1 + 1) (by simp))
  have hN8 := hm.g.n8
  have hN1 := hm.g.n1
  have hLO := fun W => listsOf_any A t.length c0 (n + 1) W
  have hnp : ((n + 1 : Nat) : Int) = (n : Int) + 1 := by omega
  rw [hnp] at hLO
  have HLO := Lib.hid hLO
  have HBA := Lib.hid (fun (L : Option Addr) (k e : Nat) W (he : Ex w W) (hk : k < cellsN t.length (n + 1)) (hX : IntsW W L (lsL t.length (n + 1) k)) (hle : n + 1 ≤ e) => (by
    obtain ⟨bl, ol, rfl, _, _⟩ := hX.ints.at_ (j := 0) (by rw [lsL_len]; omega)
    exact boundaryAt_any A U F bl ol t M n us fs (lsL t.length (n + 1) k) c0 c1 c2 e W (hR.ex he) (hU.ex he) (hF.ex he) hm hX (lsL_in (.inr (cells_p1 hk))) (lsL_len ..) hn3 hle hfl hfr :
    Calls Tryz.prog 151 #[.agg #[.slice A t.length c0], .agg #[.int .i64 (M : Int), .slice U us.length c1], .agg #[.int .i64 (n : Int), .slice F fs.length c2], .slice L (lsL t.length (n + 1) k).length e] W fun e w' => e = .returned (.int .i64 (bdV t M us fs (lsL t.length (n + 1) k))) ∧ Ex W w'))
  have HT := Lib.hid (fun h => cyB_true (t := t) (M := M) (n := n) (us := us) (fs := fs) h)
  have HFA := Lib.hid (fun h => cyB_false (t := t) (M := M) (n := n) (us := us) (fs := fs) h)
  obtain ⟨R, hRe⟩ : ∃ R, cyB t M n us fs = R := ⟨_, rfl⟩
  obtain ⟨f, hf⟩ : ∃ f : Nat → Int, f = fun k => bdV t M us fs (lsL t.length (n + 1) k) := ⟨_, rfl⟩
  have hfk : ∀ k, bdV t M us fs (lsL t.length (n + 1) k) = f k := fun k => by rw [hf]
  simp only [hfk] at HBA HT HFA
  obtain ⟨cn, hcn⟩ : ∃ cn, cellsN t.length (n + 1) = cn := ⟨_, rfl⟩
  rw [hcn] at HBA HT HFA
  rw [hRe] at HT HFA ⊢
  have HCN := Lib.hid hcn
  have HE0 := Lib.hid e0
  clear hR hU hF hm hfl hfr hLO hnp hRe hf hfk hcn e0
  refine (callsIn_wide (n := 20)).1 ?_
  refine callsIn_of_wp_marks Tryz.func138 rfl trivial ?_ rfl
  simp only [Tryz.ntmps138, List.size_toArray, List.length_cons, List.length_nil, Nat.reduceAdd, Nat.reduceSub, Array.replicate_succ, Array.replicate_zero, List.push_toArray, List.append_toArray, List.nil_append, List.cons_append]
  refine wpIn_wide.2 ?_
  go_wp2_with fail
  refine (HLO.out _).mono ?_
  rintro e w' ⟨rfl, rfl⟩
  generalize ((((((w.alloc (.cells #[.slice A t.length c0] 32)).alloc (.cells #[.int .i64 (M : Int), .slice U us.length c1] 52)).alloc (.cells #[.int .i64 (n : Int), .slice F fs.length c2] 34)).alloc (.cells #[.bool false] 4)).alloc (.cells #[.slice A t.length c0] 32)).alloc (.cells #[.int .i64 ((n : Int) + 1)] 2)) = W0 at *
  have hz0 : w.heap.size + 1 + 1 + 1 + 1 + 1 < W0.heap.size := b5.lt
  go_wp2_with fail
  refine (wpIn_wide (n := 20)).1 ?_
  refine range_topP (n := 20) (n₀ := w.heap.size) (R := BoxR (w.heap.size + 1 + 1 + 1 + 1) (w.heap.size + 1 + 1 + 1 + 1 + 1)) BoxR.trans BoxR.put (by omega) (gf := 130) (lb := #[.pointer (some ⟨w.heap.size + 1 + 1 + 1 + 1, 0, none⟩), .pointer (some ⟨w.heap.size + 1 + 1 + 1 + 1 + 1, 0, none⟩)]) rfl (enters_of Tryz.func130 (by kernel_rfl) rfl)
    (lists_stops 19 (by omega) (w.heap.size + 1 + 1 + 1 + 1) (w.heap.size + 1 + 1 + 1 + 1 + 1) w.heap.size t.length c0 (n + 1) cn A W0 b4.lt b5.lt (b4.cell 0) (b5.cell 0) hN8 hN1 (by omega) HCN.out) (by omega) (fun _ => rfl)
    (fun pre W => Hid (∀ x ∈ lsP pre, f x = 0) ∧ Has W (w.heap.size + 1 + 1 + 1) 4 #[.bool false] ∧ Has W w.heap.size 32 #[.slice A t.length c0] ∧ Has W (w.heap.size + 1) 52 #[.int .i64 (M : Int), .slice U us.length c1] ∧ Has W (w.heap.size + 1 + 1) 34 #[.int .i64 (n : Int), .slice F fs.length c2] ∧ Has W (w.heap.size + 1 + 1 + 1 + 1) 32 #[.slice A t.length c0] ∧ Has W (w.heap.size + 1 + 1 + 1 + 1 + 1) 2 #[.int .i64 ((n : Int) + 1)])
    (fun c' _ W => Hid (c' = .ret ∧ ∃ k, k < cn ∧ f k ≠ 0) ∧ Has W (w.heap.size + 1 + 1 + 1) 4 #[.bool false])
    (fun _ _ _ _ ⟨h0, h1, h2, h3, h4, h5, h6⟩ hg hr => have hr' := fun r e => (hr r e).2; ⟨h0, h1.grownR hg hr', h2.grownR hg hr', h3.grownR hg hr', h4.grownR hg hr', h5.grownR hg hr', h6.grownR hg hr'⟩)
    (fun _ _ _ _ _ ⟨h0, h1⟩ hg hr => ⟨h0, h1.grownR hg fun r e => (hr r e).2⟩) (lsP_own t.length (n + 1) cn _)
    ⟨Lib.hid (fun x hx => by cases hx), b3, b0, b1, b2, b4, b5⟩ ?round ?done ?stop
  case round =>
    clear b0 b1 b2 b3 b4 b5
    intro l x W K hK
    have HK := Lib.hid hK
    clear hK
    gi_wp2
    refine HK.out _ ?_
    clear HK
    rintro l pre W hr ⟨HP, bR, bG, bM, bF, bL, bN⟩ hP hKW hlt
    obtain ⟨⟨k, hk⟩, B, e⟩ := x
    dsimp only
    clear hr
    have HBR := Lib.hid bR
    have HBG := Lib.hid bG
    have HBM := Lib.hid bM
    have HBF := Lib.hid bF
    have HBL := Lib.hid bL
    have HBN := Lib.hid bN
    have hEW : Ex w W := HE0.out.trans' hKW.1 (by have := HE0.out.size; omega)
    have hzw : w.heap.size ≤ W.heap.size := hEW.size
    have cG := bG.cell 0
    have cM := bM.cell 0
    have cM' := bM.cell 1
    have cF := bF.cell 0
    have cF' := bF.cell 1
    have HCB := Lib.hid (HBA.out B k e W hEW hk hP.1 hP.2)
    have HSN := Lib.hid (lsP_snoc pre ((⟨k, hk⟩, B, e) : LsE cn))
    clear bR bG bM bF bL bN hP hKW hEW
    by_cases hz : f k = 0
    · have HZ := Lib.hid hz
      rw [hz] at HCB
      clear hz
      gi_wp2_with fail
      refine ⟨trivial, (CallsIn.inRound l (callsIn_wide.2 HCB.out)).mono ?_⟩
      rintro e' W6 ⟨rfl, he6⟩
      have HE6 := Lib.hid he6
      have hk6 : Keeps w.heap.size W W6 := Keeps.of_below he6 hzw
      have HK6 := Lib.hid hk6
      clear he6 hk6 cG cM cM' cF cF'
      gi_wp2_with fail
      show _ ∧ _ ∧ _ ∧ _ ∧ _ ∧ _ ∧ _ ∧ _ ∧ _
      exact ⟨HK6.out, BoxR.ex HE6.out HBL.out.lt HBN.out.lt, Lib.hid (fun y hy => by
        rw [HSN.out] at hy
        rcases List.mem_append.1 hy with h | h
        · exact HP.out y h
        · obtain rfl : y = k := by simpa using h
          exact HZ.out), HBR.out.ex HE6.out, HBG.out.ex HE6.out, HBM.out.ex HE6.out, HBF.out.ex HE6.out, HBL.out.ex HE6.out, HBN.out.ex HE6.out⟩
    · have hzb : (f k != 0) = true := by simpa using hz
      have HZ := Lib.hid hz
      clear hz
      obtain ⟨z, hze⟩ : ∃ z, f k = z := ⟨_, rfl⟩
      rw [hze] at HCB hzb
      clear hze
      gi_wp2_with fail
      refine ⟨trivial, (CallsIn.inRound l (callsIn_wide.2 HCB.out)).mono ?_⟩
      rintro e' W6 ⟨rfl, he6⟩
      have HE6 := Lib.hid he6
      have hk6 : Keeps w.heap.size W W6 := Keeps.of_below he6 hzw
      have HK6 := Lib.hid hk6
      have HR6 := Lib.hid (HBR.out.ex he6)
      have cR := HR6.out.cell 0
      have fR := HR6.out.free 0
      clear he6 hk6 cG cM cM' cF cF'
      gi_wp2_with fail
      exact ⟨HK6.out.setCell (p := ⟨w.heap.size + 1 + 1 + 1, 0, none⟩) (by show w.heap.size ≤ w.heap.size + 1 + 1 + 1; omega) _, Lib.hid ⟨rfl, k, hk, HZ.out⟩, by simpa using HR6.out.put 0 (.bool false)⟩
  case done =>
    rintro D xs W hD hxs ⟨HP, bR, -, -, -, -, -⟩ hKW hK
    have HBR := Lib.hid bR
    have HKW := Lib.hid hKW
    have HKD := Lib.hid hK
    have cR := bR.cell 0
    have fR := bR.free 0
    have HTT := Lib.hid (HT.out fun k hk => HP.out k (by rw [hxs]; exact List.mem_range.2 hk))
    clear b0 b1 b2 b3 b4 b5 bR hKW hK
    simp only [Exit.inBlock, Exit.then]
    go_wp2_with fail
    have hne : w.heap.size + 1 + 1 + 1 ≠ D := by have := HBR.out.lt; intro e; have h1 := HBR.out; have h2 := HKD.out; rw [← e, show W.heap[w.heap.size + 1 + 1 + 1]? = _ from h1] at h2; cases h2
    have hK' : (W.setCell ⟨w.heap.size + 1 + 1 + 1, 0, none⟩ (.bool true)).heap[D]? = some (.deferred (some [])) := (Below.heap_setCell _ _ _ D (fun e => hne e.symm)).trans HKD.out
    refine ⟨by simp, .inl ⟨_, _, rfl, run_takeDeferred hK', ?_⟩⟩
    have hRs : Has (W.setCell ⟨w.heap.size + 1 + 1 + 1, 0, none⟩ (.bool true)) (w.heap.size + 1 + 1 + 1) 4 #[.bool true] := by simpa using HBR.out.put 0 (.bool true)
    have hEs : Ex w (W.setCell ⟨w.heap.size + 1 + 1 + 1, 0, none⟩ (.bool true)) := (HE0.out.trans' HKW.out.1 (by have := HE0.out.size; omega)).setCell (by show w.heap.size ≤ w.heap.size + 1 + 1 + 1; omega) _
    have hg8 := grownBy_putObj' (W.setCell ⟨w.heap.size + 1 + 1 + 1, 0, none⟩ (.bool true)) D (.deferred none)
    have c8 := (hRs.grownR hg8 (fun r e => by cases e; exact ⟨_, hK', rfl⟩)).cell 0
    have hzw := HE0.out.size
    refine ⟨.bool true, by simp [results, Tryz.results138, go_sem, c8], by rw [HTT.out], Below.grown hEs hg8 hEs.size (fun k hk => by cases hk; omega)⟩
  case stop =>
    rintro D c' pre W hD hpre ⟨hx, bR⟩ hKW hK
    obtain ⟨rfl, hx2⟩ := hx.out
    have HBR := Lib.hid bR
    have HKW := Lib.hid hKW
    have HKD := Lib.hid hK
    have HFF := Lib.hid (HFA.out hx2)
    clear b0 b1 b2 b3 b4 b5 bR hKW hK hx hx2
    gi_wp2
    refine ⟨by simp, .inl ⟨_, _, rfl, run_takeDeferred HKD.out, ?_⟩⟩
    have hEs : Ex w W := HE0.out.trans' HKW.out.1 (by have := HE0.out.size; omega)
    have hg8 := grownBy_putObj' W D (.deferred none)
    have c8 := (HBR.out.grownR hg8 (fun r e => by cases e; exact ⟨_, HKD.out, rfl⟩)).cell 0
    have hzw := HE0.out.size
    refine ⟨.bool false, by simp [results, Tryz.results138, go_sem, c8], by rw [HFF.out], Below.grown hEs hg8 hEs.size (fun k hk => by cases hk; omega)⟩

end Go.Proofs.YtcdijeeabgmgmaaGreatDoor
