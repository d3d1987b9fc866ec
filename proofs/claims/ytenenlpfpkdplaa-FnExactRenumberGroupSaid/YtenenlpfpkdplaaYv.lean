/- Copies of tables, by the specification. -/
import Derived.Test.YtenenlpfpkdplaaRn
namespace Go.Proofs.Ytenenlpfpkdplaa
open Go.RowKit Go.Shelf

attribute [local go_sem] Oper.semAt_some

set_option maxRecDepth 100000 in
set_option maxHeartbeats 2000000 in
theorem l01Own_any (L : Option Addr) (xs : List Int) (c : Nat) (w : World) (hX : IntsW w L xs) (hx : xs.length ≤ 1048576) (hp : 0 < xs.length) :
    Calls Try.prog 76 #[.slice L xs.length c] w fun e w' => ∃ (C : Option Addr) (k : Nat), e = .returned (.slice C xs.length k) ∧ Ex w w' ∧ GrowI w' w.heap.size (.slice C xs.length k) xs.length xs := by
  obtain ⟨i0, hi, hi0, hi1, hi2⟩ := info_parts infoI
  obtain ⟨b, o, rfl, -, -⟩ := hX.ints.at_ hp
  have HNW := Lib.hid (fun W (he : Ex w W) (j : Nat) (u : Value) (h : (xs.map fun x => Value.int .i64 x)[j]? = some u) => (by
    have hj : j < xs.length := by
      have := (List.getElem?_eq_some_iff.1 h).1
      simpa using this
    obtain ⟨b', o', e, hb, hc⟩ := (hX.ex he).ints.at_ hj
    cases e
    rw [List.getElem?_map, show xs[j]? = some (nth xs j) by simp [nth, hj]] at h
    cases h
    rw [Addr.add_lit]
    exact hc : W.cell? ((⟨b, o, none⟩ : Addr).add j) = some u))
  have HE0 := Lib.hid (Ex.new w (.cells #[] 2))
  have HG0 := Lib.hid (GrowI.empty (lo := w.heap.size) w (Nat.le_refl _))
  clear hX
  go_enter Try.func76, Try.ntmps76
  go_wp2_with (at_builtin; refine wpList_append_own _ rfl _ _ 26 rfl w.heap.size 2 i0 (.int .i64 0) 1 8 Try.underlying26 hi hi0 hi1 hi2 rfl (by decide) _ _ _ rfl HG0.out.1 ⟨b, o, none⟩ xs.length c (xs.map fun x => .int .i64 x) rfl (by simp) (HNW.out _ HE0.out) (by intro u hu; obtain ⟨x, _, rfl⟩ := List.mem_map.1 hu; rfl) (by unfold maxLen; omega) (by omega) (by simp) ?_; intro v' w3 hown3 hgrow3 _; have HX3 := Lib.hid (Ex.grew HE0.out HG0.out (Nat.le_refl _) hgrow3); have HG3 : Hid (GrowI w3 w.heap.size v' xs.length xs) := Lib.hid ⟨by simpa using hown3, rfl⟩; clear hown3 hgrow3)
  go_ret
  obtain ⟨A, k, rfl⟩ := HG3.out.form
  exact ⟨A, k, rfl, HX3.out, HG3.out⟩

set_option maxRecDepth 100000 in
set_option maxHeartbeats 8000000 in
theorem l01Copy_any (A : Option Addr) (t : List (List Int)) (c : Nat) (w : World) (hR : RwsW w A t) (hg : IsGrp t) :
    Calls Try.prog 58 #[.agg #[.slice A t.length c]] w fun e w' => ∃ (C : Option Addr) (k : Nat), e = .returned (.agg #[.slice C t.length k]) ∧ Ex w w' ∧ GrowT w' w.heap.size (.slice C t.length k) t.length t.length (fun x y => nth (row t x) y) := by
  obtain ⟨iS, gi, gi0, gi1, gi2⟩ := info_parts infoS
  obtain ⟨b, o, bb, oo, C, rfl, hQ⟩ := hR.sq hg
  have hn8 := hg.n8
  have hn1 := hg.n1
  have HROW := Lib.hid (fun x (hx : x < t.length) W (he : Ex w W) => (hQ.ex he).row_ hx)
  have HOWN := Lib.hid (fun x (hx : x < t.length) W (he : Ex w W) => (by
    have hl := hg.sq x hx
    have hq := hQ.ex he
    have hri : IntsW W (some ⟨bb x, oo x, none⟩) (row t x) := .inr ⟨bb x, oo x, rfl, Nat.lt_of_lt_of_le (hQ.2 x hx).2.1 he.size, fun j hj => hq.ent_ hx (by rw [hl] at hj; exact hj)⟩
    have h := l01Own_any _ (row t x) (C x) W hri (by omega) (by omega)
    rw [hl] at h
    exact h : Calls Try.prog 76 #[.slice (some ⟨bb x, oo x, none⟩) t.length (C x)] W fun e w' => ∃ (C : Option Addr) (k : Nat), e = .returned (.slice C t.length k) ∧ Ex W w' ∧ GrowI w' W.heap.size (.slice C t.length k) t.length (row t x)))
  have HRL := Lib.hid (fun x (hx : x < t.length) => hg.sq x hx)
  have e0 : Ex w ((w.alloc (.cells #[.slice (some ⟨b, o, none⟩) t.length c] 29)).alloc (.cells #[.slice none 0 0] 29)) := ((Ex.refl w).alloc _).alloc _
  have b0 : Has ((w.alloc (.cells #[.slice (some ⟨b, o, none⟩) t.length c] 29)).alloc (.cells #[.slice none 0 0] 29)) (w.heap.size) 29 #[.slice (some ⟨b, o, none⟩) t.length c] := ((Has.newAt (w := w) (e := 29) (cs := #[.slice (some ⟨b, o, none⟩) t.length c]) (k := w.heap.size) (by simp)).alloc _)
  have b1 : Has ((w.alloc (.cells #[.slice (some ⟨b, o, none⟩) t.length c] 29)).alloc (.cells #[.slice none 0 0] 29)) (w.heap.size + 1) 29 #[.slice none 0 0] := (Has.newAt (w := (w.alloc (.cells #[.slice (some ⟨b, o, none⟩) t.length c] 29))) (e := 29) (cs := #[.slice none 0 0]) (k := w.heap.size + 1) (by simp))
  obtain ⟨p, hp⟩ : ∃ p, w.heap.size = p := ⟨_, rfl⟩
  have HP := Lib.hid hp
  rw [hp] at b0 b1 ⊢
  have hz : ((w.alloc (.cells #[.slice (some ⟨b, o, none⟩) t.length c] 29)).alloc (.cells #[.slice none 0 0] 29)).heap.size = p + 1 + 1 := by simp [hp]
  clear hR hg hQ
  go_enter Try.func58, Try.ntmps58
  go_wp2_with fail
  generalize ((w.alloc (.cells #[.slice (some ⟨b, o, none⟩) t.length c] 29)).alloc (.cells #[.slice none 0 0] 29)) = W0 at *
  have ea := (Ex.new W0 (.cells #[] 26)).alloc (.cells #[.slice (some ⟨p + 1 + 1, 0, none⟩) 0 0] 29)
  have HX0 := Lib.hid (e0.trans ea)
  have HA0 := Lib.hid (b0.ex ea)
  have HR0 := Lib.hid (b1.ex ea)
  have HB0 : Hid (Has ((W0.alloc (.cells #[] 26)).alloc (.cells #[.slice (some ⟨p + 1 + 1, 0, none⟩) 0 0] 29)) (p + 1 + 1 + 1) 29 #[.slice (some ⟨p + 1 + 1, 0, none⟩) 0 0]) := Lib.hid (Has.newAt (by simp [hz]))
  have HG0 : Hid (GrowT ((W0.alloc (.cells #[] 26)).alloc (.cells #[.slice (some ⟨p + 1 + 1, 0, none⟩) 0 0] 29)) p (.slice (some ⟨p + 1 + 1, 0, none⟩) 0 0) 0 t.length fun x y => nth (row t x) y) := Lib.hid (by
    have h := GrowT.empty (lo := p) W0 t.length (fun x y => nth (row t x) y) (by omega)
    rw [hz] at h
    exact h.ex (Ex.new _ _))
  clear b0 b1 e0 ea
  generalize (W0.alloc (.cells #[] 26)).alloc (.cells #[.slice (some ⟨p + 1 + 1, 0, none⟩) 0 0] 29) = W1 at *
  go_loopw [4] (fun i wr => ∃ (k : Nat) (v : Value), k ≤ t.length ∧ i = .int .i64 (k : Int) ∧ Hid (Ex w wr) ∧ Hid (Has wr p 29 #[.slice (some ⟨b, o, none⟩) t.length c]) ∧ Hid (Has wr (p + 1) 29 #[.slice none 0 0]) ∧ Hid (Has wr (p + 1 + 1 + 1) 29 #[v]) ∧ Hid (GrowT wr p v k t.length fun x y => nth (row t x) y)) (fun i _ => t.length - (intOf i).toNat)
  case atStart => exact ⟨0, _, Nat.zero_le _, rfl, HX0, HA0, HR0, HB0, HG0⟩
  case round =>
    clear HX0 HA0 HR0 HB0 HG0
    obtain ⟨k, v, hk, rfl, HX, HA, HR, HB, HG⟩ := hrel
    obtain ⟨A, cA, rfl, -⟩ := HG.out.own
    have cA0 := HA.out.cell 0
    by_cases hlt : k < t.length
    · have hxd := (Ex.refl wr).drew
      obtain ⟨G, CC, hown, hrows⟩ := HG.out
      have HOW := Lib.hid hown
      have HRO := Lib.hid hrows
      have hrow := HROW.out k hlt wr HX.out
      have HC := Lib.hid (fun W (he : Ex wr W) => (⟨(HA.out.ex he).cell 0, (HB.out.ex he).cell 0, HROW.out k hlt W (HX.out.trans he)⟩ : W.cell? ⟨p, 0, none⟩ = some (.slice (some ⟨b, o, none⟩) t.length c) ∧ W.cell? ⟨p + 1 + 1 + 1, 0, none⟩ = some (.slice A k cA) ∧ W.cell? ⟨b, o + k, none⟩ = some (.slice (some ⟨bb k, oo k, none⟩) t.length (C k))))
      clear hown hrows hrow
      go_wp2_with fail
      have hC0 := And.intro (HX.out.trans hxd) (HC.out _ hxd)
      refine Late.region (C := fun W => Ex w W ∧ (W.cell? ⟨p, 0, none⟩ = some (.slice (some ⟨b, o, none⟩) t.length c) ∧ W.cell? ⟨p + 1 + 1 + 1, 0, none⟩ = some (.slice A k cA) ∧ W.cell? ⟨b, o + k, none⟩ = some (.slice (some ⟨bb k, oo k, none⟩) t.length (C k)))) (fun j => j != 11) (by kernel_rfl) hC0 (fun hC => ?_)
      refine Late.take (i := 0) (oi := _) (v := ?_) rfl (by kernel_rfl) (by kernel_rfl) (by kernel_rfl) (by kernel_rfl) (fun _ _ _ h => h) (Or.inl ⟨by rfl, ?_⟩) hC ?_
      rotate_left
      · (intro w hSw; (try dsimp only at hSw); go_simp; first | done | with_reducible rfl)
      simp only [Act.put]
      refine Late.take (i := 1) (oi := _) (v := ?_) rfl (by kernel_rfl) (by kernel_rfl) (by kernel_rfl) (by kernel_rfl) (fun _ _ _ h => h) (Or.inl ⟨by rfl, ?_⟩) hC ?_
      rotate_left
      · (intro w hSw; (try dsimp only at hSw); go_simp; first | done | with_reducible rfl)
      simp only [Act.put]
      refine Late.take (i := 2) (oi := _) (v := ?_) rfl (by kernel_rfl) (by kernel_rfl) (by kernel_rfl) (by kernel_rfl) (fun _ _ _ h => h) (Or.inl ⟨by rfl, ?_⟩) hC ?_
      rotate_left
      · (intro w hSw; (try dsimp only at hSw); go_simp; first | done | with_reducible rfl)
      simp only [Act.put]
      refine Late.take (i := 3) (oi := _) (v := ?_) rfl (by kernel_rfl) (by kernel_rfl) (by kernel_rfl) (by kernel_rfl) (fun _ _ _ h => h) (Or.inl ⟨by rfl, ?_⟩) hC ?_
      rotate_left
      · (intro w hSw; (try dsimp only at hSw); go_simp; first | done | with_reducible rfl)
      simp only [Act.put]
      refine Late.take (i := 4) (oi := _) (v := ?_) rfl (by kernel_rfl) (by kernel_rfl) (by kernel_rfl) (by kernel_rfl) (fun _ _ _ h => h) (Or.inl ⟨by rfl, ?_⟩) hC ?_
      rotate_left
      · (intro w hSw; (try dsimp only at hSw); go_simp; first | done | with_reducible rfl)
      simp only [Act.put]
      refine Late.take (i := 5) (oi := _) (v := ?_) rfl (by kernel_rfl) (by kernel_rfl) (by kernel_rfl) (by kernel_rfl) (fun _ _ _ h => h) (Or.inl ⟨by rfl, ?_⟩) hC ?_
      rotate_left
      · (intro w hSw; (try dsimp only at hSw); go_simp; first | done | with_reducible rfl)
      simp only [Act.put]
      refine Late.take (i := 6) (oi := _) (v := ?_) rfl (by kernel_rfl) (by kernel_rfl) (by kernel_rfl) (by kernel_rfl) (fun _ _ _ h => h) (Or.inl ⟨by rfl, ?_⟩) hC ?_
      rotate_left
      · (intro w hSw; (try dsimp only at hSw); go_simp; first | done | with_reducible rfl)
      simp only [Act.put]
      refine Late.one (i := 7) (o := _) (by kernel_rfl) rfl (fun K' hK' => ?_)
      rw [if_pos (by rfl)]
      go_simp
      refine (HOWN.out k hlt _ (HX.out.trans hxd)).mono ?_
      rintro e w1 ⟨A', c', rfl, hew1, hgi⟩
      have hex1 : Ex wr w1 := hxd.trans hew1
      have hdz := hxd.size
      obtain ⟨g, cg, cs, hv, hlo, hnc, hhas, hget⟩ := row_block hgi.1 hn1
      obtain ⟨rfl, rfl⟩ : A' = some ⟨g, 0, none⟩ ∧ c' = cg := by simpa using hv
      refine hK'.out _ _ (fun _ => ⟨HX.out.trans hex1, HC.out _ hex1⟩) (fun _ => ?_)
      clear hK' K'
      try simp only [Act.put]
      refine Late.one (i := 8) (o := _) (by kernel_rfl) rfl (fun K' hK' => ?_)
      go_simp
      have hx2 := Ex.new w1 (.cells #[.slice (some ⟨g, 0, none⟩) t.length c'] 26)
      have e2 := hex1.trans hx2
      have bA2 := HA.out.ex e2
      have bR2 := HR.out.ex e2
      have bB2 := HB.out.ex e2
      have hh2 := hhas.ex hx2
      have hn2 := cell_one_new w1 (.slice (some ⟨g, 0, none⟩) t.length c') 26
      have hz2 := hx2.size
      have hp2 := hex1.size
      have hrl := HRL.out k hlt
      have ho := own_below HOW.out e2
      have hrm := HRO.out.ex e2
      have hGx : ∀ i, i < k → G i ≠ g := fun i hi => by
        have := HRO.out.lt hi
        omega
      have hpr : p ≤ wr.heap.size := by have := HA.out.lt; omega
      refine hK'.out _ _ (fun _ => ⟨HX.out.trans e2, HC.out _ e2⟩) (fun _ => ?_)
      clear hK' K' hgi hew1
      generalize w1.alloc (.cells #[.slice (some ⟨g, 0, none⟩) t.length c'] 26) = w2 at *
      try simp only [Act.put]
      refine Late.one (i := 9) (o := _) (by kernel_rfl) rfl (fun K' hK' => ?_)
      rw [if_pos (by rfl)]
      refine wp_append_own _ _ _ 22 rfl p 26 iS (.slice none 0 0) 1 24 Try.underlying22 gi gi0 gi1 gi2 rfl (by decide) _ _ _ rfl ho ⟨w1.heap.size, 0, none⟩ 1 1 [.slice (some ⟨g, 0, none⟩) t.length c'] rfl rfl hn2 (by simp [Value.oneCell']) (by unfold maxLen; omega) (by omega) (by omega) ?_
      intro v' w3 hown3 hgrow3 _
      have hE3 : Ex w w3 := Ex.grewR (HX.out.trans e2) ho (by have := HP.out; omega) hgrow3
      have HA3 := Lib.hid (bA2.grewR (by decide) ho hgrow3)
      have HR3 := Lib.hid (bR2.grewR (by decide) ho hgrow3)
      have HB3 := Lib.hid (bB2.grewR (by decide) ho hgrow3)
      have HG3 := Lib.hid (GrowT.push (V := fun x y => nth (row t x) y) ho hrm (by omega) hh2 (fun j hj => by rw [hget j hj]; simp [nth, hrl, hj]) hGx hgrow3 hown3)
      have HE3 := Lib.hid hE3
      obtain ⟨g3, cap3, rfl⟩ := ownsRow_succ hown3
      refine hK'.out _ _ (fun _ => ⟨hE3, HA3.out.cell 0, HB3.out.cell 0, HROW.out k hlt _ hE3⟩) (fun _ => ?_)
      clear hK' K' hown3 hgrow3 ho hrm bA2 bR2 bB2 hh2 hn2 hE3 hGx hget hhas e2 hex1 hx2 hC hC0
      try simp only [Act.put]
      have c5 := HB3.out.cell 0
      have f5 := HB3.out.free 0
      refine Late.one (i := 10) (o := _) (by kernel_rfl) rfl (fun K' hK' => ?_)
      go_simp
      refine hK'.out _ _ (fun _ => ⟨HE3.out, HA3.out.cell 0, HB3.out.cell 0, HROW.out k hlt _ HE3.out⟩) (fun _ => ?_)
      clear hK' K'
      try simp only [Act.put]
      refine Late.one (i := 11) (o := _) (by kernel_rfl) rfl (fun K' hK' => ?_)
      go_simp
      refine hK'.out _ _ (fun h => by cases h) (fun _ => ?_)
      clear hK' K'
      refine Late.done (by kernel_rfl) ?_ _
      go_wp2_with fail
      go_roundw
      case rel => exact ⟨k + 1, _, by omega, by go_num, Lib.hid (HE3.out.setCell (p := ⟨p + 1 + 1 + 1, 0, none⟩) (by have := HP.out; show w.heap.size ≤ p + 1 + 1 + 1; omega) _), Lib.hid (HA3.out.far (p := ⟨p + 1 + 1 + 1, 0, none⟩) (by show p ≠ p + 1 + 1 + 1; omega) _), Lib.hid (HR3.out.far (p := ⟨p + 1 + 1 + 1, 0, none⟩) (by show p + 1 ≠ p + 1 + 1 + 1; omega) _), Lib.hid HB3.out.put1, Lib.hid (HG3.out.set HB3.out (by decide) (by decide) 0 _)⟩
      case measure => simp [intOf]; omega
    · obtain rfl : k = t.length := by omega
      have cr := HR.out.cell 0
      have fr := HR.out.free 0
      have cb := HB.out.cell 0
      go_wp2_with fail
      have H4 := HR.out.put1 (v := .slice A t.length cA)
      have c4 := H4.cell 0
      exact bodyPost_ret (v := .agg #[.slice A t.length cA]) (by simp [results, Try.results58, go_sem, c4]) rfl ⟨A, cA, rfl, HX.out.setCell (p := ⟨p + 1, 0, none⟩) (by have := HP.out; show w.heap.size ≤ p + 1; omega) _, HG.out.set HR.out (by decide) (by decide) 0 _⟩

end Go.Proofs.Ytenenlpfpkdplaa
