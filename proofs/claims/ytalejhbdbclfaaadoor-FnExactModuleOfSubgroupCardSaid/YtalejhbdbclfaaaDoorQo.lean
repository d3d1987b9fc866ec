/- Cosets and quotients: the model, the specification's cosets. -/
import Derived.Test.YtalejhbdbclfaaaDoorTb
import Derived.Test.YtalejhbdbclfaaaDoorNr
namespace Go.Proofs.YtalejhbdbclfaaaDoor
open Go.RowKit Go.Shelf

attribute [local go_sem] Oper.semAt_some

/-- The state of the search for cosets: the bits of those met, the numbers of the cosets, their least elements. -/
structure Cos where
  met : Nat
  num : Nat → Nat
  fst : List Nat
def cosIn (t : List (List Int)) (a k : Nat) (c : Nat × (Nat → Nat)) (b : Nat) : Nat × (Nat → Nat) := (c.1 ||| 2 ^ mul t a b, fun x => if x = mul t a b then k else c.2 x)
def cosRow (t : List (List Int)) (a : Nat) (s : Cos) (els : List Nat) : Nat × (Nat → Nat) := els.foldl (cosIn t a s.fst.length) (s.met, s.num)
def cosStep (t : List (List Int)) (els : List Nat) (s : Cos) (a : Nat) : Cos := if s.met.testBit a = true then s else ⟨(cosRow t a s els).1, (cosRow t a s els).2, s.fst ++ [a]⟩
def cosK (t : List (List Int)) (els : List Nat) : Nat → Cos
  | 0 => ⟨0, fun _ => 0, []⟩
  | k + 1 => cosStep t els (cosK t els k) k
theorem cosRow_nil (t : List (List Int)) (a : Nat) (s : Cos) : cosRow t a s [] = (s.met, s.num) := rfl
theorem cosRow_snoc (t : List (List Int)) (a : Nat) (s : Cos) (els : List Nat) (b : Nat) : cosRow t a s (els ++ [b]) = cosIn t a s.fst.length (cosRow t a s els) b := by simp [cosRow, List.foldl_append]
theorem cosStep_old {t : List (List Int)} {els : List Nat} {s : Cos} {a : Nat} (h : s.met.testBit a = true) : cosStep t els s a = s := if_pos h
theorem cosStep_new {t : List (List Int)} {els : List Nat} {s : Cos} {a : Nat} (h : s.met.testBit a = false) : cosStep t els s a = ⟨(cosRow t a s els).1, (cosRow t a s els).2, s.fst ++ [a]⟩ := if_neg (by simp [h])

structure CosB (t : List (List Int)) (k : Nat) (s : Cos) : Prop where
  met : s.met < 2 ^ t.length
  len : s.fst.length ≤ k
  lt : ∀ x ∈ s.fst, x < t.length
  num : ∀ x, s.num x ≤ s.fst.length
theorem cosRow_lt {t : List (List Int)} (hg : IsGrp t) {a : Nat} (ha : a < t.length) (s : Cos) (hs : s.met < 2 ^ t.length) : ∀ els : List Nat, (∀ b ∈ els, b < t.length) → (cosRow t a s els).1 < 2 ^ t.length := by
  intro els hb
  have key : ∀ (els : List Nat) (c : Nat × (Nat → Nat)), c.1 < 2 ^ t.length → (∀ b ∈ els, b < t.length) → (els.foldl (cosIn t a s.fst.length) c).1 < 2 ^ t.length := by
    intro els
    induction els with
    | nil => exact fun c hc _ => hc
    | cons b els ih =>
      intro c hc hb
      exact ih _ (or_lt hc (hg.mul_lt ha (hb b (by simp)))) fun x hx => hb x (by simp [hx])
  exact key els _ hs hb
theorem cosRow_num {t : List (List Int)} {a : Nat} (s : Cos) (hs : ∀ x, s.num x ≤ s.fst.length) (els : List Nat) (x : Nat) : (cosRow t a s els).2 x ≤ s.fst.length := by
  have key : ∀ (els : List Nat) (c : Nat × (Nat → Nat)), (∀ x, c.2 x ≤ s.fst.length) → ∀ x, (els.foldl (cosIn t a s.fst.length) c).2 x ≤ s.fst.length := by
    intro els
    induction els with
    | nil => exact fun c hc => hc
    | cons b els ih =>
      intro c hc
      refine ih _ fun x => ?_
      show (if x = mul t a b then s.fst.length else c.2 x) ≤ _
      split
      · exact Nat.le_refl _
      · exact hc x
  exact key els _ hs x
theorem cosK_b {t : List (List Int)} (hg : IsGrp t) {els : List Nat} (he : ∀ b ∈ els, b < t.length) : ∀ k, k ≤ t.length → CosB t k (cosK t els k)
  | 0, _ => ⟨Nat.two_pow_pos _, Nat.le_refl _, fun x hx => (by cases hx), fun _ => Nat.le_refl _⟩
  | k + 1, hk => by
    have h := cosK_b hg he k (by omega)
    show CosB t (k + 1) (cosStep t els (cosK t els k) k)
    cases hm : (cosK t els k).met.testBit k with
    | true =>
      rw [cosStep_old hm]
      exact ⟨h.met, Nat.le_succ_of_le h.len, h.lt, h.num⟩
    | false =>
      rw [cosStep_new hm]
      refine ⟨cosRow_lt hg (by omega) _ h.met _ he, ?_, ?_, fun x => ?_⟩
      · show (_ ++ [k]).length ≤ _
        have := h.len
        simp
        omega
      · intro x hx
        rcases List.mem_append.1 hx with hx | hx
        · exact h.lt x hx
        · obtain rfl : x = k := by simpa using hx
          omega
      · show _ ≤ (_ ++ [k]).length
        have := cosRow_num (a := k) (t := t) (cosK t els k) h.num els x
        simp
        omega
theorem cosK_mono {t : List (List Int)} {els : List Nat} (k : Nat) : (cosK t els k).fst.length ≤ (cosK t els (k + 1)).fst.length := by
  show _ ≤ (cosStep t els (cosK t els k) k).fst.length
  cases hm : (cosK t els k).met.testBit k with
  | true => rw [cosStep_old hm]; exact Nat.le_refl _
  | false => rw [cosStep_new hm]; simp
theorem cosK_pos {t : List (List Int)} {els : List Nat} : ∀ k, 0 < k → 0 < (cosK t els k).fst.length
  | 1, _ => by
    show 0 < (cosStep t els (cosK t els 0) 0).fst.length
    rw [cosStep_new (by simp [cosK])]
    simp
  | k + 2, _ => Nat.lt_of_lt_of_le (cosK_pos (k + 1) (by omega)) (cosK_mono (k + 1))

/-- The elements of a list of numbers. -/
def elsL (xs : List Int) : List Nat := xs.map fun x => x.toNat
theorem elsL_len (xs : List Int) : (elsL xs).length = xs.length := by simp [elsL]
theorem elsL_take {xs : List Int} {j : Nat} (h : j < xs.length) : (elsL xs).take (j + 1) = (elsL xs).take j ++ [(nth xs j).toNat] := by
  rw [List.take_add_one]
  simp [elsL, nth, h]
theorem elsL_all (xs : List Int) : (elsL xs).take xs.length = elsL xs := by rw [← elsL_len xs, List.take_length]

section
variable {w w' : World} {lo b n : Nat} {v : Value} {xs : List Int} {T : TypeId} {cs : Array Value}
theorem GrowI.setLow (h : GrowI w lo v n xs) (hb : b < lo) (o : Nat) (u : Value) : GrowI (w.setCell ⟨b, o, none⟩ u) lo v n xs :=
  ⟨h.1.kept (grownBy_set w b o u) (.inr fun e => by have := (h.1.lt b e).1; omega), h.2⟩
theorem Has.grewLow (h : Has w b T cs) (hb : b < lo) (ho : GrowI w lo v n xs) (hg : w.grownBy w' v.ownBlock) : Has w' b T cs :=
  (hg.block b h.lt (fun e => by have := (ho.1.lt b e.symm).1; omega)).trans h
end

set_option maxRecDepth 100000 in
set_option maxHeartbeats 8000000 in
theorem l01Cosets_any (A L : Option Addr) (t : List (List Int)) (xs : List Int) (c c' : Nat) (w : World) (hR : RwsW w A t) (hX : IntsW w L xs) (hg : IsGrp t) (hx : xs.length ≤ 1048576) (hr : ∀ i, i < xs.length → 0 ≤ nth xs i ∧ nth xs i < t.length) :
    Calls Tryd.prog 72 #[.agg #[.slice A t.length c], .slice L xs.length c'] w fun e w' => ∃ D v, e = .returned (.tuple #[.slice (some ⟨D, 0, none⟩) t.length t.length, v]) ∧ Ex w w' ∧ w.heap.size ≤ D ∧ Has w' D 2 (tab t.length fun x => .int .i64 ((cosK t (elsL xs) t.length).num x : Int)) ∧ GrowI w' (D + 1) v (cosK t (elsL xs) t.length).fst.length ((cosK t (elsL xs) t.length).fst.map fun x : Nat => (x : Int)) := by
  obtain ⟨i0, hi, hi0, hi1, hi2⟩ := info_parts infoI
  obtain ⟨b, o, bb, oo, C, rfl, hQ⟩ := hR.sq hg
  have hn8 := hg.n8
  have hels : ∀ b ∈ elsL xs, b < t.length := fun b hb => by
    obtain ⟨x, hx, rfl⟩ := List.mem_map.1 hb
    obtain ⟨i, hi, rfl⟩ := List.getElem_of_mem hx
    have h := hr i hi
    rw [show nth xs i = xs[i] by simp [nth, hi]] at h
    omega
  have HCB := Lib.hid (fun k hk => cosK_b hg hels k hk)
  have HRL := Lib.hid (fun a (ha : a < t.length) s (hs : s.met < 2 ^ t.length) j => cosRow_lt hg ha s hs ((elsL xs).take j) (fun b hb => hels b (List.mem_of_mem_take hb)))
  have HTK := Lib.hid (fun j (hj : j < xs.length) => elsL_take hj)
  have HTA := Lib.hid (elsL_all xs)
  have HXN := Lib.hid (fun i (hi : i < xs.length) => (by have := hr i hi; exact ⟨by omega, by omega⟩ : nth xs i = ((nth xs i).toNat : Int) ∧ (nth xs i).toNat < t.length))
  have HEN := Lib.hid (fun x y (hx : x < t.length) (hy : y < t.length) W (he : Ex w W) => (⟨(hQ.ex he).row_ hx, by rw [(hQ.ex he).ent_ hx hy, hg.ent hx hy], hg.mul_lt hx hy⟩ : W.cell? ⟨b, o + x, none⟩ = some (.slice (some ⟨bb x, oo x, none⟩) t.length (C x)) ∧ W.cell? ⟨bb x, oo x + y, none⟩ = some (.int .i64 (mul t x y : Int)) ∧ mul t x y < t.length))
  have HX := Lib.hid (fun W (he : Ex w W) => hX.ex he)
  have e0 : Ex w (w.alloc (.cells #[.slice (some ⟨b, o, none⟩) t.length c] 27)) := (Ex.refl w).alloc _
  have b0 : Has (w.alloc (.cells #[.slice (some ⟨b, o, none⟩) t.length c] 27)) (w.heap.size) 27 #[.slice (some ⟨b, o, none⟩) t.length c] := (Has.newAt (w := w) (e := 27) (cs := #[.slice (some ⟨b, o, none⟩) t.length c]) (k := w.heap.size) (by simp))
  have hmk := makeI t.length (by omega)
  have HE0 := Lib.hid e0
  have HB0 := Lib.hid b0
  clear hR hX hg hr hQ hels
  go_enter Tryd.func72, Tryd.ntmps72
  go_wp2_with fail
  generalize (w.alloc (.cells #[.slice (some ⟨b, o, none⟩) t.length c] 27)) = W0 at *
  refine (l01N_ex (some ⟨b, o, none⟩) t.length c W0 (by omega)).mono ?_
  rintro e W1 ⟨rfl, he1⟩
  obtain ⟨D, hD⟩ : ∃ D, W1.heap.size = D := ⟨_, rfl⟩
  have ea := (Ex.new W1 (.cells (tab t.length fun _ => .int .i64 0) 2)).alloc (.cells #[] 2)
  have HX3 := Lib.hid ((HE0.out.trans he1).trans ea)
  have hbD := (Has.newAt (w := W1) (e := 2) (cs := tab t.length fun _ => .int .i64 0) hD).alloc (.cells #[] 2)
  have HG3 : Hid (GrowI ((W1.alloc (.cells (tab t.length fun _ => .int .i64 0) 2)).alloc (.cells #[] 2)) (D + 1) (.slice (some ⟨D + 1, 0, none⟩) 0 0) 0 []) := Lib.hid (by
    have h := GrowI.empty (lo := D + 1) (W1.alloc (.cells (tab t.length fun _ => .int .i64 0) 2)) (by simp [hD])
    simp only [World.size_alloc, hD] at h
    exact h)
  have HB3 := Lib.hid (HB0.out.ex (he1.trans ea))
  have HD3 := Lib.hid hbD
  have hlD : w.heap.size < D := by have := (HB0.out.ex he1).lt; omega
  clear b0 e0 he1 ea hbD
  go_wp2_with fail
  simp only [hD] at *
  generalize (W1.alloc (.cells (tab t.length fun _ => .int .i64 0) 2)).alloc (.cells #[] 2) = W3 at *
  clear hD hmk
  go_loopw [7, 8, 9] (fun v m i wr => ∃ k : Nat, k ≤ t.length ∧ i = .int .i64 (k : Int) ∧ m = .int .i64 ((cosK t (elsL xs) k).met : Int) ∧ Hid (Ex w wr) ∧ Hid (Has wr w.heap.size 27 #[.slice (some ⟨b, o, none⟩) t.length c]) ∧ Hid (Has wr D 2 (tab t.length fun x => .int .i64 ((cosK t (elsL xs) k).num x : Int))) ∧ Hid (GrowI wr (D + 1) v (cosK t (elsL xs) k).fst.length ((cosK t (elsL xs) k).fst.map fun x : Nat => (x : Int)))) (fun _ _ i _ => t.length - (intOf i).toNat)
  case atStart => exact ⟨0, Nat.zero_le _, rfl, rfl, HX3, HB3, HD3, HG3⟩
  case round =>
    clear HX3 HB3 HD3 HG3
    obtain ⟨k, hk, rfl, rfl, HXr, HBr, HDr, HGr⟩ := hrel
    obtain ⟨wo, rfl⟩ : ∃ x : World, x = wr := ⟨_, rfl⟩
    have c0 := HBr.out.cell 0
    go_wp2_with fail
    refine (l01N_ex (some ⟨b, o, none⟩) t.length c wo (by omega)).mono ?_
    rintro e wn ⟨rfl, hen⟩
    have HXn := Lib.hid (HXr.out.trans hen)
    have HBn := Lib.hid (HBr.out.ex hen)
    have HDn := Lib.hid (HDr.out.ex hen)
    have HGn := Lib.hid (HGr.out.ex hen)
    clear c0 hen HXr HBr HDr HGr
    by_cases hlt : k < t.length
    · have hcb := HCB.out k hk
      have HSO := Lib.hid (fun h => (cosStep_old h : cosStep t (elsL xs) (cosK t (elsL xs) k) k = _))
      have HSN := Lib.hid (fun h => (cosStep_new h : cosStep t (elsL xs) (cosK t (elsL xs) k) k = _))
      have HKS : Hid (cosK t (elsL xs) (k + 1) = cosStep t (elsL xs) (cosK t (elsL xs) k) k) := Lib.hid rfl
      obtain ⟨S, hS⟩ : ∃ S, cosK t (elsL xs) k = S := ⟨_, rfl⟩
      rw [hS] at hcb HSO HSN HKS HDn HGn ⊢
      clear hS
      have hm256 := lt256 hn8 hcb.met
      have hl8 := hcb.len
      have HRK := Lib.hid (fun j => HRL.out k hlt S hcb.met j)
      have hbt := bit_test S.met hm256 k (by omega)
      clear hcb
      cases hq : S.met.testBit k with
      | true =>
        rw [hq] at hbt
        have HST := Lib.hid (HSO.out hq)
        clear hq HSO HSN HRK
        go_wp2_with fail
        go_roundw
        case rel => exact ⟨k + 1, by omega, by go_num, by rw [HKS.out, HST.out], HXn, HBn, by rw [HKS.out, HST.out]; exact HDn, by rw [HKS.out, HST.out]; exact HGn⟩
        case measure => simp [intOf]; omega
      | false =>
        rw [hq] at hbt
        have HST := Lib.hid (HSN.out hq)
        clear hq HSO HSN
        obtain ⟨fl, hfl⟩ : ∃ fl, S.fst.length = fl := ⟨_, rfl⟩
        have HFL := Lib.hid hfl
        rw [hfl] at HGn hl8
        obtain ⟨FA, fc, rfl⟩ := HGn.out.form
        clear hfl
        go_wp2_with fail
        go_loopw [8, 10] (fun m i wr => ∃ j : Nat, j ≤ xs.length ∧ i = .int .i64 (j : Int) ∧ m = .int .i64 ((cosRow t k S ((elsL xs).take j)).1 : Int) ∧ Hid (Ex w wr) ∧ Hid (Has wr w.heap.size 27 #[.slice (some ⟨b, o, none⟩) t.length c]) ∧ Hid (Has wr D 2 (tab t.length fun x => .int .i64 ((cosRow t k S ((elsL xs).take j)).2 x : Int))) ∧ Hid (GrowI wr (D + 1) (.slice FA fl fc) fl (S.fst.map fun x : Nat => (x : Int)))) (fun _ i _ => xs.length - (intOf i).toNat)
        case atStart => exact ⟨0, Nat.zero_le _, rfl, rfl, HXn, HBn, HDn, HGn⟩
        case round =>
          clear HXn HBn HDn HGn
          obtain ⟨j, hj, rfl, rfl, HXj, HBj, HDj, HGj⟩ := hrel
          by_cases hjl : j < xs.length
          · obtain ⟨bx, ox, rfl, hbx, hcx⟩ := (HX.out wr HXj.out).ints.at_ hjl
            obtain ⟨hxn, hxN⟩ := HXN.out j hjl
            have HT1 := Lib.hid (HTK.out j hjl)
            obtain ⟨x, hxe⟩ : ∃ x, (nth xs j).toNat = x := ⟨_, rfl⟩
            rw [hxe] at hxn hxN HT1
            rw [hxn] at hcx
            obtain ⟨he1, he2, hzN⟩ := HEN.out k x hlt hxN wr HXj.out
            have hm256' := lt256 hn8 (HRK.out j)
            have HSN2 := Lib.hid (cosRow_snoc t k S ((elsL xs).take j) x)
            rw [← HT1.out] at HSN2
            obtain ⟨z, hz⟩ : ∃ z, mul t k x = z := ⟨_, rfl⟩
            have HCI : Hid (cosRow t k S ((elsL xs).take (j + 1)) = ((cosRow t k S ((elsL xs).take j)).1 ||| 2 ^ z, fun y => if y = z then fl else (cosRow t k S ((elsL xs).take j)).2 y)) := Lib.hid (by rw [HSN2.out, cosIn, hz, HFL.out])
            rw [hz] at he2 hzN
            obtain ⟨R, hR⟩ : ∃ R, cosRow t k S ((elsL xs).take j) = R := ⟨_, rfl⟩
            rw [hR] at hm256' HCI HDj ⊢
            have hbo := bits_or64 R.1 hm256' z (by omega)
            have HSK := Lib.hid (fun (W : World) (hb : Ex wr W) => (⟨(HBj.out.ex hb).cell 0, (hb.below.cell (p := ⟨b, o + k, none⟩) (World.block_lt_of_cell? _ _ he1)).trans he1, (hb.below.cell (p := ⟨bb k, oo k + x, none⟩) (World.block_lt_of_cell? _ _ he2)).trans he2, (hb.below.cell (p := ⟨bx, ox + j, none⟩) hbx).trans hcx⟩ :
              W.cell? ⟨w.heap.size, 0, none⟩ = some (.slice (some ⟨b, o, none⟩) t.length c) ∧ W.cell? ⟨b, o + k, none⟩ = some (.slice (some ⟨bb k, oo k, none⟩) t.length (C k)) ∧ W.cell? ⟨bb k, oo k + x, none⟩ = some (.int .i64 (z : Int)) ∧ W.cell? ⟨bx, ox + j, none⟩ = some (.int .i64 (x : Int))))
            have hz8 : z < 8 := by omega
            clear hxe hz hR he1 he2 hcx hm256' hxn
            go_wp2_with fail
            refine wp_region_quiet (C := fun w' => Ex wr w') (by kernel_rfl) (by kernel_rfl) (Ex.refl wr).drew ?_
            refine BigFrame.wpQuiet_want (by rfl) fun K hK => ⟨?_, fun w' hC => ?_, hK _ ?_⟩
            rotate_left
            · (obtain ⟨q0, q1, q2, q3⟩ := HSK.out _ hC; go_simp; first | done | with_reducible rfl | exact ⟨rfl, hC⟩)
            clear hK K
            simp only [Act.put, List.setIfInBounds_toArray, List.set_cons_zero, List.set_cons_succ]
            refine BigFrame.wpQuiet_want (by rfl) fun K hK => ⟨?_, fun w' hC => ?_, hK _ ?_⟩
            rotate_left
            · (obtain ⟨q0, q1, q2, q3⟩ := HSK.out _ hC; go_simp; first | done | with_reducible rfl | exact ⟨rfl, hC⟩)
            clear hK K
            simp only [Act.put, List.setIfInBounds_toArray, List.set_cons_zero, List.set_cons_succ]
            refine BigFrame.wpQuiet_want (by rfl) fun K hK => ⟨?_, fun w' hC => ?_, hK _ ?_⟩
            rotate_left
            · (obtain ⟨q0, q1, q2, q3⟩ := HSK.out _ hC; go_simp; first | done | with_reducible rfl | exact ⟨rfl, hC⟩)
            clear hK K
            simp only [Act.put, List.setIfInBounds_toArray, List.set_cons_zero, List.set_cons_succ]
            refine BigFrame.wpQuiet_want (by rfl) fun K hK => ⟨?_, fun w' hC => ?_, hK _ ?_⟩
            rotate_left
            · (obtain ⟨q0, q1, q2, q3⟩ := HSK.out _ hC; go_simp; first | done | with_reducible rfl | exact ⟨rfl, hC⟩)
            clear hK K
            simp only [Act.put, List.setIfInBounds_toArray, List.set_cons_zero, List.set_cons_succ]
            refine BigFrame.wpQuiet_want (by rfl) fun K hK => ⟨?_, fun w' hC => ?_, hK _ ?_⟩
            rotate_left
            · (obtain ⟨q0, q1, q2, q3⟩ := HSK.out _ hC; go_simp; first | done | with_reducible rfl | exact ⟨rfl, hC⟩)
            clear hK K
            simp only [Act.put, List.setIfInBounds_toArray, List.set_cons_zero, List.set_cons_succ]
            refine BigFrame.wpQuiet_want (by rfl) fun K hK => ⟨?_, fun w' hC => ?_, hK _ ?_⟩
            rotate_left
            · (obtain ⟨q0, q1, q2, q3⟩ := HSK.out _ hC; go_simp; first | done | with_reducible rfl | exact ⟨rfl, hC⟩)
            clear hK K
            simp only [Act.put, List.setIfInBounds_toArray, List.set_cons_zero, List.set_cons_succ]
            refine BigFrame.wpQuiet_want (by rfl) fun K hK => ⟨?_, fun w' hC => ?_, hK _ ?_⟩
            rotate_left
            · (obtain ⟨q0, q1, q2, q3⟩ := HSK.out _ hC; go_simp; first | done | with_reducible rfl | exact ⟨rfl, hC⟩)
            clear hK K
            simp only [Act.put, List.setIfInBounds_toArray, List.set_cons_zero, List.set_cons_succ]
            refine BigFrame.wpQuiet_want (by rfl) fun K hK => ⟨?_, fun w' hC => ?_, hK _ ?_⟩
            rotate_left
            · (obtain ⟨q0, q1, q2, q3⟩ := HSK.out _ hC; go_simp; first | done | with_reducible rfl | exact ⟨rfl, hC⟩)
            clear hK K
            simp only [Act.put, List.setIfInBounds_toArray, List.set_cons_zero, List.set_cons_succ]
            refine BigFrame.wpQuiet_want (by rfl) fun K hK => ⟨?_, fun w' hC => ?_, hK _ ?_⟩
            rotate_left
            · (obtain ⟨q0, q1, q2, q3⟩ := HSK.out _ hC; go_simp; first | done | with_reducible rfl | exact ⟨rfl, hC⟩)
            clear hK K
            simp only [Act.put, List.setIfInBounds_toArray, List.set_cons_zero, List.set_cons_succ]
            refine BigFrame.wpQuiet_want (by rfl) fun K hK => ⟨?_, fun w' hC => ?_, hK _ ?_⟩
            rotate_left
            · (obtain ⟨q0, q1, q2, q3⟩ := HSK.out _ hC; go_simp; first | done | with_reducible rfl | exact ⟨rfl, hC⟩)
            clear hK K
            simp only [Act.put, List.setIfInBounds_toArray, List.set_cons_zero, List.set_cons_succ]
            refine BigFrame.wpQuiet_want (by rfl) fun K hK => ⟨?_, fun w' hC => ?_, hK _ ?_⟩
            rotate_left
            · (obtain ⟨q0, q1, q2, q3⟩ := HSK.out _ hC; go_simp; first | done | with_reducible rfl | exact ⟨rfl, hC⟩)
            clear hK K
            simp only [Act.put, List.setIfInBounds_toArray, List.set_cons_zero, List.set_cons_succ]
            refine BigFrame.wpQuiet_want (by rfl) fun K hK => ⟨?_, fun w' hC => ?_, hK _ ?_⟩
            rotate_left
            · (obtain ⟨q0, q1, q2, q3⟩ := HSK.out _ hC; go_simp; first | done | with_reducible rfl | exact ⟨rfl, hC⟩)
            clear hK K
            simp only [Act.put, List.setIfInBounds_toArray, List.set_cons_zero, List.set_cons_succ]
            refine wpQuiet_nil ?_
            intro wa hCa
            have HXa := Lib.hid (HXj.out.trans hCa)
            have HBa := Lib.hid (HBj.out.ex hCa)
            have HDa := Lib.hid (HDj.out.ex hCa)
            have HGa := Lib.hid (HGj.out.ex hCa)
            have cz : wa.cell? ⟨D, z, none⟩ = some (.int .i64 (R.2 z : Int)) := by rw [HDa.out.cell, tab_get hzN]
            have fz := HDa.out.free z
            clear hCa HSK HXj HBj HDj HGj
            go_wp2_with fail
            go_roundw
            case rel =>
              refine ⟨j + 1, by omega, by go_num, by rw [HCI.out], Lib.hid (HXa.out.setCell (p := ⟨D, z, none⟩) (by show w.heap.size ≤ D; omega) _), Lib.hid (HBa.out.far (p := ⟨D, z, none⟩) (by show w.heap.size ≠ D; omega) _), Lib.hid ?_, Lib.hid (HGa.out.setLow (by omega) z _)⟩
              have h := HDa.out.put z (.int .i64 (fl : Int))
              rw [tab_set hzN] at h
              rw [HCI.out]
              refine Eq.mp (congrArg (fun f => Has _ D 2 f) (tab_congr fun y hy => ?_)) h
              by_cases hyz : y = z
              · rw [if_pos hyz]
                dsimp only
                rw [if_pos hyz]
              · rw [if_neg hyz]
                dsimp only
                rw [if_neg hyz]
            case measure => simp [intOf]; omega
          · obtain rfl : j = xs.length := by omega
            rw [HTA.out] at HDj ⊢
            go_wp2_with (at_builtin; refine wpList_append_own _ rfl _ _ 25 rfl (D + 1) 2 i0 (.int .i64 0) 1 8 Tryd.underlying25 hi hi0 hi1 hi2 rfl (by decide) _ _ _ rfl (HGj.out.1.alloc _) ⟨wr.heap.size, 0, none⟩ 1 1 [.int .i64 (k : Int)] rfl rfl (cell_one_new _ _ _) (by simp [Value.oneCell']) (by unfold maxLen; omega) (by omega) (by have := HDj.out.lt; simp; omega) ?_; intro v' w3 hown3 hgrow3 _; have G3 := HGj.out.ex (Ex.new wr (.cells #[.int .i64 (k : Int)] 2)); have HX3 := Lib.hid (Ex.grew (HXj.out.alloc _) G3 (by omega) hgrow3); have HB3 := Lib.hid (Has.grew (HBj.out.alloc _) (by decide) G3 hgrow3); have HD3 := Lib.hid (Has.grewLow (HDj.out.alloc _) (by omega) G3 hgrow3); have HG3 := Lib.hid (G3.snoc hown3); clear hown3 hgrow3 G3)
            go_roundw
            case rel => exact ⟨k + 1, by omega, by go_num, by rw [HKS.out, HST.out], HX3, HB3, by rw [HKS.out, HST.out]; exact HD3, by rw [HKS.out, HST.out, List.length_append, HFL.out, List.map_append]; exact HG3⟩
            case measure => simp [intOf]; omega
    · obtain rfl : k = t.length := by omega
      go_wp2_with fail
      go_ret2
      exact ⟨D, _, rfl, HXn.out, by omega, HDn.out, HGn.out⟩

end Go.Proofs.YtalejhbdbclfaaaDoor
