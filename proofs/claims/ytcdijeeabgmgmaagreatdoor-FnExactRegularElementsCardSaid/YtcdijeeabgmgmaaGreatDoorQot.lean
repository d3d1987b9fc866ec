/- Qo Qp Qq Qr in one text. -/
import Derived.Test.YtcdijeeabgmgmaaGreatDoorTb
import Derived.Test.YtcdijeeabgmgmaaGreatDoorNrm
import Derived.Test.YtcdijeeabgmgmaaGreatDoorGw
import Derived.Test.YtcdijeeabgmgmaaGreatDoorNks
/- Cosets and quotients: the model, the specification's cosets. -/
namespace Go.Proofs.YtcdijeeabgmgmaaGreatDoor
open Go.RowKit Go.Shelf

attribute [local go_sem] Oper.semAt_some

/-- The state of the search for cosets: the bits of those met, the numbers of the cosets, their least elements. -/
structure Cos where
  met : Nat
  num : Nat → Nat
  fst : List Nat
def cosIn (t : List (List Int)) (a k : Nat) (c : Nat × (Nat → Nat)) (b : Nat) : Nat × (Nat → Nat) := (c.1 ||| 2 ^ mul t a b, fun x => if x = mul t a b then k else c.2 x)
def cosRow (t : List (List Int)) (a : Nat) (s : Cos) (els : List Nat) : Nat × (Nat → Nat) := els.foldl (cosIn t a s.fst.length) (s.met, s.num)
def cosStep (t : List (List Int)) (els : List Nat) (s : Cos) (a : Nat) : Cos := if s.met.testBit a = true then s else ⟨(cosRow t a s els).1, (cosRow t a s els).2, s.fst ++ [a]⟩
def cosK (t : List (List Int)) (els : List Nat) : Nat → Cos
  | 0 => ⟨0, fun _ => 0, []⟩
  | k + 1 => cosStep t els (cosK t els k) k
theorem cosRow_nil (t : List (List Int)) (a : Nat) (s : Cos) : cosRow t a s [] = (s.met, s.num) := rfl
theorem cosRow_snoc (t : List (List Int)) (a : Nat) (s : Cos) (els : List Nat) (b : Nat) : cosRow t a s (els ++ [b]) = cosIn t a s.fst.length (cosRow t a s els) b := by simp [cosRow, List.foldl_append]
theorem cosStep_old {t : List (List Int)} {els : List Nat} {s : Cos} {a : Nat} (h : s.met.testBit a = true) : cosStep t els s a = s := if_pos h
theorem cosStep_new {t : List (List Int)} {els : List Nat} {s : Cos} {a : Nat} (h : s.met.testBit a = false) : cosStep t els s a = ⟨(cosRow t a s els).1, (cosRow t a s els).2, s.fst ++ [a]⟩ := if_neg (by simp [h])

structure CosB (t : List (List Int)) (k : Nat) (s : Cos) : Prop where
  met : s.met < 2 ^ t.length
  len : s.fst.length ≤ k
  lt : ∀ x ∈ s.fst, x < t.length
  num : ∀ x, s.num x ≤ s.fst.length
theorem cosRow_lt {t : List (List Int)} (hg : IsGrp t) {a : Nat} (ha : a < t.length) (s : Cos) (hs : s.met < 2 ^ t.length) : ∀ els : List Nat, (∀ b ∈ els, b < t.length) → (cosRow t a s els).1 < 2 ^ t.length := by
  intro els hb
  have key : ∀ (els : List Nat) (c : Nat × (Nat → Nat)), c.1 < 2 ^ t.length → (∀ b ∈ els, b < t.length) → (els.foldl (cosIn t a s.fst.length) c).1 < 2 ^ t.length := by
    intro els
    induction els with
    | nil => exact fun c hc _ => hc
    | cons b els ih =>
      intro c hc hb
      exact ih _ (or_lt hc (hg.mul_lt ha (hb b (by simp)))) fun x hx => hb x (by simp [hx])
  exact key els _ hs hb
theorem cosRow_num {t : List (List Int)} {a : Nat} (s : Cos) (hs : ∀ x, s.num x ≤ s.fst.length) (els : List Nat) (x : Nat) : (cosRow t a s els).2 x ≤ s.fst.length := by
  have key : ∀ (els : List Nat) (c : Nat × (Nat → Nat)), (∀ x, c.2 x ≤ s.fst.length) → ∀ x, (els.foldl (cosIn t a s.fst.length) c).2 x ≤ s.fst.length := by
    intro els
    induction els with
    | nil => exact fun c hc => hc
    | cons b els ih =>
      intro c hc
      refine ih _ fun x => ?_
      show (if x = mul t a b then s.fst.length else c.2 x) ≤ _
      split
      · exact Nat.le_refl _
      · exact hc x
  exact key els _ hs x
theorem cosK_b {t : List (List Int)} (hg : IsGrp t) {els : List Nat} (he : ∀ b ∈ els, b < t.length) : ∀ k, k ≤ t.length → CosB t k (cosK t els k)
  | 0, _ => ⟨Nat.two_pow_pos _, Nat.le_refl _, fun x hx => (by cases hx), fun _ => Nat.le_refl _⟩
  | k + 1, hk => by
    have h := cosK_b hg he k (by omega)
    show CosB t (k + 1) (cosStep t els (cosK t els k) k)
    cases hm : (cosK t els k).met.testBit k with
    | true =>
      rw [cosStep_old hm]
      exact ⟨h.met, Nat.le_succ_of_le h.len, h.lt, h.num⟩
    | false =>
      rw [cosStep_new hm]
      refine ⟨cosRow_lt hg (by omega) _ h.met _ he, ?_, ?_, fun x => ?_⟩
      · show (_ ++ [k]).length ≤ _
        have := h.len
        simp
        omega
      · intro x hx
        rcases List.mem_append.1 hx with hx | hx
        · exact h.lt x hx
        · obtain rfl : x = k := by simpa using hx
          omega
      · show _ ≤ (_ ++ [k]).length
        have := cosRow_num (a := k) (t := t) (cosK t els k) h.num els x
        simp
        omega
theorem cosK_mono {t : List (List Int)} {els : List Nat} (k : Nat) : (cosK t els k).fst.length ≤ (cosK t els (k + 1)).fst.length := by
  show _ ≤ (cosStep t els (cosK t els k) k).fst.length
  cases hm : (cosK t els k).met.testBit k with
  | true => rw [cosStep_old hm]; exact Nat.le_refl _
  | false => rw [cosStep_new hm]; simp
theorem cosK_pos {t : List (List Int)} {els : List Nat} : ∀ k, 0 < k → 0 < (cosK t els k).fst.length
  | 1, _ => by
    show 0 < (cosStep t els (cosK t els 0) 0).fst.length
    rw [cosStep_new (by simp [cosK])]
    simp
  | k + 2, _ => Nat.lt_of_lt_of_le (cosK_pos (k + 1) (by omega)) (cosK_mono (k + 1))

/-- The elements of a list of numbers. -/
def elsL (xs : List Int) : List Nat := xs.map fun x => x.toNat
theorem elsL_len (xs : List Int) : (elsL xs).length = xs.length := by simp [elsL]
theorem elsL_take {xs : List Int} {j : Nat} (h : j < xs.length) : (elsL xs).take (j + 1) = (elsL xs).take j ++ [(nth xs j).toNat] := by
  rw [List.take_add_one]
  simp [elsL, nth, h]
theorem elsL_all (xs : List Int) : (elsL xs).take xs.length = elsL xs := by rw [← elsL_len xs, List.take_length]

section
variable {w w' : World} {lo b n : Nat} {v : Value} {xs : List Int} {T : TypeId} {cs : Array Value}
theorem GrowI.setLow (h : GrowI w lo v n xs) (hb : b < lo) (o : Nat) (u : Value) : GrowI (w.setCell ⟨b, o, none⟩ u) lo v n xs :=
  ⟨h.1.kept (grownBy_set w b o u) (.inr fun e => by have := (h.1.lt b e).1; omega), h.2⟩
theorem Has.grewLow (h : Has w b T cs) (hb : b < lo) (ho : GrowI w lo v n xs) (hg : w.grownBy w' v.ownBlock) : Has w' b T cs :=
  (hg.block b h.lt (fun e => by have := (ho.1.lt b e.symm).1; omega)).trans h
end

set_option maxRecDepth 100000 in
set_option maxHeartbeats 8000000 in
theorem l01Cosets_any (A L : Option Addr) (t : List (List Int)) (xs : List Int) (c c' : Nat) (w : World) (hR : RwsW w A t) (hX : IntsW w L xs) (hg : IsGrp t) (hx : xs.length ≤ 1048576) (hr : ∀ i, i < xs.length → 0 ≤ nth xs i ∧ nth xs i < t.length) :
    Calls Tryz.prog 51 #[.agg #[.slice A t.length c], .slice L xs.length c'] w fun e w' => ∃ D v, e = .returned (.tuple #[.slice (some ⟨D, 0, none⟩) t.length t.length, v]) ∧ Ex w w' ∧ w.heap.size ≤ D ∧ Has w' D 2 (tab t.length fun x => .int .i64 ((cosK t (elsL xs) t.length).num x : Int)) ∧ GrowI w' (D + 1) v (cosK t (elsL xs) t.length).fst.length ((cosK t (elsL xs) t.length).fst.map fun x : Nat => (x : Int)) := by
  obtain ⟨i0, hi, hi0, hi1, hi2⟩ := info_parts infoI
  obtain ⟨b, o, bb, oo, C, rfl, hQ⟩ := hR.sq hg
  have hn8 := hg.n8
  have hels : ∀ b ∈ elsL xs, b < t.length := fun b hb => by
    obtain ⟨x, hx, rfl⟩ := List.mem_map.1 hb
    obtain ⟨i, hi, rfl⟩ := List.getElem_of_mem hx
    have h := hr i hi
    rw [show nth xs i = xs[i] by simp [nth, hi]] at h
    omega
  have HCB := Lib.hid (fun k hk => cosK_b hg hels k hk)
  have HRL := Lib.hid (fun a (ha : a < t.length) s (hs : s.met < 2 ^ t.length) j => cosRow_lt hg ha s hs ((elsL xs).take j) (fun b hb => hels b (List.mem_of_mem_take hb)))
  have HTK := Lib.hid (fun j (hj : j < xs.length) => elsL_take hj)
  have HTA := Lib.hid (elsL_all xs)
  have HXN := Lib.hid (fun i (hi : i < xs.length) => (by have := hr i hi; exact ⟨by omega, by omega⟩ : nth xs i = ((nth xs i).toNat : Int) ∧ (nth xs i).toNat < t.length))
  have HEN := Lib.hid (fun x y (hx : x < t.length) (hy : y < t.length) W (he : Ex w W) => (⟨(hQ.ex he).row_ hx, by rw [(hQ.ex he).ent_ hx hy, hg.ent hx hy], hg.mul_lt hx hy⟩ : W.cell? ⟨b, o + x, none⟩ = some (.slice (some ⟨bb x, oo x, none⟩) t.length (C x)) ∧ W.cell? ⟨bb x, oo x + y, none⟩ = some (.int .i64 (mul t x y : Int)) ∧ mul t x y < t.length))
  have HX := Lib.hid (fun W (he : Ex w W) => hX.ex he)
  have e0 : Ex w (w.alloc (.cells #[.slice (some ⟨b, o, none⟩) t.length c] 32)) := (Ex.refl w).alloc _
  have b0 : Has (w.alloc (.cells #[.slice (some ⟨b, o, none⟩) t.length c] 32)) (w.heap.size) 32 #[.slice (some ⟨b, o, none⟩) t.length c] := (Has.newAt (w := w) (e := 32) (cs := #[.slice (some ⟨b, o, none⟩) t.length c]) (k := w.heap.size) (by simp))
  have hmk := makeI t.length (by omega)
  have HE0 := Lib.hid e0
  have HB0 := Lib.hid b0
  clear hR hX hg hr hQ hels
  go_enter Tryz.func51, Tryz.ntmps51
  go_wp2_with fail
  generalize (w.alloc (.cells #[.slice (some ⟨b, o, none⟩) t.length c] 32)) = W0 at *
  refine (l01N_ex (some ⟨b, o, none⟩) t.length c W0 (by omega)).mono ?_
  rintro e W1 ⟨rfl, he1⟩
  obtain ⟨D, hD⟩ : ∃ D, W1.heap.size = D := ⟨_, rfl⟩
  have ea := (Ex.new W1 (.cells (tab t.length fun _ => .int .i64 0) 2)).alloc (.cells #[] 2)
  have HX3 := Lib.hid ((HE0.out.trans he1).trans ea)
  have hbD := (Has.newAt (w := W1) (e := 2) (cs := tab t.length fun _ => .int .i64 0) hD).alloc (.cells #[] 2)
  have HG3 : Hid (GrowI ((W1.alloc (.cells (tab t.length fun _ => .int .i64 0) 2)).alloc (.cells #[] 2)) (D + 1) (.slice (some ⟨D + 1, 0, none⟩) 0 0) 0 []) := Lib.hid (by
    have h := GrowI.empty (lo := D + 1) (W1.alloc (.cells (tab t.length fun _ => .int .i64 0) 2)) (by simp [hD])
    simp only [World.size_alloc, hD] at h
    exact h)
  have HB3 := Lib.hid (HB0.out.ex (he1.trans ea))
  have HD3 := Lib.hid hbD
  have hlD : w.heap.size < D := by have := (HB0.out.ex he1).lt; omega
  clear b0 e0 he1 ea hbD
  go_wp2_with fail
  simp only [hD] at *
  generalize (W1.alloc (.cells (tab t.length fun _ => .int .i64 0) 2)).alloc (.cells #[] 2) = W3 at *
  clear hD hmk
  go_loopw [7, 8, 9] (fun v m i wr => ∃ k : Nat, k ≤ t.length ∧ i = .int .i64 (k : Int) ∧ m = .int .i64 ((cosK t (elsL xs) k).met : Int) ∧ Hid (Ex w wr) ∧ Hid (Has wr w.heap.size 32 #[.slice (some ⟨b, o, none⟩) t.length c]) ∧ Hid (Has wr D 2 (tab t.length fun x => .int .i64 ((cosK t (elsL xs) k).num x : Int))) ∧ Hid (GrowI wr (D + 1) v (cosK t (elsL xs) k).fst.length ((cosK t (elsL xs) k).fst.map fun x : Nat => (x : Int)))) (fun _ _ i _ => t.length - (intOf i).toNat)
  case atStart => exact ⟨0, Nat.zero_le _, rfl, rfl, HX3, HB3, HD3, HG3⟩
  case round =>
    clear HX3 HB3 HD3 HG3
    obtain ⟨k, hk, rfl, rfl, HXr, HBr, HDr, HGr⟩ := hrel
    obtain ⟨wo, rfl⟩ : ∃ x : World, x = wr := ⟨_, rfl⟩
    have c0 := HBr.out.cell 0
    go_wp2_with fail
    refine (l01N_ex (some ⟨b, o, none⟩) t.length c wo (by omega)).mono ?_
    rintro e wn ⟨rfl, hen⟩
    have HXn := Lib.hid (HXr.out.trans hen)
    have HBn := Lib.hid (HBr.out.ex hen)
    have HDn := Lib.hid (HDr.out.ex hen)
    have HGn := Lib.hid (HGr.out.ex hen)
    clear c0 hen HXr HBr HDr HGr
    by_cases hlt : k < t.length
    · have hcb := HCB.out k hk
      have HSO := Lib.hid (fun h => (cosStep_old h : cosStep t (elsL xs) (cosK t (elsL xs) k) k = _))
      have HSN := Lib.hid (fun h => (cosStep_new h : cosStep t (elsL xs) (cosK t (elsL xs) k) k = _))
      have HKS : Hid (cosK t (elsL xs) (k + 1) = cosStep t (elsL xs) (cosK t (elsL xs) k) k) := Lib.hid rfl
      obtain ⟨S, hS⟩ : ∃ S, cosK t (elsL xs) k = S := ⟨_, rfl⟩
      rw [hS] at hcb HSO HSN HKS HDn HGn ⊢
      clear hS
      have hm256 := lt256 hn8 hcb.met
      have hl8 := hcb.len
      have HRK := Lib.hid (fun j => HRL.out k hlt S hcb.met j)
      have hbt := bit_test S.met hm256 k (by omega)
      clear hcb
      cases hq : S.met.testBit k with
      | true =>
        rw [hq] at hbt
        have HST := Lib.hid (HSO.out hq)
        clear hq HSO HSN HRK
        go_wp2_with fail
        go_roundw
        case rel => exact ⟨k + 1, by omega, by go_num, by rw [HKS.out, HST.out], HXn, HBn, by rw [HKS.out, HST.out]; exact HDn, by rw [HKS.out, HST.out]; exact HGn⟩
        case measure => simp [intOf]; omega
      | false =>
        rw [hq] at hbt
        have HST := Lib.hid (HSN.out hq)
        clear hq HSO HSN
        obtain ⟨fl, hfl⟩ : ∃ fl, S.fst.length = fl := ⟨_, rfl⟩
        have HFL := Lib.hid hfl
        rw [hfl] at HGn hl8
        obtain ⟨FA, fc, rfl⟩ := HGn.out.form
        clear hfl
        go_wp2_with fail
        go_loopw [8, 10] (fun m i wr => ∃ j : Nat, j ≤ xs.length ∧ i = .int .i64 (j : Int) ∧ m = .int .i64 ((cosRow t k S ((elsL xs).take j)).1 : Int) ∧ Hid (Ex w wr) ∧ Hid (Has wr w.heap.size 32 #[.slice (some ⟨b, o, none⟩) t.length c]) ∧ Hid (Has wr D 2 (tab t.length fun x => .int .i64 ((cosRow t k S ((elsL xs).take j)).2 x : Int))) ∧ Hid (GrowI wr (D + 1) (.slice FA fl fc) fl (S.fst.map fun x : Nat => (x : Int)))) (fun _ i _ => xs.length - (intOf i).toNat)
        case atStart => exact ⟨0, Nat.zero_le _, rfl, rfl, HXn, HBn, HDn, HGn⟩
        case round =>
          clear HXn HBn HDn HGn
          obtain ⟨j, hj, rfl, rfl, HXj, HBj, HDj, HGj⟩ := hrel
          by_cases hjl : j < xs.length
          · obtain ⟨bx, ox, rfl, hbx, hcx⟩ := (HX.out wr HXj.out).ints.at_ hjl
            obtain ⟨hxn, hxN⟩ := HXN.out j hjl
            have HT1 := Lib.hid (HTK.out j hjl)
            obtain ⟨x, hxe⟩ : ∃ x, (nth xs j).toNat = x := ⟨_, rfl⟩
            rw [hxe] at hxn hxN HT1
            rw [hxn] at hcx
            obtain ⟨he1, he2, hzN⟩ := HEN.out k x hlt hxN wr HXj.out
            have hm256' := lt256 hn8 (HRK.out j)
            have HSN2 := Lib.hid (cosRow_snoc t k S ((elsL xs).take j) x)
            rw [← HT1.out] at HSN2
            obtain ⟨z, hz⟩ : ∃ z, mul t k x = z := ⟨_, rfl⟩
            have HCI : Hid (cosRow t k S ((elsL xs).take (j + 1)) = ((cosRow t k S ((elsL xs).take j)).1 ||| 2 ^ z, fun y => if y = z then fl else (cosRow t k S ((elsL xs).take j)).2 y)) := Lib.hid (by rw [HSN2.out, cosIn, hz, HFL.out])
            rw [hz] at he2 hzN
            obtain ⟨R, hR⟩ : ∃ R, cosRow t k S ((elsL xs).take j) = R := ⟨_, rfl⟩
            rw [hR] at hm256' HCI HDj ⊢
            have hbo := bits_or64 R.1 hm256' z (by omega)
            have HSK := Lib.hid (fun (W : World) (hb : Ex wr W) => (⟨(HBj.out.ex hb).cell 0, (hb.below.cell (p := ⟨b, o + k, none⟩) (World.block_lt_of_cell? _ _ he1)).trans he1, (hb.below.cell (p := ⟨bb k, oo k + x, none⟩) (World.block_lt_of_cell? _ _ he2)).trans he2, (hb.below.cell (p := ⟨bx, ox + j, none⟩) hbx).trans hcx⟩ :
              W.cell? ⟨w.heap.size, 0, none⟩ = some (.slice (some ⟨b, o, none⟩) t.length c) ∧ W.cell? ⟨b, o + k, none⟩ = some (.slice (some ⟨bb k, oo k, none⟩) t.length (C k)) ∧ W.cell? ⟨bb k, oo k + x, none⟩ = some (.int .i64 (z : Int)) ∧ W.cell? ⟨bx, ox + j, none⟩ = some (.int .i64 (x : Int))))
            have hz8 : z < 8 := by omega
            clear hxe hz hR he1 he2 hcx hm256' hxn
            go_wp2_with fail
            refine wp_region_quiet (C := fun w' => Ex wr w') (by kernel_rfl) (by kernel_rfl) (Ex.refl wr).drew ?_
            refine BigFrame.wpQuiet_want (by rfl) fun K hK => ⟨?_, fun w' hC => ?_, hK _ ?_⟩
            rotate_left
            · (obtain ⟨q0, q1, q2, q3⟩ := HSK.out _ hC; go_simp; first | done | with_reducible rfl | exact ⟨rfl, hC⟩)
            clear hK K
            simp only [Act.put, List.setIfInBounds_toArray, List.set_cons_zero, List.set_cons_succ]
            refine BigFrame.wpQuiet_want (by rfl) fun K hK => ⟨?_, fun w' hC => ?_, hK _ ?_⟩
            rotate_left
            · (obtain ⟨q0, q1, q2, q3⟩ := HSK.out _ hC; go_simp; first | done | with_reducible rfl | exact ⟨rfl, hC⟩)
            clear hK K
            simp only [Act.put, List.setIfInBounds_toArray, List.set_cons_zero, List.set_cons_succ]
            refine BigFrame.wpQuiet_want (by rfl) fun K hK => ⟨?_, fun w' hC => ?_, hK _ ?_⟩
            rotate_left
            · (obtain ⟨q0, q1, q2, q3⟩ := HSK.out _ hC; go_simp; first | done | with_reducible rfl | exact ⟨rfl, hC⟩)
            clear hK K
            simp only [Act.put, List.setIfInBounds_toArray, List.set_cons_zero, List.set_cons_succ]
            refine BigFrame.wpQuiet_want (by rfl) fun K hK => ⟨?_, fun w' hC => ?_, hK _ ?_⟩
            rotate_left
            · (obtain ⟨q0, q1, q2, q3⟩ := HSK.out _ hC; go_simp; first | done | with_reducible rfl | exact ⟨rfl, hC⟩)
            clear hK K
            simp only [Act.put, List.setIfInBounds_toArray, List.set_cons_zero, List.set_cons_succ]
            refine BigFrame.wpQuiet_want (by rfl) fun K hK => ⟨?_, fun w' hC => ?_, hK _ ?_⟩
            rotate_left
            · (obtain ⟨q0, q1, q2, q3⟩ := HSK.out _ hC; go_simp; first | done | with_reducible rfl | exact ⟨rfl, hC⟩)
            clear hK K
            simp only [Act.put, List.setIfInBounds_toArray, List.set_cons_zero, List.set_cons_succ]
            refine BigFrame.wpQuiet_want (by rfl) fun K hK => ⟨?_, fun w' hC => ?_, hK _ ?_⟩
            rotate_left
            · (obtain ⟨q0, q1, q2, q3⟩ := HSK.out _ hC; go_simp; first | done | with_reducible rfl | exact ⟨rfl, hC⟩)
            clear hK K
            simp only [Act.put, List.setIfInBounds_toArray, List.set_cons_zero, List.set_cons_succ]
            refine BigFrame.wpQuiet_want (by rfl) fun K hK => ⟨?_, fun w' hC => ?_, hK _ ?_⟩
            rotate_left
            · (obtain ⟨q0, q1, q2, q3⟩ := HSK.out _ hC; go_simp; first | done | with_reducible rfl | exact ⟨rfl, hC⟩)
            clear hK K
            simp only [Act.put, List.setIfInBounds_toArray, List.set_cons_zero, List.set_cons_succ]
            refine BigFrame.wpQuiet_want (by rfl) fun K hK => ⟨?_, fun w' hC => ?_, hK _ ?_⟩
            rotate_left
            · (obtain ⟨q0, q1, q2, q3⟩ := HSK.out _ hC; go_simp; first | done | with_reducible rfl | exact ⟨rfl, hC⟩)
            clear hK K
            simp only [Act.put, List.setIfInBounds_toArray, List.set_cons_zero, List.set_cons_succ]
            refine BigFrame.wpQuiet_want (by rfl) fun K hK => ⟨?_, fun w' hC => ?_, hK _ ?_⟩
            rotate_left
            · (obtain ⟨q0, q1, q2, q3⟩ := HSK.out _ hC; go_simp; first | done | with_reducible rfl | exact ⟨rfl, hC⟩)
            clear hK K
            simp only [Act.put, List.setIfInBounds_toArray, List.set_cons_zero, List.set_cons_succ]
            refine BigFrame.wpQuiet_want (by rfl) fun K hK => ⟨?_, fun w' hC => ?_, hK _ ?_⟩
            rotate_left
            · (obtain ⟨q0, q1, q2, q3⟩ := HSK.out _ hC; go_simp; first | done | with_reducible rfl | exact ⟨rfl, hC⟩)
            clear hK K
            simp only [Act.put, List.setIfInBounds_toArray, List.set_cons_zero, List.set_cons_succ]
            refine BigFrame.wpQuiet_want (by rfl) fun K hK => ⟨?_, fun w' hC => ?_, hK _ ?_⟩
            rotate_left
            · (obtain ⟨q0, q1, q2, q3⟩ := HSK.out _ hC; go_simp; first | done | with_reducible rfl | exact ⟨rfl, hC⟩)
            clear hK K
            simp only [Act.put, List.setIfInBounds_toArray, List.set_cons_zero, List.set_cons_succ]
            refine BigFrame.wpQuiet_want (by rfl) fun K hK => ⟨?_, fun w' hC => ?_, hK _ ?_⟩
            rotate_left
            · (obtain ⟨q0, q1, q2, q3⟩ := HSK.out _ hC; go_simp; first | done | with_reducible rfl | exact ⟨rfl, hC⟩)
            clear hK K
            simp only [Act.put, List.setIfInBounds_toArray, List.set_cons_zero, List.set_cons_succ]
            refine wpQuiet_nil ?_
            intro wa hCa
            have HXa := Lib.hid (HXj.out.trans hCa)
            have HBa := Lib.hid (HBj.out.ex hCa)
            have HDa := Lib.hid (HDj.out.ex hCa)
            have HGa := Lib.hid (HGj.out.ex hCa)
            have cz : wa.cell? ⟨D, z, none⟩ = some (.int .i64 (R.2 z : Int)) := by rw [HDa.out.cell, tab_get hzN]
            have fz := HDa.out.free z
            clear hCa HSK HXj HBj HDj HGj
            go_wp2_with fail
            go_roundw
            case rel =>
              refine ⟨j + 1, by omega, by go_num, by rw [HCI.out], Lib.hid (HXa.out.setCell (p := ⟨D, z, none⟩) (by show w.heap.size ≤ D; omega) _), Lib.hid (HBa.out.far (p := ⟨D, z, none⟩) (by show w.heap.size ≠ D; omega) _), Lib.hid ?_, Lib.hid (HGa.out.setLow (by omega) z _)⟩
              have h := HDa.out.put z (.int .i64 (fl : Int))
              rw [tab_set hzN] at h
              rw [HCI.out]
              refine Eq.mp (congrArg (fun f => Has _ D 2 f) (tab_congr fun y hy => ?_)) h
              by_cases hyz : y = z
              · rw [if_pos hyz]
                dsimp only
                rw [if_pos hyz]
              · rw [if_neg hyz]
                dsimp only
                rw [if_neg hyz]
            case measure => simp [intOf]; omega
          · obtain rfl : j = xs.length := by omega
            rw [HTA.out] at HDj ⊢
            go_wp2_with (at_builtin; refine wpList_append_own _ rfl _ _ 25 rfl (D + 1) 2 i0 (.int .i64 0) 1 8 Tryz.underlying25 hi hi0 hi1 hi2 rfl (by decide) _ _ _ rfl (HGj.out.1.alloc _) ⟨wr.heap.size, 0, none⟩ 1 1 [.int .i64 (k : Int)] rfl rfl (cell_one_new _ _ _) (by simp [Value.oneCell']) (by unfold maxLen; omega) (by omega) (by have := HDj.out.lt; simp; omega) ?_; intro v' w3 hown3 hgrow3 _; have G3 := HGj.out.ex (Ex.new wr (.cells #[.int .i64 (k : Int)] 2)); have HX3 := Lib.hid (Ex.grew (HXj.out.alloc _) G3 (by omega) hgrow3); have HB3 := Lib.hid (Has.grew (HBj.out.alloc _) (by decide) G3 hgrow3); have HD3 := Lib.hid (Has.grewLow (HDj.out.alloc _) (by omega) G3 hgrow3); have HG3 := Lib.hid (G3.snoc hown3); clear hown3 hgrow3 G3)
            go_roundw
            case rel => exact ⟨k + 1, by omega, by go_num, by rw [HKS.out, HST.out], HX3, HB3, by rw [HKS.out, HST.out]; exact HD3, by rw [HKS.out, HST.out, List.length_append, HFL.out, List.map_append]; exact HG3⟩
            case measure => simp [intOf]; omega
    · obtain rfl : k = t.length := by omega
      go_wp2_with fail
      go_ret2
      exact ⟨D, _, rfl, HXn.out, by omega, HDn.out, HGn.out⟩

end Go.Proofs.YtcdijeeabgmgmaaGreatDoor

/- Quotients: the specification's table. -/
namespace Go.Proofs.YtcdijeeabgmgmaaGreatDoor
open Go.RowKit Go.Shelf

attribute [local go_sem] Oper.semAt_some

def fstA (S : Cos) (i : Nat) : Nat := S.fst[i]?.getD 0
theorem fstA_nth {S : Cos} {i : Nat} (h : i < S.fst.length) : nth (S.fst.map fun x : Nat => (x : Int)) i = (fstA S i : Int) := by simp [nth, fstA, h]
theorem fstA_mem {S : Cos} {i : Nat} (h : i < S.fst.length) : fstA S i ∈ S.fst := by simp [fstA, h]
def quoV (t : List (List Int)) (S : Cos) (i j : Nat) : Nat := S.num (mul t (fstA S i) (fstA S j))

end Go.Proofs.YtcdijeeabgmgmaaGreatDoor

/- Cosets, by the program. -/
namespace Go.Proofs.YtcdijeeabgmgmaaGreatDoor
open Go.RowKit Go.Shelf

attribute [local go_sem] Oper.semAt_some

/-- The state behind some elements. -/
def cosF (t : List (List Int)) (els l : List Nat) : Cos := l.foldl (cosStep t els) ⟨0, fun _ => 0, []⟩
theorem cosF_snoc (t : List (List Int)) (els l : List Nat) (a : Nat) : cosF t els (l ++ [a]) = cosStep t els (cosF t els l) a := by simp [cosF, List.foldl_append]
theorem cosF_range (t : List (List Int)) (els : List Nat) : ∀ k, cosF t els (List.range k) = cosK t els k
  | 0 => rfl
  | k + 1 => by
    rw [List.range_succ, cosF_snoc, cosF_range t els k]
    rfl
theorem fin_val (N : Nat) : (List.finRange N).map (fun x => x.val) = List.range N := by
  apply List.ext_getElem
  · simp
  · intro i h1 h2
    simp
theorem cosStep_b {t : List (List Int)} (hg : IsGrp t) {els : List Nat} (he : ∀ b ∈ els, b < t.length) {k a : Nat} {S : Cos} (h : CosB t k S) (ha : a < t.length) : CosB t (k + 1) (cosStep t els S a) := by
  cases hm : S.met.testBit a with
  | true =>
    rw [cosStep_old hm]
    exact ⟨h.met, Nat.le_succ_of_le h.len, h.lt, h.num⟩
  | false =>
    rw [cosStep_new hm]
    refine ⟨cosRow_lt hg ha _ h.met _ he, ?_, ?_, fun x => ?_⟩
    · show (_ ++ [a]).length ≤ _
      have := h.len
      simp
      omega
    · intro x hx
      rcases List.mem_append.1 hx with hx | hx
      · exact h.lt x hx
      · obtain rfl : x = a := by simpa using hx
        exact ha
    · show _ ≤ (_ ++ [a]).length
      have := cosRow_num (a := a) (t := t) S h.num els x
      simp
      omega
theorem cosF_b {t : List (List Int)} (hg : IsGrp t) {els : List Nat} (he : ∀ b ∈ els, b < t.length) (l : List Nat) (hl : ∀ a ∈ l, a < t.length) : CosB t l.length (cosF t els l) := by
  have key : ∀ (l : List Nat) (k : Nat) (S : Cos), CosB t k S → (∀ a ∈ l, a < t.length) → CosB t (k + l.length) (l.foldl (cosStep t els) S) := by
    intro l
    induction l with
    | nil => exact fun k S h _ => h
    | cons a l ih =>
      intro k S h hl
      have h2 := ih (k + 1) _ (cosStep_b hg he h (hl a (by simp))) fun x hx => hl x (by simp [hx])
      rw [show k + (a :: l).length = k + 1 + l.length by simp; omega]
      exact h2
  have h := key l 0 ⟨0, fun _ => 0, []⟩ ⟨Nat.two_pow_pos _, Nat.le_refl _, fun x hx => (by cases hx), fun _ => Nat.le_refl _⟩ hl
  rw [Nat.zero_add] at h
  exact h

/-- The numbers of the cosets so far. -/
noncomputable def numT (N : Nat) (f : Nat → Nat) : Array Value := tab N fun x => .int .i64 (f x : Int)
def ltI (fs : List Nat) : List Value := (fs.map fun x : Nat => (x : Int)).map fun x => .int .i64 x

set_option maxRecDepth 100000 in
set_option maxHeartbeats 8000000 in
theorem cosetsOf_any (A : Option Addr) (t : List (List Int)) (c s : Nat) (w : World) (hR : RwsW w A t) (hg : IsGrp t) (hs : s < 2 ^ t.length) (hT : TabL w) (S : Cos) (hS : cosK t (elN s) t.length = S) :
    Calls Tryz.prog 91 #[.agg #[.slice A t.length c], .int .u64 (s : Int)] w fun e w' => ∃ D v, e = .returned (.tuple #[.slice (some ⟨D, 0, none⟩) t.length t.length, v]) ∧ Ex w w' ∧ w.heap.size ≤ D ∧ Has w' D 2 (tab t.length fun x => .int .i64 (S.num x : Int)) ∧ GrowI w' (D + 1) v S.fst.length (S.fst.map fun x : Nat => (x : Int)) := by
  obtain ⟨i0, hi, hi0, hi1, hi2⟩ := info_parts infoI
  obtain ⟨b, o, bb, oo, C, rfl, hQ⟩ := hR.sq hg
  have hn8 := hg.n8
  have hs256 := lt256 hn8 hs
  have hels : ∀ b ∈ elN s, b < t.length := fun b hb => el_lt hs hb
  have HCB := Lib.hid (fun l (hl : ∀ a ∈ l, a < t.length) => cosF_b hg hels l hl)
  have HRL := Lib.hid (fun a (ha : a < t.length) S (hS : S.met < 2 ^ t.length) l (hl : ∀ b ∈ l, b < t.length) => cosRow_lt hg ha S hS l hl)
  have HEL := Lib.hid hels
  have HEN := Lib.hid (fun x y (hx : x < t.length) (hy : y < t.length) W (he : Ex w W) => (⟨(hQ.ex he).row_ hx, by rw [(hQ.ex he).ent_ hx hy, hg.ent hx hy], hg.mul_lt hx hy⟩ : W.cell? ⟨b, o + x, none⟩ = some (.slice (some ⟨bb x, oo x, none⟩) t.length (C x)) ∧ W.cell? ⟨bb x, oo x + y, none⟩ = some (.int .i64 (mul t x y : Int)) ∧ mul t x y < t.length))
  have HTB := Lib.hid hT
  have hTl := hT.lt
  have HSK : Hid (cosF t (elN s) ((List.finRange t.length).map fun x => x.val) = S) := Lib.hid (by rw [fin_val, cosF_range, hS])
  have e0 : Ex w ((((w.alloc (.cells #[.slice (some ⟨b, o, none⟩) t.length c] 32)).alloc (.cells #[.int .u64 (s : Int)] 66)).alloc (.cells #[.slice none 0 0] 25)).alloc (.cells #[.slice none 0 0] 25)) := ((((Ex.refl w).alloc _).alloc _).alloc _).alloc _
  have b0 : Has ((((w.alloc (.cells #[.slice (some ⟨b, o, none⟩) t.length c] 32)).alloc (.cells #[.int .u64 (s : Int)] 66)).alloc (.cells #[.slice none 0 0] 25)).alloc (.cells #[.slice none 0 0] 25)) (w.heap.size) 32 #[.slice (some ⟨b, o, none⟩) t.length c] := ((((Has.newAt (w := w) (e := 32) (cs := #[.slice (some ⟨b, o, none⟩) t.length c]) (k := w.heap.size) (by simp)).alloc _).alloc _).alloc _)
  have b1 : Has ((((w.alloc (.cells #[.slice (some ⟨b, o, none⟩) t.length c] 32)).alloc (.cells #[.int .u64 (s : Int)] 66)).alloc (.cells #[.slice none 0 0] 25)).alloc (.cells #[.slice none 0 0] 25)) (w.heap.size + 1) 66 #[.int .u64 (s : Int)] := (((Has.newAt (w := (w.alloc (.cells #[.slice (some ⟨b, o, none⟩) t.length c] 32))) (e := 66) (cs := #[.int .u64 (s : Int)]) (k := w.heap.size + 1) (by simp)).alloc _).alloc _)
  have b2 : Has ((((w.alloc (.cells #[.slice (some ⟨b, o, none⟩) t.length c] 32)).alloc (.cells #[.int .u64 (s : Int)] 66)).alloc (.cells #[.slice none 0 0] 25)).alloc (.cells #[.slice none 0 0] 25)) (w.heap.size + 1 + 1) 25 #[.slice none 0 0] := ((Has.newAt (w := ((w.alloc (.cells #[.slice (some ⟨b, o, none⟩) t.length c] 32)).alloc (.cells #[.int .u64 (s : Int)] 66))) (e := 25) (cs := #[.slice none 0 0]) (k := w.heap.size + 1 + 1) (by simp)).alloc _)
  have b3 : Has ((((w.alloc (.cells #[.slice (some ⟨b, o, none⟩) t.length c] 32)).alloc (.cells #[.int .u64 (s : Int)] 66)).alloc (.cells #[.slice none 0 0] 25)).alloc (.cells #[.slice none 0 0] 25)) (w.heap.size + 1 + 1 + 1) 25 #[.slice none 0 0] := (Has.newAt (w := (((w.alloc (.cells #[.slice (some ⟨b, o, none⟩) t.length c] 32)).alloc (.cells #[.int .u64 (s : Int)] 66)).alloc (.cells #[.slice none 0 0] 25))) (e := 25) (cs := #[.slice none 0 0]) (k := w.heap.size + 1 + 1 + 1) (by simp))
  obtain ⟨W0, hW0⟩ : ∃ W0, ((((w.alloc (.cells #[.slice (some ⟨b, o, none⟩) t.length c] 32)).alloc (.cells #[.int .u64 (s : Int)] 66)).alloc (.cells #[.slice none 0 0] 25)).alloc (.cells #[.slice none 0 0] 25)) = W0 := ⟨_, rfl⟩
  have hsz : W0.heap.size = w.heap.size + 1 + 1 + 1 + 1 := by rw [← hW0]; simp
  rw [hW0] at e0 b0 b1 b2 b3
  have HW0 := Lib.hid hW0
  have c0 := b0.cell 0
  have hmk := makeI t.length (by omega)
  clear hW0 hR hg hT hS hQ hels
  refine (callsIn_wide (n := 20)).1 ?_
  refine callsIn_of_wp_marks Tryz.func91 rfl trivial ?_ rfl
  simp only [Tryz.ntmps91, List.size_toArray, List.length_cons, List.length_nil, Nat.reduceAdd, Nat.reduceSub, Array.replicate_succ, Array.replicate_zero, List.push_toArray, List.append_toArray, List.nil_append, List.cons_append]
  refine wpIn_wide.2 ?_
  go_wp2_with fail
  rw [HW0.out]
  refine (groupOrder_ex (some ⟨b, o, none⟩) t.length c W0 (by omega)).mono ?_
  rintro e W1 ⟨rfl, he1⟩
  obtain ⟨D, hD⟩ : ∃ D, W1.heap.size = D := ⟨_, rfl⟩
  obtain ⟨p, hp⟩ : ∃ p, w.heap.size = p := ⟨_, rfl⟩
  have HP := Lib.hid hp
  rw [hp] at b0 b1 b2 b3 hsz
  have HB0 := Lib.hid (b0.ex he1)
  have HB1 := Lib.hid (b1.ex he1)
  have HB2 := Lib.hid (b2.ex he1)
  have HB3 := Lib.hid (b3.ex he1)
  have HE1 := Lib.hid (e0.trans he1)
  have hpD : p + 1 + 1 + 1 < D := by have := (b3.ex he1).lt; omega
  rw [hp] at c0 ⊢
  have bN1 := HB2.out.alloc (.cells (tab t.length fun _ => .int .i64 0) 2)
  have cr := bN1.cell 0
  have fr := bN1.free 0
  have bG3 := ((HB0.out.alloc (.cells (tab t.length fun _ => .int .i64 0) 2)).far (p := ⟨p + 1 + 1, 0, none⟩) (by show p ≠ p + 1 + 1; omega) (.slice (some ⟨D, 0, none⟩) t.length t.length)).alloc (.cells #[.int .u64 0] 66)
  have bS3 := ((HB1.out.alloc (.cells (tab t.length fun _ => .int .i64 0) 2)).far (p := ⟨p + 1 + 1, 0, none⟩) (by show p + 1 ≠ p + 1 + 1; omega) (.slice (some ⟨D, 0, none⟩) t.length t.length)).alloc (.cells #[.int .u64 0] 66)
  have bL3 := ((HB3.out.alloc (.cells (tab t.length fun _ => .int .i64 0) 2)).far (p := ⟨p + 1 + 1, 0, none⟩) (by show p + 1 + 1 + 1 ≠ p + 1 + 1; omega) (.slice (some ⟨D, 0, none⟩) t.length t.length)).alloc (.cells #[.int .u64 0] 66)
  have bN3 := (bN1.put1 (v := .slice (some ⟨D, 0, none⟩) t.length t.length)).alloc (.cells #[.int .u64 0] 66)
  have bD3 := ((Has.newAt (w := W1) (e := 2) (cs := tab t.length fun _ => .int .i64 0) hD).far (p := ⟨p + 1 + 1, 0, none⟩) (by show D ≠ p + 1 + 1; omega) (.slice (some ⟨D, 0, none⟩) t.length t.length)).alloc (.cells #[.int .u64 0] 66)
  have bM3 : Has (((W1.alloc (.cells (tab t.length fun _ => .int .i64 0) 2)).setCell ⟨p + 1 + 1, 0, none⟩ (.slice (some ⟨D, 0, none⟩) t.length t.length)).alloc (.cells #[.int .u64 0] 66)) (D + 1) 66 #[.int .u64 0] := Has.newAt (by simp [hD])
  have e3 : Ex w (((W1.alloc (.cells (tab t.length fun _ => .int .i64 0) 2)).setCell ⟨p + 1 + 1, 0, none⟩ (.slice (some ⟨D, 0, none⟩) t.length t.length)).alloc (.cells #[.int .u64 0] 66)) := ((HE1.out.alloc _).setCell (p := ⟨p + 1 + 1, 0, none⟩) (by show w.heap.size ≤ p + 1 + 1; omega) _).alloc _
  have hz3 : (((W1.alloc (.cells (tab t.length fun _ => .int .i64 0) 2)).setCell ⟨p + 1 + 1, 0, none⟩ (.slice (some ⟨D, 0, none⟩) t.length t.length)).alloc (.cells #[.int .u64 0] 66)).heap.size = D + 1 + 1 := by simp [hD]
  have k0 := bG3.cell 0
  clear b0 b1 b2 b3 e0 he1 c0 HB0 HB1 HB2 HB3 bN1
  go_wp2_with fail
  refine (elementsOf_any (some ⟨b, o, none⟩) t.length c _).mono ?_
  rintro e w' ⟨rfl, rfl⟩
  rw [hz3]
  generalize (((W1.alloc (.cells (tab t.length fun _ => .int .i64 0) 2)).setCell ⟨p + 1 + 1, 0, none⟩ (.slice (some ⟨D, 0, none⟩) t.length t.length)).alloc (.cells #[.int .u64 0] 66)) = W3 at *
  obtain ⟨W4, hW4⟩ : ∃ W4, W3.alloc (.cells #[.slice (some ⟨b, o, none⟩) t.length c] 32) = W4 := ⟨_, rfl⟩
  have bG := bG3.alloc (.cells #[.slice (some ⟨b, o, none⟩) t.length c] 32)
  have bS := bS3.alloc (.cells #[.slice (some ⟨b, o, none⟩) t.length c] 32)
  have bL := bL3.alloc (.cells #[.slice (some ⟨b, o, none⟩) t.length c] 32)
  have bN := bN3.alloc (.cells #[.slice (some ⟨b, o, none⟩) t.length c] 32)
  have bD := bD3.alloc (.cells #[.slice (some ⟨b, o, none⟩) t.length c] 32)
  have bM := bM3.alloc (.cells #[.slice (some ⟨b, o, none⟩) t.length c] 32)
  have bE : Has (W3.alloc (.cells #[.slice (some ⟨b, o, none⟩) t.length c] 32)) (D + 1 + 1) 32 #[.slice (some ⟨b, o, none⟩) t.length c] := Has.newAt hz3
  have e4 := e3.alloc (.cells #[.slice (some ⟨b, o, none⟩) t.length c] 32)
  have hz4 : (W3.alloc (.cells #[.slice (some ⟨b, o, none⟩) t.length c] 32)).heap.size = D + 1 + 1 + 1 := by simp [hz3]
  rw [hW4] at bG bS bL bN bD bM bE e4 hz4 ⊢
  clear bG3 bS3 bL3 bN3 bD3 bM3 e3 hz3 cr fr k0 hW4 hmk
  go_wp2_with fail
  have HE4 := Lib.hid e4
  clear e4
  refine (wpIn_wide (n := 20)).1 ?_
  refine range_topB (n := 20) (n₀ := p) (by omega) (gf := 109) (lb := #[.pointer (some ⟨D + 1 + 1, 0, none⟩)]) rfl (enters_of Tryz.func109 (by kernel_rfl) rfl)
    (elements_stops 19 (by omega) (D + 1 + 1) p t.length c _ W4 (by omega) (bE.cell 0) (by omega)) (by omega) (fun _ => rfl) 2 (fun x => .int .i64 (x.1 : Int))
    (fun pre W => (Has W D 2 (numT t.length (cosF t (elN s) (pre.map fun x => x.val)).num) ∧ Has W (D + 1) 66 #[.int .u64 ((cosF t (elN s) (pre.map fun x => x.val)).met : Int)]) ∧ (∃ v, Boxed W (p + 1 + 1 + 1) 25 v ∧ W.ownsRow (D + 1) 2 1 v (cosF t (elN s) (pre.map fun x => x.val)).fst.length (ltI (cosF t (elN s) (pre.map fun x => x.val)).fst) ∧ True) ∧ Has W p 32 #[.slice (some ⟨b, o, none⟩) t.length c] ∧ Has W (p + 1) 66 #[.int .u64 (s : Int)] ∧ Has W (p + 1 + 1) 25 #[.slice (some ⟨D, 0, none⟩) t.length t.length])
    (fun c' _ W => False)
    (OwnFrom.and (OwnFrom.and (Own.from (has_own _ _ _) _) (Own.from (has_own _ _ _) _)) (OwnFrom.and (Own.from (holdsRow_own (D + 1) (p + 1 + 1 + 1) 25 2 1 (fun pre : List (Fin t.length) => (cosF t (elN s) (pre.map fun x => x.val)).fst.length) (fun pre => ltI (cosF t (elN s) (pre.map fun x => x.val)).fst) (fun _ _ => True)) _) (OwnFrom.and (Own.from (has_own _ _ _) _) (OwnFrom.and (Own.from (has_own _ _ _) _) (Own.from (has_own _ _ _) _)))))
    (fun _ => ownFrom_pure _ _)
    ⟨⟨bD, bM⟩, ⟨_, bL, World.ownsRow_nil _ _ _ _, trivial⟩, bG, bS, bN⟩ ?round ?done ?stop
  case stop =>
    rintro D' c' pre W hD' hpre h
    exact h.elim
  case done =>
    rintro D' xs W hD' hxs ⟨⟨hDn, hM⟩, ⟨v, hL, hrow, _⟩, hG, hS, hN⟩ hKW hK
    rw [hxs, HSK.out] at hDn
    rw [hxs, HSK.out] at hrow
    have hgi : GrowI W (D + 1) v S.fst.length (S.fst.map fun x : Nat => (x : Int)) := ⟨hrow, by simp⟩
    obtain ⟨FA, fc, rfl⟩ := hgi.form
    have HGI := Lib.hid hgi
    have HDN := Lib.hid hDn
    have HLB := Lib.hid (show Has W (p + 1 + 1 + 1) 25 #[.slice FA S.fst.length fc] from hL)
    have HNB := Lib.hid hN
    have HKW := Lib.hid hKW
    have HKD := Lib.hid hK
    have cn := HNB.out.cell 0
    have fn := HNB.out.free 0
    have cl := HLB.out.cell 0
    have fl := HLB.out.free 0
    clear bG bS bL bN bD bM bE hDn hM hL hrow hgi hG hS hN hKW hK
    simp only [Exit.inBlock, Exit.then]
    go_wp2_with fail
    go_region
    go_wp2_with fail
    have hnn : p + 1 + 1 ≠ D' := by intro e; have h1 := HNB.out; have h2 := HKD.out; rw [← e, show W.heap[p + 1 + 1]? = _ from h1] at h2; cases h2
    have hnl : p + 1 + 1 + 1 ≠ D' := by intro e; have h1 := HLB.out; have h2 := HKD.out; rw [← e, show W.heap[p + 1 + 1 + 1]? = _ from h1] at h2; cases h2
    have hK0 : ((W.setCell ⟨p + 1 + 1, 0, none⟩ (.slice (some ⟨D, 0, none⟩) t.length t.length)).setCell ⟨p + 1 + 1 + 1, 0, none⟩ (.slice FA S.fst.length fc)).heap[D']? = some (.deferred (some [])) :=
      (Below.heap_setCell _ _ _ D' (fun e => hnl e.symm)).trans ((Below.heap_setCell _ _ _ D' (fun e => hnn e.symm)).trans HKD.out)
    have hK' : ((W.setCell ⟨p + 1 + 1, 0, none⟩ (.slice (some ⟨D, 0, none⟩) t.length t.length)).setCell ⟨p + 1 + 1 + 1, 0, none⟩ (.slice FA S.fst.length fc)).drew.heap[D']? = some (.deferred (some [])) := hK0
    refine ⟨by simp, .inl ⟨_, _, rfl, run_takeDeferred hK', ?_⟩⟩
    have hNs := (HNB.out.put1 (v := .slice (some ⟨D, 0, none⟩) t.length t.length)).far (p := ⟨p + 1 + 1 + 1, 0, none⟩) (by show p + 1 + 1 ≠ p + 1 + 1 + 1; omega) (.slice FA S.fst.length fc)
    have hLs := (HLB.out.far (p := ⟨p + 1 + 1, 0, none⟩) (by show p + 1 + 1 + 1 ≠ p + 1 + 1; omega) (.slice (some ⟨D, 0, none⟩) t.length t.length)).put1 (v := .slice FA S.fst.length fc)
    have hDs := (HDN.out.far (p := ⟨p + 1 + 1, 0, none⟩) (by show D ≠ p + 1 + 1; omega) (.slice (some ⟨D, 0, none⟩) t.length t.length)).far (p := ⟨p + 1 + 1 + 1, 0, none⟩) (by show D ≠ p + 1 + 1 + 1; omega) (.slice FA S.fst.length fc)
    have hGs := (HGI.out.set HNB.out (by decide) 0 (.slice (some ⟨D, 0, none⟩) t.length t.length)).set (HLB.out.far (p := ⟨p + 1 + 1, 0, none⟩) (by show p + 1 + 1 + 1 ≠ p + 1 + 1; omega) (.slice (some ⟨D, 0, none⟩) t.length t.length)) (by decide) 0 (.slice FA S.fst.length fc)
    have hpw : w.heap.size = p := HP.out
    have hEs : Ex w ((W.setCell ⟨p + 1 + 1, 0, none⟩ (.slice (some ⟨D, 0, none⟩) t.length t.length)).setCell ⟨p + 1 + 1 + 1, 0, none⟩ (.slice FA S.fst.length fc)) :=
      ((HE4.out.trans' HKW.out.1 (by omega)).setCell (by show w.heap.size ≤ p + 1 + 1; omega) _).setCell (by show w.heap.size ≤ p + 1 + 1 + 1; omega) _
    have hx := (Ex.refl ((W.setCell ⟨p + 1 + 1, 0, none⟩ (.slice (some ⟨D, 0, none⟩) t.length t.length)).setCell ⟨p + 1 + 1 + 1, 0, none⟩ (.slice FA S.fst.length fc))).drew
    have hNs := hNs.ex hx
    have hLs := hLs.ex hx
    have hDs := hDs.ex hx
    have hGs := hGs.ex hx
    have hEs := hEs.trans hx
    clear hx hK0
    generalize ((W.setCell ⟨p + 1 + 1, 0, none⟩ (.slice (some ⟨D, 0, none⟩) t.length t.length)).setCell ⟨p + 1 + 1 + 1, 0, none⟩ (.slice FA S.fst.length fc)).drew = Ws at *
    have hg8 := grownBy_putObj' Ws D' (.deferred none)
    have hr8 : ∀ r, some D' = some r → ∃ o : Obj, Ws.heap[r]? = some o ∧ o.isCells = false := fun r e => by cases e; exact ⟨_, hK', rfl⟩
    have c8 := (hNs.grownR hg8 hr8).cell 0
    have c9 := (hLs.grownR hg8 hr8).cell 0
    exact ⟨.tuple #[.slice (some ⟨D, 0, none⟩) t.length t.length, .slice FA S.fst.length fc], by simp [results, Tryz.results91, go_sem, c8, c9], D, _, rfl, Below.grown hEs hg8 hEs.size (fun k hk => by cases hk; omega), by omega, hDs.grownR hg8 hr8, hGs.grown hg8 hr8⟩
  case round =>
    clear bG bS bL bN bD bM bE
    intro l x W K hK
    have HK := Lib.hid hK
    clear hK
    gi_wp2
    refine HK.out _ ?_
    clear HK
    rintro l B1 pre W1 hB1 hle1 hr ⟨⟨hDn, hM⟩, ⟨v, hL, hrow, _⟩, hG, hS, hN⟩ hKW bX _
    rw [hB1]
    clear hB1
    obtain ⟨a, ha⟩ := x
    dsimp only at bX
    have HSNOC : Hid (cosF t (elN s) ((pre ++ [(⟨a, ha⟩ : Fin t.length)]).map fun x => x.val) = cosStep t (elN s) (cosF t (elN s) (pre.map fun x => x.val)) a) := Lib.hid (by rw [List.map_append]; exact cosF_snoc _ _ _ _)
    have hcb := HCB.out (pre.map fun x => x.val) (fun y hy => by obtain ⟨x, _, rfl⟩ := List.mem_map.1 hy; exact x.isLt)
    have hpl : pre.length ≤ t.length := by omega
    obtain ⟨S1, hS1⟩ : ∃ S1, cosF t (elN s) (pre.map fun x => x.val) = S1 := ⟨_, rfl⟩
    rw [hS1] at hDn hM hrow hcb HSNOC
    have hm256 := lt256 hn8 hcb.met
    have hmet := hcb.met
    have hlen := hcb.len
    simp only [List.length_map] at hlen
    have ha8 : a < 8 := by omega
    have hgi : GrowI W1 (D + 1) v S1.fst.length (S1.fst.map fun x : Nat => (x : Int)) := ⟨hrow, by simp⟩
    obtain ⟨FA, fc, rfl⟩ := hgi.form
    have HKW := Lib.hid hKW
    have HR := Lib.hid hr
    have HDn := Lib.hid hDn
    have HM := Lib.hid hM
    have HL := Lib.hid (show Has W1 (p + 1 + 1 + 1) 25 #[.slice FA S1.fst.length fc] from hL)
    have HGI := Lib.hid hgi
    have HG := Lib.hid hG
    have HS := Lib.hid hS
    have HN := Lib.hid hN
    have HX := Lib.hid (show Has W1 B1 2 #[.int .i64 (a : Int)] from bX)
    have cM := hM.cell 0
    have cX := HX.out.cell 0
    have hpW : p + 1 + 1 + 1 < W1.heap.size := HL.out.lt
    have HSO := Lib.hid (fun h => (cosStep_old h : cosStep t (elN s) S1 a = _))
    have HSW := Lib.hid (fun h => (cosStep_new h : cosStep t (elN s) S1 a = _))
    have HCRL := Lib.hid (fun l hl => HRL.out a ha S1 hmet l hl)
    clear hS1 hcb hmet hKW hr hDn hM hL hrow hgi hG hS hN bX
    cases hq : S1.met.testBit a with
    | true =>
      have HHA := Lib.hid (fun W => hq ▸ has_any S1.met a W hm256 ha8)
      have HST := Lib.hid (HSO.out hq)
      clear hq HSO HSW
      gi_wp2_with (refine ⟨trivial, ?_⟩; gi_at_call 46; refine (CallsIn.inRound l (callsIn_wide.2 (HHA.out _))).mono ?_; rintro e w' ⟨rfl, rfl⟩)
      exact ⟨Keeps.refl _ _, ⟨by rw [HSNOC.out, HST.out]; exact HDn.out, by rw [HSNOC.out, HST.out]; exact HM.out⟩, by rw [HSNOC.out, HST.out]; exact ⟨_, HL.out, HGI.out.1, trivial⟩, HG.out, HS.out, HN.out⟩
    | false =>
      have HHA := Lib.hid (fun W => hq ▸ has_any S1.met a W hm256 ha8)
      have HST := Lib.hid (HSW.out hq)
      have cS := HS.out.cell 0
      clear hq HSO HSW
      gi_wp2_with (first
        | (refine ⟨trivial, ?_⟩; gi_at_call 46; refine (CallsIn.inRound l (callsIn_wide.2 (HHA.out _))).mono ?_; rintro e w' ⟨rfl, rfl⟩)
        | (refine ⟨trivial, ?_⟩; gi_at_call 77; refine (CallsIn.inRound l (callsIn_wide.2 (setAll_any s _))).mono ?_; rintro e w' ⟨rfl, rfl⟩))
      clear cS cM cX
      obtain ⟨z1, hz1⟩ : ∃ z1, W1.heap.size = z1 := ⟨_, rfl⟩
      have eA := Ex.new W1 (.cells #[.int .u64 (s : Int)] 66)
      have bD := HDn.out.ex eA
      have bM := HM.out.ex eA
      have bL := HL.out.ex eA
      have gI := HGI.out.ex eA
      have bG := HG.out.ex eA
      have bS := HS.out.ex eA
      have bN := HN.out.ex eA
      have bX := HX.out.ex eA
      have bE : Has (W1.alloc (.cells #[.int .u64 (s : Int)] 66)) z1 66 #[.int .u64 (s : Int)] := Has.newAt hz1
      have hK1 : Keeps p W1 (W1.alloc (.cells #[.int .u64 (s : Int)] 66)) := (Keeps.refl _ _).alloc (by omega) _
      have hszA : (W1.alloc (.cells #[.int .u64 (s : Int)] 66)).heap.size = z1 + 1 := by simp [hz1]
      have hrA : ∃ r, (W1.alloc (.cells #[.int .u64 (s : Int)] 66)).heap[l]? = some (.loop r) := by
        obtain ⟨r, hr⟩ := HR.out
        exact ⟨r, (Below.heap_alloc W1 _ l (Array.getElem?_eq_some_iff.1 hr).1).trans hr⟩
      have hXD : B1 ≠ D := by omega
      have hXM : B1 ≠ D + 1 := by omega
      obtain ⟨W2, hW2⟩ : ∃ W2, W1.alloc (.cells #[.int .u64 (s : Int)] 66) = W2 := ⟨_, rfl⟩
      rw [hW2] at bD bM bL gI bG bS bN bX bE hK1 hszA hrA ⊢
      rw [hz1]
      have hpw : w.heap.size = p := HP.out
      have hE2 : Ex w W2 := HE4.out.trans' (HKW.out.1.trans hK1.1) (by omega)
      have hT2 := HTB.out.ex hE2
      have HK1 := Lib.hid hK1
      have HE2 := Lib.hid hE2
      have hpz : p < z1 := by omega
      have hTl2 : 1 < p := by omega
      clear HDn HM HL HGI HG HS HN HX HR eA hW2 hz1 hE2
      refine range_in (n := 20 - 1 - 1) (n₀ := p) (by omega) hrA (gf := 112) (lb := #[.pointer (some ⟨z1, 0, none⟩)]) rfl (enters_of Tryz.func112 (by kernel_rfl) rfl)
        (all_stops (20 - 1 - 1 - 1) (by omega) z1 p s W2 hs256 (by omega) (bE.cell 0) hT2 hTl2) (by omega) (fun _ => rfl)
        (fun pre2 W => (Has W D 2 (numT t.length (cosRow t a S1 (pre2.map fun x => x.1)).2) ∧ Has W (D + 1) 66 #[.int .u64 ((cosRow t a S1 (pre2.map fun x => x.1)).1 : Int)]) ∧ (∃ v, Boxed W (p + 1 + 1 + 1) 25 v ∧ W.ownsRow (D + 1) 2 1 v S1.fst.length (ltI S1.fst) ∧ v = .slice FA S1.fst.length fc) ∧ Has W p 32 #[.slice (some ⟨b, o, none⟩) t.length c] ∧ Has W (p + 1) 66 #[.int .u64 (s : Int)] ∧ Has W (p + 1 + 1) 25 #[.slice (some ⟨D, 0, none⟩) t.length t.length] ∧ Has W B1 2 #[.int .i64 (a : Int)])
        (fun c' _ W => False)
        (OwnFrom.and (OwnFrom.and (Own.from (has_own _ _ _) _) (Own.from (has_own _ _ _) _)) (OwnFrom.and (Own.from (holdsRow_own (D + 1) (p + 1 + 1 + 1) 25 2 1 (fun _ => S1.fst.length) (fun _ => ltI S1.fst) (fun _ v => v = .slice FA S1.fst.length fc)) _) (OwnFrom.and (Own.from (has_own _ _ _) _) (OwnFrom.and (Own.from (has_own _ _ _) _) (OwnFrom.and (Own.from (has_own _ _ _) _) (Own.from (has_own _ _ _) _))))))
        (fun _ => ownFrom_pure _ _)
        ⟨⟨bD, bM⟩, ⟨_, bL, gI.1, rfl⟩, bG, bS, bN, bX⟩ ?round2 ?done2 ?stop2
      case stop2 =>
        rintro c' pre' W hpre h
        exact h.elim
      case done2 =>
        rintro ys W hys ⟨⟨hD2, hM2⟩, ⟨v, hL2, hrow2, rfl⟩, hG2, hS2, hN2, hX2⟩ hKW2
        rw [hys] at hD2 hM2
        have hgi2 : GrowI W (D + 1) (.slice FA S1.fst.length fc) S1.fst.length (S1.fst.map fun x : Nat => (x : Int)) := ⟨hrow2, by simp⟩
        have HGI2 := Lib.hid hgi2
        have HL2 := Lib.hid (show Has W (p + 1 + 1 + 1) 25 #[.slice FA S1.fst.length fc] from hL2)
        have HD2 := Lib.hid hD2
        have HM2 := Lib.hid hM2
        have HG2 := Lib.hid hG2
        have HS2 := Lib.hid hS2
        have HN2 := Lib.hid hN2
        have HKW2 := Lib.hid hKW2
        have cL := HL2.out.cell 0
        have cX := hX2.cell 0
        have hDW := HD2.out.lt
        have hpW2 := HL2.out.lt
        clear hD2 hM2 hL2 hrow2 hgi2 hG2 hS2 hN2 hX2 hKW2 bD bM bL gI bG bS bN bX bE hK1 hszA hrA hT2
        gi_wp2_with (gi_at_builtin; refine wpListIn_append_own _ rfl _ _ 25 rfl (D + 1) 2 i0 (.int .i64 0) 1 8 Tryz.underlying25 hi hi0 hi1 hi2 rfl (by decide) _ _ _ rfl (HGI2.out.1.alloc _) ⟨W.heap.size, 0, none⟩ 1 1 [.int .i64 (a : Int)] rfl rfl (cell_one_new _ _ _) (by simp [Value.oneCell']) (by unfold maxLen; omega) (by omega) (by simp; omega) ?_; intro v' w3 hown3 hgrow3 _; have G3 := HGI2.out.ex (Ex.new W (.cells #[.int .i64 (a : Int)] 2)); have HKK := Lib.hid (Keeps.grew ((Keeps.refl p W).alloc (by omega) (.cells #[.int .i64 (a : Int)] 2)) G3 (by omega) (by simp; omega) hgrow3); have HL3 := Lib.hid (Has.grew (HL2.out.alloc (.cells #[.int .i64 (a : Int)] 2)) (by decide) G3 hgrow3); have HM3 := Lib.hid (Has.grew (HM2.out.alloc (.cells #[.int .i64 (a : Int)] 2)) (by decide) G3 hgrow3); have HG3 := Lib.hid (Has.grew (HG2.out.alloc (.cells #[.int .i64 (a : Int)] 2)) (by decide) G3 hgrow3); have HS3 := Lib.hid (Has.grew (HS2.out.alloc (.cells #[.int .i64 (a : Int)] 2)) (by decide) G3 hgrow3); have HN3 := Lib.hid (Has.grew (HN2.out.alloc (.cells #[.int .i64 (a : Int)] 2)) (by decide) G3 hgrow3); have HD3 := Lib.hid (Has.grewLow (HD2.out.alloc (.cells #[.int .i64 (a : Int)] 2)) (by omega) G3 hgrow3); have HG4 := Lib.hid (G3.snoc hown3); obtain ⟨g3, cap3, rfl⟩ := ownsRow_succ hown3; have cL3 := HL3.out.cell 0; have fL3 := HL3.out.free 0; clear hown3 hgrow3 G3)
        refine ⟨HK1.out.trans (HKW2.out.trans (HKK.out.setCell (p := ⟨p + 1 + 1 + 1, 0, none⟩) (by show p ≤ p + 1 + 1 + 1; omega) _)), ⟨?_, ?_⟩, ?_, HG3.out.far (p := ⟨p + 1 + 1 + 1, 0, none⟩) (by show p ≠ p + 1 + 1 + 1; omega) _, HS3.out.far (p := ⟨p + 1 + 1 + 1, 0, none⟩) (by show p + 1 ≠ p + 1 + 1 + 1; omega) _, HN3.out.far (p := ⟨p + 1 + 1 + 1, 0, none⟩) (by show p + 1 + 1 ≠ p + 1 + 1 + 1; omega) _⟩
        · rw [HSNOC.out, HST.out]
          exact HD3.out.far (p := ⟨p + 1 + 1 + 1, 0, none⟩) (by show D ≠ p + 1 + 1 + 1; omega) _
        · rw [HSNOC.out, HST.out]
          exact HM3.out.far (p := ⟨p + 1 + 1 + 1, 0, none⟩) (by show D + 1 ≠ p + 1 + 1 + 1; omega) _
        · rw [HSNOC.out, HST.out]
          refine ⟨_, HL3.out.put1, ?_, trivial⟩
          have h := (HG4.out.set HL3.out (by decide) 0 (.slice (some ⟨g3, 0, none⟩) (S1.fst.length + 1) cap3)).1
          simpa [ltI] using h
      case round2 =>
        clear bD bM bL gI bG bS bN bX bE hK1 hszA hrA hT2
        intro l2 y W K hK
        have HK := Lib.hid hK
        clear hK
        gi_wp2
        refine HK.out _ ?_
        clear HK
        rintro l2 pre2 W3 hr2 ⟨⟨hD2, hM2⟩, ⟨v, hL2, hrow2, rfl⟩, hG2, hS2, hN2, hX2⟩ hKW2 _
        obtain ⟨d, hd⟩ := y
        dsimp only
        have hdN := HEL.out d hd
        have hE3 : Ex w W3 := HE2.out.trans' hKW2.1 (by omega)
        obtain ⟨he1, he2, hzN⟩ := HEN.out a d ha hdN W3 hE3
        have hR256 := lt256 hn8 (HCRL.out (pre2.map fun x => x.1) (fun y hy => by obtain ⟨x, _, rfl⟩ := List.mem_map.1 hy; exact HEL.out _ x.2))
        have HSN2 := Lib.hid (by rw [List.map_append]; exact cosRow_snoc t a S1 (pre2.map fun x => x.1) d : cosRow t a S1 ((pre2 ++ [(⟨d, hd⟩ : {a : Nat // a ∈ elN s})]).map fun x => x.1) = cosIn t a S1.fst.length (cosRow t a S1 (pre2.map fun x => x.1)) d)
        obtain ⟨z, hz⟩ : ∃ z, mul t a d = z := ⟨_, rfl⟩
        obtain ⟨R, hR⟩ : ∃ R, cosRow t a S1 (pre2.map fun x => x.1) = R := ⟨_, rfl⟩
        rw [hR] at hR256 HSN2 hD2 hM2
        rw [hz] at he2 hzN
        obtain ⟨fl, hfl⟩ : ∃ fl, S1.fst.length = fl := ⟨_, rfl⟩
        have HFL := Lib.hid hfl
        have HCI : Hid (cosRow t a S1 ((pre2 ++ [(⟨d, hd⟩ : {a : Nat // a ∈ elN s})]).map fun x => x.1) = (R.1 ||| 2 ^ z, fun y => if y = z then fl else R.2 y)) := Lib.hid (by rw [HSN2.out, cosIn, hz, hfl])
        have hz8 : z < 8 := by omega
        have HD2 := Lib.hid hD2
        have HM2 := Lib.hid hM2
        have HRW := Lib.hid hrow2
        have HL2 := Lib.hid (show Has W3 (p + 1 + 1 + 1) 25 #[.slice FA S1.fst.length fc] from hL2)
        have HG2 := Lib.hid hG2
        have HS2 := Lib.hid hS2
        have HN2 := Lib.hid hN2
        have HX2 := Lib.hid hX2
        rw [hfl] at HL2
        have hM3 := HM2.out.put1 (v := .int .u64 ((R.1 ||| 2 ^ z : Nat) : Int))
        have hD3 := HD2.out.far (p := ⟨D + 1, 0, none⟩) (by show D ≠ D + 1; omega) (.int .u64 ((R.1 ||| 2 ^ z : Nat) : Int))
        have hL3 := HL2.out.far (p := ⟨D + 1, 0, none⟩) (by show p + 1 + 1 + 1 ≠ D + 1; omega) (.int .u64 ((R.1 ||| 2 ^ z : Nat) : Int))
        have hN3 := HN2.out.far (p := ⟨D + 1, 0, none⟩) (by show p + 1 + 1 ≠ D + 1; omega) (.int .u64 ((R.1 ||| 2 ^ z : Nat) : Int))
        have hG3 := HG2.out.far (p := ⟨D + 1, 0, none⟩) (by show p ≠ D + 1; omega) (.int .u64 ((R.1 ||| 2 ^ z : Nat) : Int))
        have hS3 := HS2.out.far (p := ⟨D + 1, 0, none⟩) (by show p + 1 ≠ D + 1; omega) (.int .u64 ((R.1 ||| 2 ^ z : Nat) : Int))
        have hX3 := HX2.out.far (p := ⟨D + 1, 0, none⟩) hXM (.int .u64 ((R.1 ||| 2 ^ z : Nat) : Int))
        have HM3 := Lib.hid hM3
        have HD3 := Lib.hid hD3
        have HL3 := Lib.hid hL3
        have HN3 := Lib.hid hN3
        have HG3 := Lib.hid hG3
        have HS3 := Lib.hid hS3
        have HX3 := Lib.hid hX3
        have cG := HG2.out.cell 0
        have cX := HX2.out.cell 0
        have cM := HM2.out.cell 0
        have fM := HM2.out.free 0
        have cL3 := HL3.out.cell 0
        have cN3 := HN3.out.cell 0
        have cz : (W3.setCell ⟨D + 1, 0, none⟩ (.int .u64 ((R.1 ||| 2 ^ z : Nat) : Int))).cell? ⟨D, z, none⟩ = some (.int .i64 (R.2 z : Int)) := by rw [HD3.out.cell, numT, tab_get hzN]
        have fz := HD3.out.free z
        have hd0 : (0 : Int) ≤ (d : Int) := by omega
        have hdn : (d : Int) < (t.length : Int) := by omega
        have hzn : (z : Int) < (t.length : Int) := by omega
        have ha0 : (0 : Int) ≤ (a : Int) := by omega
        have han : (a : Int) < (t.length : Int) := by omega
        have HHW := Lib.hid (fun W => with_any R.1 z W hR256 hz8)
        have hpW3 := HD2.out.lt
        obtain ⟨q, hq⟩ : ∃ q, R.1 ||| 2 ^ z = q := ⟨_, rfl⟩
        rw [hq] at cz fz cL3 cN3 HM3 HD3 HL3 HN3 HG3 HS3 HX3 HCI HHW
        clear hM3 hD3 hL3 hN3 hG3 hS3 hX3 hD2 hM2 hL2 hrow2 hG2 hS2 hN2 hX2 hKW2 hE3 hz hR hfl HSN2 hq hR256
        gi_wp2_with (refine ⟨trivial, ?_⟩; gi_at_call 75; refine (CallsIn.inRound l2 (callsIn_wide.2 (HHW.out _))).mono ?_; rintro e w' ⟨rfl, rfl⟩)
        refine ⟨((Keeps.refl p W3).setCell (p := ⟨D + 1, 0, none⟩) (by show p ≤ D + 1; omega) _).setCell (p := ⟨D, z, none⟩) (by show p ≤ D; omega) _, ⟨?_, ?_⟩, ?_, HG3.out.far (p := ⟨D, z, none⟩) (by show p ≠ D; omega) _, HS3.out.far (p := ⟨D, z, none⟩) (by show p + 1 ≠ D; omega) _, HN3.out.far (p := ⟨D, z, none⟩) (by show p + 1 + 1 ≠ D; omega) _, HX3.out.far (p := ⟨D, z, none⟩) hXD _⟩
        · have h := HD3.out.put z (.int .i64 (fl : Int))
          rw [numT, tab_set hzN] at h
          rw [HCI.out, numT]
          refine Eq.mp (congrArg (fun f => Has _ D 2 f) (tab_congr fun y hy => ?_)) h
          by_cases hyz : y = z
          · rw [if_pos hyz]
            dsimp only
            rw [if_pos hyz]
          · rw [if_neg hyz]
            dsimp only
            rw [if_neg hyz]
        · rw [HCI.out]
          exact HM3.out.far (p := ⟨D, z, none⟩) (by show D + 1 ≠ D; omega) _
        · rw [HFL.out]
          rw [HFL.out] at HRW
          have hgi3 : GrowI W3 (D + 1) (.slice FA fl fc) fl (S1.fst.map fun x : Nat => (x : Int)) := ⟨HRW.out, by simp [HFL.out]⟩
          exact ⟨_, HL3.out.far (p := ⟨D, z, none⟩) (by show p + 1 + 1 + 1 ≠ D; omega) _, ((hgi3.set HM2.out (by decide) 0 _).setLow (by omega) z _).1, rfl⟩

end Go.Proofs.YtcdijeeabgmgmaaGreatDoor

/- QuotientOf: both contracts. -/
namespace Go.Proofs.YtcdijeeabgmgmaaGreatDoor
open Go.RowKit Go.Shelf

attribute [local go_sem] Oper.semAt_some

/-- An ascending list is what a filter keeps of a beginning of the numbers. -/
theorem asc_filter : ∀ (n : Nat) (l : List Nat), l.Pairwise (· < ·) → (∀ x ∈ l, x < n) → l = (List.range n).filter fun a => decide (a ∈ l)
  | 0, l, _, h => by
    rcases l with _ | ⟨x, l⟩
    · rfl
    · exact absurd (h x (by simp)) (by omega)
  | n + 1, l, hp, h => by
    rcases List.eq_nil_or_concat l with rfl | ⟨L, b, rfl⟩
    · simp
    · rw [List.concat_eq_append] at hp h ⊢
      have hL := List.pairwise_append.1 hp
      have hlt : ∀ x ∈ L, x < b := fun x hx => hL.2.2 x hx b (by simp)
      have hb := h b (by simp)
      rw [List.range_succ, List.filter_append]
      by_cases hbn : b = n
      · subst hbn
        have ih := asc_filter b L hL.1 hlt
        have e1 : (List.range b).filter (fun a => decide (a ∈ L ++ [b])) = (List.range b).filter (fun a => decide (a ∈ L)) := by
          refine List.filter_congr fun a ha => ?_
          have : a ≠ b := by have := List.mem_range.1 ha; omega
          simp [this]
        rw [e1, ← ih]
        simp
      · have hall : ∀ x ∈ L ++ [b], x < n := fun x hx => by
          rcases List.mem_append.1 hx with hx | hx
          · have := hlt x hx; omega
          · have : x = b := by simpa using hx
            omega
        have ih := asc_filter n (L ++ [b]) hp hall
        have hn : n ∉ L ++ [b] := fun hm => by have := hall n hm; omega
        rw [← ih]
        simp only [List.mem_append, List.mem_singleton, not_or] at hn
        simp [hn]
theorem els_bits {N : Nat} {xs : List Int} (hN : N ≤ 8) (h : setB N xs = true) : elN (bitsK xs xs.length) = elsL xs := by
  obtain ⟨hr, ha⟩ := setB_true.1 h
  have hmono : ∀ j, j < xs.length → ∀ i, i < j → nth xs i < nth xs j := by
    intro j
    induction j with
    | zero => exact fun _ i hi => absurd hi (by omega)
    | succ j ih =>
      intro hj i hi
      have h1 := ha (j + 1) (by omega) hj
      rw [Nat.add_sub_cancel] at h1
      rcases Nat.lt_or_ge i j with h2 | h2
      · have := ih (by omega) i h2
        omega
      · obtain rfl : i = j := by omega
        exact h1
  have hp : (elsL xs).Pairwise (· < ·) := by
    refine List.pairwise_iff_getElem.2 fun i j hi hj hij => ?_
    have hj' : j < xs.length := by simpa [elsL] using hj
    have h1 := hmono j hj' i hij
    have h2 := hr i (by omega)
    have h3 := hr j hj'
    simp only [elsL, List.getElem_map]
    rw [show xs[i] = nth xs i by simp [nth, show i < xs.length by omega], show xs[j] = nth xs j by simp [nth, hj']]
    omega
  have hl : ∀ x ∈ elsL xs, x < 8 := fun x hx => by
    obtain ⟨y, hy, rfl⟩ := List.mem_map.1 hx
    obtain ⟨i, hi, rfl⟩ := List.getElem_of_mem hy
    have h := hr i hi
    rw [show nth xs i = xs[i] by simp [nth, hi]] at h
    omega
  rw [asc_filter 8 (elsL xs) hp hl]
  unfold elN
  refine List.filter_congr fun a _ => ?_
  rw [bitsK_bit]
  congr 1
  refine propext ⟨fun ⟨i, hi, e⟩ => ?_, fun hm => ?_⟩
  · refine List.mem_map.2 ⟨xs[i], List.getElem_mem hi, ?_⟩
    rw [← e, show nth xs i = xs[i] by simp [nth, hi]]
  · obtain ⟨y, hy, rfl⟩ := List.mem_map.1 hm
    obtain ⟨i, hi, rfl⟩ := List.getElem_of_mem hy
    exact ⟨i, hi, by rw [show nth xs i = xs[i] by simp [nth, hi]]⟩

/-- The code of a quotient. -/
noncomputable def quC (t : List (List Int)) (xs : List Int) : Int := if setC t xs = 0 then (if subB t (bitsK xs xs.length) = true ∧ norB t (bitsK xs xs.length) = true then 0 else 5) else setC t xs
def quS (t : List (List Int)) (xs : List Int) : Cos := cosK t (elsL xs) t.length
noncomputable def yQuotientOf0 (t : List (List Int)) (xs : List Int) : List (List Int) := if quC t xs = 0 then mkT (quS t xs).fst.length (quS t xs).fst.length (fun i j => (quoV t (quS t xs) i j : Int)) else []
noncomputable def yQuotientOf1 (t : List (List Int)) (xs : List Int) : List Int := if quC t xs = 0 then (List.range t.length).map fun x => ((quS t xs).num x : Int) else []
noncomputable def qQuotientOf2 (t : List (List Int)) (xs : List Int) : Int := quC t xs
theorem quC_zero {t : List (List Int)} {xs : List Int} (h : quC t xs = 0) : setC t xs = 0 ∧ subB t (bitsK xs xs.length) = true ∧ norB t (bitsK xs xs.length) = true := by
  unfold quC at h
  split at h
  · rename_i h1
    split at h
    · rename_i h2
      exact ⟨h1, h2⟩
    · omega
  · rename_i h1
    exact absurd h h1
theorem setC_f {t : List (List Int)} {xs : List Int} (hc : setC t xs = 0) : grpB t = true ∧ setB t.length xs = true := by
  rcases setC_cases t xs with ⟨_, h⟩ | ⟨_, _, h⟩ | h
  · rw [h] at hc; cases hc
  · rw [h] at hc; cases hc
  · exact ⟨h.1, h.2.1⟩
theorem quS_b {t : List (List Int)} {xs : List Int} (hg : IsGrp t) (hb : setB t.length xs = true) : CosB t t.length (quS t xs) := by
  refine cosK_b hg (fun b hb' => ?_) _ (Nat.le_refl _)
  obtain ⟨x, hx, rfl⟩ := List.mem_map.1 hb'
  obtain ⟨i, hi, rfl⟩ := List.getElem_of_mem hx
  have h := (setB_true.1 hb).1 i hi
  rw [show nth xs i = xs[i] by simp [nth, hi]] at h
  omega
theorem quotientOf_small0 (t : List (List Int)) (xs : List Int) : SmallT (yQuotientOf0 t xs) := by
  unfold yQuotientOf0
  split
  · rename_i h
    obtain ⟨h1, h2⟩ := setC_f (quC_zero h).1
    have hg := grpB_iff.1 h1
    have := (quS_b hg h2).len
    have := hg.n8
    exact mkT_small (by omega) (by omega)
  · exact ⟨by simp, fun i hi => by simp at hi⟩
theorem quotientOf_small1 (t : List (List Int)) (xs : List Int) : (yQuotientOf1 t xs).length ≤ 1048576 := by
  unfold yQuotientOf1
  split
  · rename_i h
    have := (grpB_iff.1 (setC_f (quC_zero h).1).1).n8
    simp
    omega
  · simp
theorem qu_no {t : List (List Int)} {xs : List Int} {k : Int} (h : quC t xs = k) (hk : k ≠ 0) : yQuotientOf0 t xs = [] ∧ yQuotientOf1 t xs = [] ∧ qQuotientOf2 t xs = k := by
  refine ⟨?_, ?_, h⟩
  · unfold yQuotientOf0
    rw [h, if_neg hk]
  · unfold yQuotientOf1
    rw [h, if_neg hk]
theorem qu_yes {t : List (List Int)} {xs : List Int} (h : quC t xs = 0) : yQuotientOf0 t xs = mkT (quS t xs).fst.length (quS t xs).fst.length (fun i j => (quoV t (quS t xs) i j : Int)) ∧ yQuotientOf1 t xs = (List.range t.length).map (fun x => ((quS t xs).num x : Int)) ∧ qQuotientOf2 t xs = 0 := by
  refine ⟨?_, ?_, h⟩
  · unfold yQuotientOf0
    rw [if_pos h]
  · unfold yQuotientOf1
    rw [if_pos h]
theorem has_num {w : World} {D N lo : Nat} {f : Nat → Nat} (h : Has w D 2 (tab N fun x => .int .i64 (f x : Int))) (hl : lo ≤ D) : OwnL w lo w.heap.size (some ⟨D, 0, none⟩) ((List.range N).map fun x => (f x : Int)) := by
  refine OwnL.of_has (n := N) (e := 2) ?_ (by simp) hl
  rw [tab_congr (g := fun j => .int .i64 (f j : Int)) (fun j hj => by simp [nth, hj])]
  exact h
theorem OwnL.of_hasM {w : World} {lo hi g n : Nat} {e : TypeId} {xs : List Int} (h : Has w g e (tab n fun j => .int .i64 (nth xs j))) (hn : n = xs.length) (hl : lo ≤ g) (hh : g < hi) (hs : hi ≤ w.heap.size) : OwnL w lo hi (some ⟨g, 0, none⟩) xs := by
  subst hn
  exact ⟨hs, fun _ => ⟨g, 0, rfl, hl, hh, fun j hj => ⟨by rw [Nat.zero_add, h.cell, tab_get hj], h.free _⟩⟩⟩
theorem has_numM {w : World} {D N lo hi : Nat} {f : Nat → Nat} (h : Has w D 2 (tab N fun x => .int .i64 (f x : Int))) (hl : lo ≤ D) (hh : D < hi) (hs : hi ≤ w.heap.size) : OwnL w lo hi (some ⟨D, 0, none⟩) ((List.range N).map fun x => (f x : Int)) := by
  refine OwnL.of_hasM (n := N) (e := 2) ?_ (by simp) hl hh hs
  rw [tab_congr (g := fun j => .int .i64 (f j : Int)) (fun j hj => by simp [nth, hj])]
  exact h

end Go.Proofs.YtcdijeeabgmgmaaGreatDoor
