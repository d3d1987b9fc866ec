/- slices.Clone and slices.Delete at lists of numbers; mergedAt. -/
import Derived.Lib.SliceRun
import Derived.Deep.RegionLaw
import Derived.Shelf.RegionOpenPlain
import Derived.Test.YtcdijeeabgmgmaaGreatDoorOl
import Derived.Test.YtcdijeeabgmgmaaGreatDoorBd
namespace Go.Proofs.YtcdijeeabgmgmaaGreatDoor
open Go.RowKit

set_option maxHeartbeats 1000000 in
theorem clone_any (L : Option Addr) (xs : List Int) (c : Nat) (w : World) (hX : IntsW w L xs) (hp : 0 < xs.length) (hx : xs.length ≤ 1048576) :
    Calls Tryz.prog 167 #[.slice L xs.length c] w fun e w' => ∃ A' c', e = .returned (.slice A' xs.length c') ∧ Ex w w' ∧ GrowI w' w.heap.size (.slice A' xs.length c') xs.length xs := by
  obtain ⟨i0, hi, hi0, hi1, hi2⟩ := info_parts infoI
  have q22 : ∀ (w : World) (a : Option Addr) (n c n' c' : Nat), (binOp .eql 25 (.slice a n c) (.slice none n' c')).run Tryz.prog w = .ok (.bool a.isNone) w := fun w a n c n' c' => Lib.run_eql_slice_nil w _ _ a n c n' c' Tryz.underlying25
  have e0 := Ex.new w (.cells #[] 2)
  have HG := Lib.hid (GrowI.empty (lo := w.heap.size) w (Nat.le_refl _))
  have HE := Lib.hid e0
  rcases hX.ints with h0 | ⟨b, o, rfl, hb, hc⟩
  · subst h0
    cases hp
  · have HN := Lib.hid (news_of_ints hb hc e0)
    have H1 := Lib.hid (show ∀ u ∈ (xs.map fun x => Value.int .i64 x), u.oneCell' = true from fun u h => by
      obtain ⟨x, _, rfl⟩ := List.mem_map.1 h
      rfl)
    obtain ⟨ys, hys⟩ : ∃ ys, (xs.map fun x => Value.int .i64 x) = ys := ⟨_, rfl⟩
    have HL := Lib.hid (show ys.length = xs.length * 1 by rw [← hys]; simp)
    rw [hys] at HN H1
    have HYS := Lib.hid hys
    obtain ⟨n, hn⟩ : ∃ n, xs.length = n := ⟨_, rfl⟩
    have HNN := Lib.hid hn
    rw [hn] at HL hx ⊢
    clear hc hb hX e0 hys hn hp
    go_enter Tryz.func167, Tryz.ntmps167
    go_wp2_with (at_builtin; refine wpList_append_own _ rfl _ _ 25 rfl w.heap.size 2 i0 (.int .i64 0) 1 8 Tryz.underlying25 hi hi0 hi1 hi2 rfl (by decide) _ 0 _ rfl HG.out.1 ⟨b, o, none⟩ n c ys rfl HL.out HN.out H1.out (by unfold maxLen; omega) (by omega) HE.out.size ?_; intro v' w3 hown3 hgrow3 _; have HO := Lib.hid hown3; have HW := Lib.hid hgrow3; clear hown3 hgrow3)
    go_ret
    have hgr : GrowI w3 w.heap.size v' n xs := by
      refine ⟨?_, HNN.out⟩
      have := HO.out
      rw [← HYS.out] at this
      simpa using this
    obtain ⟨A', c', rfl⟩ := hgr.form
    exact ⟨A', c', rfl, Ex.grew HE.out HG.out (Nat.le_refl _) HW.out, hgr⟩

theorem setCells_one (w : World) (b o : Nat) (v : Value) (vs : List Value) : w.setCells b o (v :: vs) = (w.setCell ⟨b, o, none⟩ v).setCells b (o + 1) vs := rfl
theorem Only.at_ {lo hi b : Nat} (w : World) (o : Nat) (v : Value) (h1 : lo ≤ b) (h2 : b < hi) : Only lo hi w (w.setCell ⟨b, o, none⟩ v) := by
  have h := Only.set w b o v
  exact ⟨h.low.mono h1, fun x hx hx2 => h.same x (by omega) hx2⟩
theorem Only.refl (lo hi : Nat) (w : World) : Only lo hi w w := ⟨Below.refl _ _, fun _ _ _ => rfl⟩
theorem Only.setCells {lo hi b : Nat} (h1 : lo ≤ b) (h2 : b < hi) : ∀ (vs : List Value) (o : Nat) (w : World), Only lo hi w (w.setCells b o vs)
  | [], _, w => Only.refl _ _ w
  | v :: vs, o, w => by
    rw [setCells_one]
    exact (Only.at_ w o v h1 h2).trans (Only.setCells h1 h2 vs (o + 1) _) (Nat.le_refl _) (Nat.le_refl _)
/-- A block of numbers. -/
def TyB (w : World) (b : Nat) : Prop := ∃ cs, Has w b 2 cs
theorem TyB.lt {w : World} {b : Nat} (h : TyB w b) : b < w.heap.size := let ⟨_, h⟩ := h; h.lt
theorem TyB.ex {w w' : World} {b : Nat} (h : TyB w b) (k : Ex w w') : TyB w' b := let ⟨cs, h⟩ := h; ⟨cs, h.ex k⟩
theorem TyB.set {w : World} {b : Nat} (h : TyB w b) (b' o : Nat) (v : Value) : TyB (w.setCell ⟨b', o, none⟩ v) b := by
  obtain ⟨cs, h⟩ := h
  by_cases hb : b = b'
  · subst hb
    exact ⟨_, h.put o v⟩
  · exact ⟨cs, h.far (p := ⟨b', o, none⟩) hb v⟩
theorem TyB.setCells {b b' : Nat} : ∀ (vs : List Value) (o : Nat) (w : World), TyB w b → TyB (w.setCells b' o vs) b
  | [], _, _, h => h
  | v :: vs, o, _, h => TyB.setCells vs (o + 1) _ (h.set b' o v)
theorem OwnL.setCells {lo hi b o : Nat} : ∀ (ys : List Int) (k : Nat) (xs : List Int) (w : World), OwnL w lo hi (some ⟨b, o, none⟩) xs → k + ys.length ≤ xs.length →
    OwnL (w.setCells b (o + k) (ys.map fun x => .int .i64 x)) lo hi (some ⟨b, o, none⟩) (xs.take k ++ ys ++ xs.drop (k + ys.length))
  | [], k, xs, w, h, _ => by
    show OwnL w lo hi _ (xs.take k ++ [] ++ xs.drop (k + 0))
    rw [List.append_nil, Nat.add_zero, List.take_append_drop]
    exact h
  | y :: ys, k, xs, w, h, hl => by
    rw [List.length_cons] at hl
    have h1 := h.put (j := k) (by omega) y
    have h2 := OwnL.setCells ys (k + 1) (xs.set k y) _ h1 (by rw [List.length_set]; omega)
    rw [List.map_cons, setCells_one, Nat.add_assoc]
    have e : (xs.set k y).take (k + 1) ++ ys ++ (xs.set k y).drop (k + 1 + ys.length) = xs.take k ++ y :: ys ++ xs.drop (k + (y :: ys).length) := by
      rw [List.length_cons, show k + (ys.length + 1) = k + 1 + ys.length by omega, List.drop_set_of_lt (by omega)]
      rw [List.take_succ_eq_append_getElem (by rw [List.length_set]; omega), List.take_set_of_le (Nat.le_refl _), List.getElem_set_self]
      simp
    rw [← e]
    exact h2
theorem OwnL.take {w : World} {lo hi : Nat} {A : Option Addr} {xs : List Int} (h : OwnL w lo hi A xs) (p : Nat) : OwnL w lo hi A (xs.take p) := by
  refine ⟨h.1, fun hp => ?_⟩
  rw [List.length_take] at hp
  obtain ⟨b, o, e, h1, h2, hc⟩ := h.2 (by omega)
  refine ⟨b, o, e, h1, h2, fun j hj => ?_⟩
  rw [List.length_take] at hj
  rw [nth_take (by omega)]
  exact hc j (by omega)

set_option maxRecDepth 100000 in
set_option maxHeartbeats 4000000 in
/-- One element taken out of a list of the call's own. -/
theorem delete_any (b o n c i lo hi : Nat) (xs : List Int) (w : World) (h : OwnL w lo hi (some ⟨b, o, none⟩) xs) (hn : xs.length = n) (hc : n ≤ c) (hin : i < n) (hn8 : n ≤ 8) :
    Calls Tryz.prog 166 #[.slice (some ⟨b, o, none⟩) n c, .int .i64 (i : Int), .int .i64 ((i + 1 : Nat) : Int)] w fun e w' => e = .returned (.slice (some ⟨b, o, none⟩) (n - 1) c) ∧ Only lo hi w w' ∧ OwnL w' lo hi (some ⟨b, o, none⟩) (xs.take i ++ xs.drop (i + 1)) ∧ (TyB w b → TyB w' b) := by
  obtain ⟨i0, hi', hi0, hi1, hi2⟩ := info_parts infoI
  obtain ⟨b', o', e, hlo, hbh, hcl⟩ := h.2 (by omega)
  simp only [Option.some.injEq, Addr.mk.injEq, and_true] at e
  obtain ⟨rfl, rfl⟩ := e
  obtain ⟨ys, hys⟩ : ∃ ys, xs.drop (i + 1) = ys := ⟨_, rfl⟩
  have hyl : ys.length = n - (i + 1) := by rw [← hys, List.length_drop, hn]
  obtain ⟨news, hnews⟩ : ∃ news, (ys.map fun x => Value.int .i64 x) = news := ⟨_, rfl⟩
  have hnl : news.length = n - (i + 1) := by rw [← hnews]; simp [hyl]
  obtain ⟨A, hA, hsrc⟩ : ∃ A : Addr, (if c = i + 1 then some (⟨b, o, none⟩ : Addr) else some ⟨b, o + (i + 1), none⟩) = some A ∧ Hid (∀ t u, news[t]? = some u → w.drew.cell? (A.add t) = some u) := by
    by_cases hci : c = i + 1
    · refine ⟨⟨b, o, none⟩, by simp [hci], Lib.hid fun t u hu => ?_⟩
      have h0 : news.length = 0 := by omega
      rw [List.length_eq_zero_iff.1 h0] at hu
      simp at hu
    · refine ⟨⟨b, o + (i + 1), none⟩, by simp [hci], Lib.hid fun t u hu => ?_⟩
      have ht := (List.getElem?_eq_some_iff.1 hu).1
      rw [hnl] at ht
      rw [← hnews, List.getElem?_map] at hu
      obtain ⟨x, hx, rfl⟩ := Option.map_eq_some_iff.1 hu
      rw [Addr.add_lit, Nat.add_assoc]
      show w.cell? _ = _
      rw [(hcl (i + 1 + t) (by omega)).1, ← nth_drop, hys]
      simp [nth, hx]
  have s1 : Hid (news.length = (n - (i + 1)) * 1) := Lib.hid (by rw [Nat.mul_one]; exact hnl)
  have s2 : Hid (∀ u ∈ news, u.oneCell' = true) := Lib.hid fun u hu => by
    rw [← hnews] at hu
    obtain ⟨x, _, rfl⟩ := List.mem_map.1 hu
    rfl
  have s3 : Hid (∀ t, t < news.length → (w.drew.cell? ⟨b, o + i * 1 + t, none⟩).isSome = true ∧ w.drew.frozen? ⟨b, o + i * 1 + t, none⟩ = false) := Lib.hid fun t ht => by
    rw [hnl] at ht
    have h1 := hcl (i + t) (by omega)
    rw [Nat.mul_one, Nat.add_assoc]
    exact ⟨by show (w.cell? _).isSome = true; rw [h1.1]; rfl, h1.2⟩
  have HTY : Hid (TyB w b → TyB ((w.drew.setCells b (o + i * 1) news).setCells b (o + (n - 1)) [.int .i64 0]) b) := Lib.hid fun h => TyB.setCells _ _ _ (TyB.setCells _ _ _ (h.ex (Ex.refl w).drew))
  obtain ⟨W1, hW1⟩ : ∃ W1, w.drew.setCells b (o + i * 1) news = W1 := ⟨_, rfl⟩
  rw [hW1] at HTY
  have hO1 : OwnL W1 lo hi (some ⟨b, o, none⟩) (xs.take i ++ ys ++ xs.drop (i + ys.length)) := by
    rw [← hW1, ← hnews, Nat.mul_one]
    exact OwnL.setCells ys i xs _ (h.ex (Ex.refl w).drew) (by omega)
  have hU1 : Only lo hi w W1 := by
    rw [← hW1]
    exact (Only.of_ex (Ex.refl w).drew (Nat.le_trans hlo (Nat.le_of_lt (Nat.lt_of_lt_of_le hbh h.1))) hi).trans (Only.setCells hlo hbh _ _ _) (Nat.le_refl _) (Nat.le_refl _)
  have hzl : (xs.take i ++ ys ++ xs.drop (i + ys.length)).length = n := by
    rw [List.length_append, List.length_append, List.length_take, List.length_drop, hyl, hn]
    omega
  obtain ⟨zs, hzs⟩ : ∃ zs, xs.take i ++ ys ++ xs.drop (i + ys.length) = zs := ⟨_, rfl⟩
  rw [hzs] at hO1 hzl
  obtain ⟨_, _, e, _, _, hcl1⟩ := hO1.2 (by omega)
  simp only [Option.some.injEq, Addr.mk.injEq, and_true] at e
  obtain ⟨rfl, rfl⟩ := e
  have hl1 := hcl1 (n - 1) (by omega)
  have hclr : ∀ ty, (Builtin.clear_ #[25] ty #[.slice (some ⟨b, o + (n - 1), none⟩) 1 (c - (n - 1))]).run Tryz.prog W1 = .ok (.tuple #[]) (W1.setCells b (o + (n - 1)) [.int .i64 0]) := fun ty =>
    Lib.run_clear_slice W1 25 2 ty (.int .i64 0) Tryz.underlying25 (fun W => by kernel_rfl) rfl rfl b (o + (n - 1)) 1 (c - (n - 1)) (by omega) (fun j hj => by
      obtain rfl : j = 0 := by omega
      rw [Nat.add_zero, hl1.1]
      rfl) (fun j hj => by
      obtain rfl : j = 0 := by omega
      rw [Nat.add_zero]
      exact hl1.2)
  have hO2 : OwnL (W1.setCells b (o + (n - 1)) [.int .i64 0]) lo hi (some ⟨b, o, none⟩) (xs.take i ++ ys) := by
    have h1 := (OwnL.setCells [0] (n - 1) zs W1 hO1 (by simp; omega)).take (n - 1)
    have e : (zs.take (n - 1) ++ [0] ++ zs.drop (n - 1 + [(0 : Int)].length)).take (n - 1) = xs.take i ++ ys := by
      rw [List.append_assoc, List.take_append_of_le_length (by rw [List.length_take]; omega), List.take_take, Nat.min_self, ← hzs, List.take_append_of_le_length (by rw [List.length_append, List.length_take]; omega), List.take_of_length_le (by rw [List.length_append, List.length_take]; omega)]
    rw [e] at h1
    exact h1
  have hU2 : Only lo hi w (W1.setCells b (o + (n - 1)) [.int .i64 0]) := hU1.trans (Only.setCells hlo hbh _ _ _) (Nat.le_refl _) (Nat.le_refl _)
  have hm1 : i + (n - (i + 1)) = n - 1 := by omega
  have hclr' : ∀ ty, (Builtin.clear_ #[25] ty #[.slice (some ⟨b, o + (i + (n - (i + 1))), none⟩) (n - (i + (n - (i + 1)))) (c - (i + (n - (i + 1))))]).run Tryz.prog W1 = .ok (.tuple #[]) (W1.setCells b (o + (n - 1)) [.int .i64 0]) := by
    rw [hm1, show n - (n - 1) = 1 by omega]
    exact hclr
  have HM1 := Lib.hid hm1
  rw [hys]
  have HO2 := Lib.hid hO2
  have HU2 := Lib.hid hU2
  have hW : Hid (w.drew.setCells b (o + i * 1) news = W1) := Lib.hid hW1
  have hne : ((i : Int) == ((i + 1 : Nat) : Int)) = false := by simp; omega
  have hi8 : i + 1 ≤ n := by omega
  have hic : i + 1 ≤ c := by omega
  have hic0 : i ≤ c := by omega
  have hi10 : (0 : Int) ≤ (i : Int) + 1 := by omega
  have hin1 : (i : Int) + 1 ≤ (n : Int) := by omega
  have hnc : (n : Int) ≤ (c : Int) := by omega
  have mixed : Tryz.prog.follows .mixedOrders = true := by kernel_rfl
  clear hO2 hU2 hO1 hU1 hW1 hcl hcl1 hl1 hzs hzl hys hyl hnews hnl h hn hm1 hclr
  go_enter Tryz.func166, Tryz.ntmps166
  go_wp2_with fail
  go_region_law_o (refine step_append_room rfl (.tmp 22) (.tmp 25) 25 rfl 2 i0 1 Tryz.underlying25 hi' hi1 b o i c (by simp [Act.eval, Act.put]) A (n - (i + 1)) (c - (i + 1)) news (by simp [Act.eval, Act.put]) s1.out hsrc.out s2.out (by omega) s3.out ?_; rw [hW.out])
  go_wp2
  go_ret
  exact ⟨by rw [HM1.out]; rfl, HU2.out, HO2.out, HTY.out⟩

end Go.Proofs.YtcdijeeabgmgmaaGreatDoor
