/- A list of the call's own with the numbers of another one. -/
import Derived.Deep.AppendSrc
import Derived.Deep.Upon
import Derived.Test.YtcdijeeabgmgmaaGreatDoorCel
namespace Go.Proofs.YtcdijeeabgmgmaaGreatDoor
open Go.RowKit

theorem wpList_append_nothing {P : Program} {w : World} {ops : Array Oper} {rest : List Oper} {o : Oper} {a : Act} {Q : Exit → Act → World → Prop} (hgd : o.guard = none) (s x : Operand) (t tx : TypeId)
    (ho : o.op = .call { callee := .builtin .append, args := #[s, x], argTypes := #[t, tx] })
    (e : TypeId) (i : TypeInfo) (ht : P.underlying t = some (.slice e)) (hi : P.info? e = some i) (base : Option Addr) (n c : Nat) (hle : n ≤ c) (hs : a.eval s = .slice base n c) (xv : Value) (hx : a.eval x = xv) (hsrc : Src P i.size tx xv 0 [] w)
    (h : wpList P ops Q rest (a.put o.dst (.slice base n c)) w) : wpList P ops Q (o :: rest) a w := by
  refine wpList_plain hgd fun K hK => ?_
  have hrun := run_append_nothing (P := P) w t tx o.type e i ht hi base n c hle xv hsrc
  unfold Oper.wp
  simp [execOp, ho, resolve, invoke, builtin, hs, hx, hrun, Result.andThen]
  exact hK _ _ h

theorem news_of_ints {w w' : World} {b o : Nat} {xs : List Int} (hb : b < w.heap.size) (hc : ∀ j, j < xs.length → w.cell? ⟨b, o + j, none⟩ = some (.int .i64 (nth xs j))) (he : Ex w w') :
    ∀ j u, (xs.map fun x => Value.int .i64 x)[j]? = some u → w'.cell? ((⟨b, o, none⟩ : Addr).add j) = some u := by
  intro j u h
  rw [List.getElem?_map] at h
  obtain ⟨x, hx, rfl⟩ := Option.map_eq_some_iff.1 h
  have hj : j < xs.length := (List.getElem?_eq_some_iff.1 hx).1
  rw [Addr.add_lit]
  rw [(he.below.cell (p := ⟨b, o + j, none⟩) hb).trans (hc j hj)]
  simp [nth, hx]

set_option maxHeartbeats 1000000 in
theorem l01Own_any (L : Option Addr) (xs : List Int) (c : Nat) (w : World) (hX : IntsW w L xs) (hx : xs.length ≤ 1048576) :
    Calls Tryz.prog 135 #[.slice L xs.length c] w fun e w' => ∃ v, e = .returned v ∧ Ex w w' ∧ GrowI w' w.heap.size v xs.length xs := by
  obtain ⟨i0, hi, hi0, hi1, hi2⟩ := info_parts infoI
  have e0 := Ex.new w (.cells #[] 2)
  have HG := Lib.hid (GrowI.empty (lo := w.heap.size) w (Nat.le_refl _))
  have HE := Lib.hid e0
  rcases hX.ints with h0 | ⟨b, o, rfl, hb, hc⟩
  · subst h0
    go_enter Tryz.func135, Tryz.ntmps135
    have hsrc : ∀ W : World, Src Tryz.prog i0.size 25 (.slice L 0 c) 0 [] W := fun W => by
      cases L with
      | none => exact Src.ofNil W Tryz.underlying25 c
      | some a => exact Src.ofSlice W Tryz.underlying25 a 0 c [] (by simp) (fun j u h => by simp at h) (fun u h => by cases h)
    go_wp2_with (at_builtin; refine wpList_append_nothing rfl _ _ 25 25 rfl 2 i0 Tryz.underlying25 hi _ 0 0 (Nat.le_refl _) rfl _ rfl (hsrc _) ?_)
    go_ret
    exact ⟨_, rfl, HE.out, HG.out⟩
  · have HN := Lib.hid (news_of_ints hb hc e0)
    have H1 := Lib.hid (show ∀ u ∈ (xs.map fun x => Value.int .i64 x), u.oneCell' = true from fun u h => by
      obtain ⟨x, _, rfl⟩ := List.mem_map.1 h
      rfl)
    obtain ⟨ys, hys⟩ : ∃ ys, (xs.map fun x => Value.int .i64 x) = ys := ⟨_, rfl⟩
    have HL := Lib.hid (show ys.length = xs.length * 1 by rw [← hys]; simp)
    rw [hys] at HN H1
    have HYS := Lib.hid hys
    obtain ⟨n, hn⟩ : ∃ n, xs.length = n := ⟨_, rfl⟩
    have HNN := Lib.hid hn
    rw [hn] at HL hx ⊢
    clear hc hb hX e0 hys hn
    go_enter Tryz.func135, Tryz.ntmps135
    go_wp2_with (at_builtin; refine wpList_append_own _ rfl _ _ 25 rfl w.heap.size 2 i0 (.int .i64 0) 1 8 Tryz.underlying25 hi hi0 hi1 hi2 rfl (by decide) _ 0 _ rfl HG.out.1 ⟨b, o, none⟩ n c ys rfl HL.out HN.out H1.out (by unfold maxLen; omega) (by omega) HE.out.size ?_; intro v' w3 hown3 hgrow3 _; have HO := Lib.hid hown3; have HW := Lib.hid hgrow3; clear hown3 hgrow3)
    go_ret
    refine ⟨v', rfl, Ex.grew HE.out HG.out (Nat.le_refl _) HW.out, ?_, HNN.out⟩
    have := HO.out
    rw [← HYS.out] at this
    simpa using this

theorem l01Own_sl (L : Option Addr) (xs : List Int) (c : Nat) (w : World) (hX : IntsW w L xs) (hx : xs.length ≤ 1048576) :
    Calls Tryz.prog 135 #[.slice L xs.length c] w fun e w' => ∃ A' c', e = .returned (.slice A' xs.length c') ∧ Ex w w' ∧ GrowI w' w.heap.size (.slice A' xs.length c') xs.length xs :=
  (l01Own_any L xs c w hX hx).mono fun e w' ⟨v, h1, h2, h3⟩ => by
    obtain ⟨A, c', rfl⟩ := h3.form
    exact ⟨A, c', h1, h2, h3⟩

end Go.Proofs.YtcdijeeabgmgmaaGreatDoor
