/-
  At every group value and every list of numbers that can be read: FnExactIsHomomorphism answers true and its arguments read as before: IsHomomorphism answers as its model does. No condition.
-/
import Derived.Test.YtahilkhnlobaoaaFrm
import Derived.Test.YtahilkhnlobaoaaJp
import Derived.Test.YtahilkhnlobaoaaLw5b
namespace Go.Proofs.Ytahilkhnlobaoaa
open Go.ChangeShapes Go.WideShapes Go.ChangeAt Go.RowKit

set_option maxRecDepth 100000 in
/-- A list of numbers that came in. -/
theorem open_list {H : Type} {enc : TypeId × Value → H} {w : World} {r : Reach} {b0 base : Nat} {held : Bool} {v : Value} {d : DataW H} {p : List MemPlace} (hv : Value.okWide Try.prog w r b0 27 v)
    (h : DataW.Trod enc Try.prog w base (fun _ => true) held 27 v d p) :
    ∃ L xs c, v = .slice L xs.length c ∧ Ints w w.heap.size L xs ∧ xs.length ≤ maxLen := by
  obtain ⟨a0, len0, cap0, rfl⟩ := okWide_slice Try.underlying27 hv
  obtain ⟨fuel, hf⟩ := h
  rcases open_ints Try.underlying27 Try.underlying2 cells1 hf with ⟨hcs, _⟩ | ⟨a, len, cap, zs, hcs, _, hl, hm, hz, _, hcell, _⟩
  · simp [Value.cells] at hcs
    obtain ⟨rfl, rfl, rfl⟩ := hcs
    exact ⟨none, [], 0, rfl, .inl rfl, Nat.zero_le _⟩
  · simp [Value.cells] at hcs
    obtain ⟨rfl, rfl, rfl⟩ := hcs
    have hz' : zs.length = cap0 := by simpa using hz
    have hlen : (zs.take len0).length = len0 := by rw [List.length_take, hz']; omega
    refine ⟨some a, zs.take len0, cap0, by rw [hlen], ?_, by rw [hlen]; omega⟩
    rcases Nat.eq_zero_or_pos len0 with h0 | h0
    · left
      rw [h0]
      rfl
    · obtain ⟨b', o', hab, hlt⟩ := addr_of_cell (hcell 0 (by omega))
      have ha : a = ⟨b', o', none⟩ := by simpa [Addr.add] using hab
      subst ha
      refine .inr ⟨b', o', rfl, hlt, fun j hj => ?_⟩
      rw [hlen] at hj
      have h8 := hcell j (by omega)
      rw [add_plain] at h8
      rw [h8]
      simp [nth, hj, List.getD]

set_option maxRecDepth 100000 in
theorem isHom_lifted (os : Os) (started : os.Started) (H : Type) (enc : TypeId × Value → H) :
    ReturnsInHanded {} Try.checked os 4 .any (Rows.fnExactIsHomomorphismSpec.pre6 enc Try.prog Try.f4 Rows.fnExactIsHomomorphismRow.domain false) (Rows.fnExactIsHomomorphismSpec.post enc Try.prog Try.f4 false true false false) := by
  refine returnsInHanded_of_change (C := Try.checked) own_ started (by kernel_rfl) Try.func4
    (ChangeSpec.witness6 (enc := enc) (C := Try.checked) false ⟨#[], #[.agg #[.slice none 0 0], .agg #[.slice none 0 0], .slice none 0 0], []⟩ 8 (by kernel_rfl) (by kernel_rfl) (by kernel_rfl) (by kernel_rfl)) ?_
  intro W base args ds gs before hval0 hW hcnd _
  have hval : ∀ (j : Nat) t v, Try.f4.params[j]? = some t → args[j]? = some v → Value.okWide Try.prog W .any base t v := hval0
  have hW' := hW
  obtain ⟨p, q, hA0, hV, rfl, hfz, hnd⟩ := hW
  have hA : DataW.TrodAll enc Try.prog W 0 (fun _ => true) true Try.f4.params.toList args.toList ds p := hA0
  rw [Try.params4] at hA hval
  obtain ⟨v0, v1, v2, d0, d1, d2, p0, p1, p2, rfl, rfl, rfl, h0, h1, h2⟩ := trodAll_three hA
  obtain ⟨rfl, rfl⟩ := trodVars_none hV
  obtain ⟨A, t, c, rfl, hR, hn, hl, _⟩ := open_group (hval 0 43 v0 rfl rfl) h0
  obtain ⟨A', u, c', rfl, hR', hn', hl', _⟩ := open_group (hval 1 43 v1 rfl rfl) h1
  obtain ⟨L, xs, d, rfl, hX, hm⟩ := open_list (hval 2 27 v2 rfl rfl) h2
  clear hA0 hval0
  simp only [List.append_nil] at hW'
  have hlt0 : ∀ x ∈ p0, x.block < W.heap.size := fun x hx => hW'.lt x (by simp [hx])
  have hlt1 : ∀ x ∈ p1, x.block < W.heap.size := fun x hx => hW'.lt x (by simp [hx])
  have hlt2 : ∀ x ∈ p2, x.block < W.heap.size := fun x hx => hW'.lt x (by simp [hx])
  refine (lawIsHom_any A A' L t u xs c c' d W hR hR' hX hn hl hn' hl' hm).mono fun e W' ⟨he, hb⟩ => ?_
  subst he
  exact ⟨_, rfl, law_post (pa := p0 ++ (p1 ++ p2)) hW' hb rfl rfl rfl (trodAll_mk3 (Below.trod laidOut_ (by kernel_rfl) (of_decide_eq_true (by kernel_rfl)) h0 hb hlt0) (Below.trod laidOut_ (by kernel_rfl) (of_decide_eq_true (by kernel_rfl)) h1 hb hlt1) (Below.trod laidOut_ (by kernel_rfl) (of_decide_eq_true (by kernel_rfl)) h2 hb hlt2)) (by simp)⟩

theorem isHom_j10 : (Rows.fnExactIsHomomorphismRow.inPlace == Try.prog.inPlace 4) = true := by kernel_rfl
theorem isHom_j11 : (Rows.fnExactIsHomomorphismRow.unfollowed == Try.prog.unfollowed 4) = true := by kernel_rfl
theorem isHom_j12 : (Rows.fnExactIsHomomorphismRow.recurses == Try.prog.recurses 4) = true := by kernel_rfl
theorem isHom_j13 : (Rows.fnExactIsHomomorphismRow.named == Try.prog.varsNamed 4) = true := by kernel_rfl
theorem isHom_j5 : namedTie Try.prog Rows.fnExactIsHomomorphismRow.named Rows.fnExactIsHomomorphismSpec.vars = true := by kernel_rfl
theorem isHom_j23 : (Rows.fnExactIsHomomorphismRow.plainKeys == Try.prog.plainKeys) = true := by kernel_rfl
theorem isHom_j27 : (Rows.fnExactIsHomomorphismRow.lifted == Try.prog.liftsFinal) = true := by rw [jp_final]; rfl
theorem isHom_j28 : (Try.prog.make == some Rows.fnExactIsHomomorphismRow.make) = true := by rw [jp_make]; rfl

theorem isHom_closed : joinedFacts Try.prog 4 Try.f4 Rows.fnExactIsHomomorphismSpec Rows.fnExactIsHomomorphismRow = true :=
  joined_parts (by kernel_rfl) jp_laid jp_maps (by kernel_rfl) isHom_j5 (by kernel_rfl) jp_stops (by kernel_rfl) jp_knobs isHom_j10 isHom_j11 isHom_j12 isHom_j13 (by kernel_rfl) (by kernel_rfl) (by kernel_rfl) (by kernel_rfl) (by kernel_rfl) (by kernel_rfl) (by kernel_rfl) (by kernel_rfl) (by kernel_rfl)
    isHom_j23 (by kernel_rfl) jp_heard jp_enter isHom_j27 isHom_j28 (by kernel_rfl) (by kernel_rfl) (by kernel_rfl) (by kernel_rfl)

theorem isHom_named : Try.pinned.checked.prog.funcNamed Rows.fnExactIsHomomorphismRow.func = some 4 := by kernel_rfl

theorem isHom_holds : Rows.FnExactIsHomomorphismSaid :=
  OpenClaim.holds_of_wide 4 Try.f4 rfl rfl rfl rfl rfl rfl rfl ⟨rfl, rfl, rfl, rfl, rfl⟩ rfl rfl rfl rfl rfl isHom_named Try.func4 isHom_closed
    (of_decide_eq_true (by kernel_rfl)) (by unfold Func.isWrapper; first | (rw [if_pos (by decide +kernel)]; kernel_rfl) | (rw [if_neg (by decide +kernel)]; exact ⟨rfl, rfl⟩))
    (fun os started H enc _ => isHom_lifted os started H enc)

end Go.Proofs.Ytahilkhnlobaoaa
