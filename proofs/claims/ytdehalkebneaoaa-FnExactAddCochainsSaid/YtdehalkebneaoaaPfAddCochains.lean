/-
  At every value of each parameter that can be read (a group value, a module value, a cochain value, a cochain value, a number): FnExactAddCochains answers true and its arguments read as before: AddCochains answers as its model does. No condition.
-/
import Derived.Test.YtdehalkebneaoaaFrm3
import Derived.Test.YtdehalkebneaoaaJp
import Derived.Test.YtdehalkebneaoaaLwAddCochains
import Derived.Test.YtdehalkebneaoaaAu
namespace Go.Proofs.Ytdehalkebneaoaa
open Go.ChangeShapes Go.WideShapes Go.ChangeAt Go.RowKit

set_option maxRecDepth 100000 in
theorem addCochains_lifted (os : Os) (started : os.Started) (H : Type) (enc : TypeId × Value → H) :
    ReturnsInHanded {} Try.checked os 13 .any (Rows.fnExactAddCochainsSpec.pre6 enc Try.prog Try.f13 Rows.fnExactAddCochainsRow.domain false) (Rows.fnExactAddCochainsSpec.post enc Try.prog Try.f13 false true false false) := by
  refine returnsInHanded_of_change (C := Try.checked) own_ started (by kernel_rfl) Try.func13
    (ChangeSpec.witness6 (enc := enc) (C := Try.checked) false ⟨#[], #[.agg #[.slice none 0 0], .agg #[.int .i64 0, .slice none 0 0], .agg #[.int .i64 0, .slice none 0 0], .agg #[.int .i64 0, .slice none 0 0], .int .i64 0], []⟩ 8 (by kernel_rfl) (by kernel_rfl) (by kernel_rfl) (by kernel_rfl)) ?_
  intro W base args ds gs before hval0 hW hcnd _
  have hval : ∀ (j : Nat) t v, Try.f13.params[j]? = some t → args[j]? = some v → Value.okWide Try.prog W .any base t v := hval0
  have hW' := hW
  obtain ⟨p, q, hA0, hV, rfl, hfz, hnd⟩ := hW
  have hA : DataW.TrodAll enc Try.prog W 0 (fun _ => true) true Try.f13.params.toList args.toList ds p := hA0
  rw [Try.params13] at hA hval
  obtain ⟨v0, v1, v2, v3, v4, d0, d1, d2, d3, d4, p0, p1, p2, p3, p4, rfl, rfl, rfl, h0, h1, h2, h3, h4⟩ := trodAll_five hA
  obtain ⟨rfl, rfl⟩ := trodVars_none hV
  obtain ⟨A0, t0, c0, rfl, hR0, hn0, hl0, _⟩ := open_group (hval 0 24 v0 rfl rfl) h0
  obtain ⟨m1, A1, t1, c1, rfl, hR1, hn1⟩ := open_module (hval 1 48 v1 rfl rfl) h1
  obtain ⟨m2, A2, t2, c2, rfl, hR2, hn2⟩ := open_cochain (hval 2 63 v2 rfl rfl) h2
  obtain ⟨m3, A3, t3, c3, rfl, hR3, hn3⟩ := open_cochain (hval 3 63 v3 rfl rfl) h3
  obtain ⟨m4, rfl, rfl, rfl, w4⟩ := open_int Try.underlying2 (hval 4 2 v4 rfl rfl) h4
  clear hA0 hval0
  simp only [List.append_nil] at hW'
  have hlt0 : ∀ x ∈ p0, x.block < W.heap.size := fun x hx => hW'.lt x (by simp [hx])
  have hlt1 : ∀ x ∈ p1, x.block < W.heap.size := fun x hx => hW'.lt x (by simp [hx])
  have hlt2 : ∀ x ∈ p2, x.block < W.heap.size := fun x hx => hW'.lt x (by simp [hx])
  have hlt3 : ∀ x ∈ p3, x.block < W.heap.size := fun x hx => hW'.lt x (by simp [hx])
  refine (lawAddCochains_any A0 t0 c0 m1 A1 t1 c1 m2 A2 t2 c2 m3 A3 t3 c3 m4 (qAddCochains0 t0 m1 t1 m2 t2 m3 t3 m4) (yAddCochains0 t0 m1 t1 m2 t2 m3 t3 m4) (qAddCochains1 t0 m1 t1 m2 t2 m3 t3 m4) W hR0 hn0 hl0 hR1 hn1 hR2 hn2 hR3 hn3 (addCochains_small0 t0 m1 t1 m2 t2 m3 t3 m4) (specAddCochains_ex t0 m1 t1 m2 t2 m3 t3 m4) (implAddCochains_ex t0 m1 t1 m2 t2 m3 t3 m4)).mono fun e W' ⟨he, hb⟩ => ?_
  subst he
  exact ⟨_, rfl, law_post (pa := p0 ++ (p1 ++ (p2 ++ (p3 ++ ([]))))) hW' hb rfl rfl rfl (trodAll_mk5 (Below.trod laidOut_ (by kernel_rfl) (of_decide_eq_true (by kernel_rfl)) h0 hb hlt0) (Below.trod laidOut_ (by kernel_rfl) (of_decide_eq_true (by kernel_rfl)) h1 hb hlt1) (Below.trod laidOut_ (by kernel_rfl) (of_decide_eq_true (by kernel_rfl)) h2 hb hlt2) (Below.trod laidOut_ (by kernel_rfl) (of_decide_eq_true (by kernel_rfl)) h3 hb hlt3) (shut_int Try.underlying2 w4)) (by simp)⟩

theorem addCochains_j10 : (Rows.fnExactAddCochainsRow.inPlace == Try.prog.inPlace 13) = true := by kernel_rfl
theorem addCochains_j11 : (Rows.fnExactAddCochainsRow.unfollowed == Try.prog.unfollowed 13) = true := by kernel_rfl
theorem addCochains_j12 : (Rows.fnExactAddCochainsRow.recurses == Try.prog.recurses 13) = true := by kernel_rfl
theorem addCochains_j13 : (Rows.fnExactAddCochainsRow.named == Try.prog.varsNamed 13) = true := by kernel_rfl
theorem addCochains_j5 : namedTie Try.prog Rows.fnExactAddCochainsRow.named Rows.fnExactAddCochainsSpec.vars = true := by kernel_rfl
theorem addCochains_j23 : (Rows.fnExactAddCochainsRow.plainKeys == Try.prog.plainKeys) = true := by kernel_rfl
theorem addCochains_j27 : (Rows.fnExactAddCochainsRow.lifted == Try.prog.liftsFinal) = true := by rw [jp_final]; rfl
theorem addCochains_j28 : (Try.prog.make == some Rows.fnExactAddCochainsRow.make) = true := by rw [jp_make]; rfl

theorem addCochains_closed : joinedFacts Try.prog 13 Try.f13 Rows.fnExactAddCochainsSpec Rows.fnExactAddCochainsRow = true :=
  joined_parts (by kernel_rfl) jp_laid jp_maps (by kernel_rfl) addCochains_j5 (by kernel_rfl) jp_stops (by kernel_rfl) jp_knobs addCochains_j10 addCochains_j11 addCochains_j12 addCochains_j13 (by kernel_rfl) (by kernel_rfl) (by kernel_rfl) (by kernel_rfl) (by kernel_rfl) (by kernel_rfl) (by kernel_rfl) (by kernel_rfl) (by kernel_rfl)
    addCochains_j23 (by kernel_rfl) jp_heard jp_enter addCochains_j27 addCochains_j28 (by kernel_rfl) (by kernel_rfl) (by kernel_rfl) (by kernel_rfl)

theorem addCochains_named : Try.pinned.checked.prog.funcNamed Rows.fnExactAddCochainsRow.func = some 13 := by kernel_rfl

theorem addCochains_holds : Rows.FnExactAddCochainsSaid :=
  OpenClaim.holds_of_wide 13 Try.f13 rfl rfl rfl rfl rfl rfl rfl ⟨rfl, rfl, rfl, rfl, rfl⟩ rfl rfl rfl rfl rfl addCochains_named Try.func13 addCochains_closed
    (of_decide_eq_true (by kernel_rfl)) (by unfold Func.isWrapper; first | (rw [if_pos (by decide +kernel)]; kernel_rfl) | (rw [if_neg (by decide +kernel)]; exact ⟨rfl, rfl⟩))
    (fun os started H enc _ => addCochains_lifted os started H enc)

end Go.Proofs.Ytdehalkebneaoaa
