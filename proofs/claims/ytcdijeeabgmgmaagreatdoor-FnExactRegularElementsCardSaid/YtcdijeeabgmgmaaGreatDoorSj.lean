/- A scope in which the run jumps to labels, several of them. -/
import Derived.ScopeJumps
import Derived.WalkMore
import Derived.Test.YtcdijeeabgmgmaaGreatDoorBa
namespace Go.Proofs.YtcdijeeabgmgmaaGreatDoor
open Go.RowKit

/-- As Q; by a goto to the label l: J l. -/
def jumpTo (J : Nat → Act → World → Prop) (Q : Exit → Act → World → Prop) : Exit → Act → World → Prop
  | .goto l, a, w => J l a w
  | .normal, a, w => Q .normal a w
  | .exit id, a, w => Q (.exit id) a w
  | .ret, a, w => Q .ret a w
  | .panic ch, a, w => Q (.panic ch) a w
  | .outgrown, a, w => Q .outgrown a w

theorem scope_labels {P : Program} {a : Act} {w : World} {Q : Exit → Act → World → Prop} {c : Code} (rest : Nat → Code) (J : Nat → Act → World → Prop) (μ : Nat → Act → World → Nat) (hf : ∀ l a w, J l a w → findLabel c l = some (rest l))
    (first : c.wp P (jumpTo J Q) a w) (pass : ∀ l a w, J l a w → (rest l).wp P (jumpTo (fun l' a' w' => J l' a' w' ∧ μ l' a' w' < μ l a w) Q) a w) : (Code.scope c).wp P Q a w := by
  intro b k cs
  have hg : ∀ l a w, J l a w → gotoIn l (.inScope c :: k) = some (.code (rest l) :: .inScope c :: k) := fun l a w hJ => by simp [gotoIn, hf l a w hJ]
  have key : ∀ n l a w, μ l a w = n → J l a w → ∃ e a' w', Q e a' w' ∧ Arrives P (lone (b.at a (.code (rest l) :: .inScope c :: k)) cs w) b k cs e a' w' := by
    intro n
    induction n using Nat.strongRecOn with
    | _ n ih =>
      intro l a w hn hJ
      obtain ⟨e, a₁, w₁, hq, harr⟩ := pass l a w hJ b (.inScope c :: k) cs
      cases e with
      | normal => exact ⟨.normal, a₁, w₁, hq, Steps.trans harr (.one step_inScope)⟩
      | exit id => exact ⟨.exit id, a₁, w₁, hq, fun k' hk => harr k' (by simp [exitTo, hk])⟩
      | goto l' =>
        obtain ⟨e₂, a₂, w₂, hq₂, harr₂⟩ := ih _ (by have := hq.2; omega) l' a₁ w₁ rfl hq.1
        exact ⟨e₂, a₂, w₂, hq₂, .of_steps (harr _ (hg l' a₁ w₁ hq.1)) harr₂⟩
      | ret => exact ⟨_, a₁, w₁, hq, harr⟩
      | panic ch => exact ⟨_, a₁, w₁, hq, harr⟩
      | outgrown => exact ⟨_, a₁, w₁, hq, harr⟩
  obtain ⟨e, a₁, w₁, hq, harr⟩ := first b (.inScope c :: k) cs
  cases e with
  | normal => exact ⟨.normal, a₁, w₁, hq, .head step_scope (Steps.trans harr (.one step_inScope))⟩
  | exit id => exact ⟨.exit id, a₁, w₁, hq, fun k' hk => .head step_scope (harr k' (by simp [exitTo, hk]))⟩
  | goto l' =>
    obtain ⟨e₂, a₂, w₂, hq₂, harr₂⟩ := key _ l' a₁ w₁ rfl hq
    exact ⟨e₂, a₂, w₂, hq₂, .of_steps (.head step_scope (harr _ (hg l' a₁ w₁ hq))) harr₂⟩
  | ret => exact ⟨_, a₁, w₁, hq, .of_steps (.one step_scope) harr⟩
  | panic ch => exact ⟨_, a₁, w₁, hq, .of_steps (.one step_scope) harr⟩
  | outgrown => exact ⟨_, a₁, w₁, hq, .of_steps (.one step_scope) harr⟩

theorem jumpTo_mono {J K : Nat → Act → World → Prop} {Q : Exit → Act → World → Prop} (h : ∀ l a w, J l a w → K l a w) : ∀ (e : Exit) (a : Act) (w : World), jumpTo J Q e a w → jumpTo K Q e a w
  | .goto l, a, w, hj => h l a w hj
  | .normal, _, _, hj => hj
  | .exit _, _, _, hj => hj
  | .ret, _, _, hj => hj
  | .panic _, _, _, hj => hj
  | .outgrown, _, _, hj => hj

theorem skip_seq {P : Program} {Q : Exit → Act → World → Prop} {c : Code} {a : Act} {w : World} (h : c.wp P Q a w) : (Code.skip.seq c).wp P Q a w := wp_seq (wp_skip h)

/-- Two labels; the run may also come to one from above. -/
theorem scope_two {P : Program} {a : Act} {w : World} {Q : Exit → Act → World → Prop} {c r0 r1 : Code} (hf0 : findLabel c 0 = some (Code.skip.seq r0)) (hf1 : findLabel c 1 = some (Code.skip.seq r1)) (J0 J1 : Act → World → Prop) (μ0 μ1 : Act → World → Nat)
    (first : (∀ a w, J0 a w → r0.wp P (jumpTo (fun l a' w' => (l = 0 ∧ J0 a' w') ∨ (l = 1 ∧ J1 a' w')) Q) a w) → (∀ a w, J1 a w → r1.wp P (jumpTo (fun l a' w' => (l = 0 ∧ J0 a' w') ∨ (l = 1 ∧ J1 a' w')) Q) a w) →
      c.wp P (jumpTo (fun l a' w' => (l = 0 ∧ J0 a' w') ∨ (l = 1 ∧ J1 a' w')) Q) a w)
    (pass0 : ∀ a w, J0 a w → (∀ a' w', J1 a' w' → μ1 a' w' < μ0 a w → r1.wp P (jumpTo (fun l a' w' => (l = 0 ∧ J0 a' w' ∧ μ0 a' w' < μ0 a w) ∨ (l = 1 ∧ J1 a' w' ∧ μ1 a' w' < μ0 a w)) Q) a' w') →
      r0.wp P (jumpTo (fun l a' w' => (l = 0 ∧ J0 a' w' ∧ μ0 a' w' < μ0 a w) ∨ (l = 1 ∧ J1 a' w' ∧ μ1 a' w' < μ0 a w)) Q) a w)
    (pass1 : ∀ a w, J1 a w → (∀ a' w', J0 a' w' → μ0 a' w' < μ1 a w → r0.wp P (jumpTo (fun l a' w' => (l = 0 ∧ J0 a' w' ∧ μ0 a' w' < μ1 a w) ∨ (l = 1 ∧ J1 a' w' ∧ μ1 a' w' < μ1 a w)) Q) a' w') →
      r1.wp P (jumpTo (fun l a' w' => (l = 0 ∧ J0 a' w' ∧ μ0 a' w' < μ1 a w) ∨ (l = 1 ∧ J1 a' w' ∧ μ1 a' w' < μ1 a w)) Q) a w) :
    (Code.scope c).wp P Q a w := by
  have H : ∀ n, (∀ a w, J0 a w → μ0 a w = n → r0.wp P (jumpTo (fun l a' w' => (l = 0 ∧ J0 a' w' ∧ μ0 a' w' < μ0 a w) ∨ (l = 1 ∧ J1 a' w' ∧ μ1 a' w' < μ0 a w)) Q) a w) ∧
      ∀ a w, J1 a w → μ1 a w = n → r1.wp P (jumpTo (fun l a' w' => (l = 0 ∧ J0 a' w' ∧ μ0 a' w' < μ1 a w) ∨ (l = 1 ∧ J1 a' w' ∧ μ1 a' w' < μ1 a w)) Q) a w := by
    intro n
    induction n using Nat.strongRecOn with
    | _ n ih =>
      refine ⟨fun a w hJ hn => pass0 a w hJ fun a' w' hJ' hlt => ?_, fun a w hJ hn => pass1 a w hJ fun a' w' hJ' hlt => ?_⟩
      · refine Code.wp_mono (jumpTo_mono fun l x y h => ?_) ((ih _ (by omega)).2 a' w' hJ' rfl)
        rcases h with ⟨h1, h2, h3⟩ | ⟨h1, h2, h3⟩
        · exact .inl ⟨h1, h2, by omega⟩
        · exact .inr ⟨h1, h2, by omega⟩
      · refine Code.wp_mono (jumpTo_mono fun l x y h => ?_) ((ih _ (by omega)).1 a' w' hJ' rfl)
        rcases h with ⟨h1, h2, h3⟩ | ⟨h1, h2, h3⟩
        · exact .inl ⟨h1, h2, by omega⟩
        · exact .inr ⟨h1, h2, by omega⟩
  refine scope_labels (fun l => if l = 0 then Code.skip.seq r0 else Code.skip.seq r1) (fun l a' w' => (l = 0 ∧ J0 a' w') ∨ (l = 1 ∧ J1 a' w')) (fun l a' w' => if l = 0 then μ0 a' w' else μ1 a' w') ?_ (first (fun a w hJ => ?_) (fun a w hJ => ?_)) ?_
  · rintro l a w (⟨rfl, _⟩ | ⟨rfl, _⟩)
    · exact hf0
    · exact hf1
  · refine Code.wp_mono (jumpTo_mono fun l x y h => ?_) ((H _).1 a w hJ rfl)
    rcases h with ⟨h1, h2, _⟩ | ⟨h1, h2, _⟩
    · exact .inl ⟨h1, h2⟩
    · exact .inr ⟨h1, h2⟩
  · refine Code.wp_mono (jumpTo_mono fun l x y h => ?_) ((H _).2 a w hJ rfl)
    rcases h with ⟨h1, h2, _⟩ | ⟨h1, h2, _⟩
    · exact .inl ⟨h1, h2⟩
    · exact .inr ⟨h1, h2⟩
  · rintro l a w (⟨rfl, hJ⟩ | ⟨rfl, hJ⟩)
    · refine skip_seq (Code.wp_mono (jumpTo_mono fun l x y h => ?_) ((H _).1 a w hJ rfl))
      rcases h with ⟨h1, h2, h3⟩ | ⟨h1, h2, h3⟩
      · subst h1
        exact ⟨.inl ⟨rfl, h2⟩, by simpa using h3⟩
      · subst h1
        exact ⟨.inr ⟨rfl, h2⟩, by simpa using h3⟩
    · refine skip_seq (Code.wp_mono (jumpTo_mono fun l x y h => ?_) ((H _).2 a w hJ rfl))
      rcases h with ⟨h1, h2, h3⟩ | ⟨h1, h2, h3⟩
      · subst h1
        exact ⟨.inl ⟨rfl, h2⟩, by simpa using h3⟩
      · subst h1
        exact ⟨.inr ⟨rfl, h2⟩, by simpa using h3⟩

end Go.Proofs.YtcdijeeabgmgmaaGreatDoor
