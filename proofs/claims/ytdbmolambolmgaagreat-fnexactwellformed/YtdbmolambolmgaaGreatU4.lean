import Derived.Test.YtdbmolambolmgaaGreatU3
import Derived.Test.YtdbmolambolmgaaGreatU2
import Derived.ScopeJumps
set_option linter.all false
namespace Go.Proofs.YtdbmolambolmgaaGreat
open Go.RowKit

/-- As Q; by a goto: J at its label. -/
def jumps (J : Nat → Act → World → Prop) (Q : Exit → Act → World → Prop) : Exit → Act → World → Prop
  | .goto l, a, w => J l a w
  | e, a, w => Q e a w

theorem wp_scope_many {P : Program} {a : Act} {w : World} {Q : Exit → Act → World → Prop} {c : Code} (J : Nat → Act → World → Prop) (μ : Nat → Act → World → Nat)
    (first : c.wp P (jumps J Q) a w)
    (pass : ∀ l a w, J l a w → ∃ rest, findLabel c l = some rest ∧ rest.wp P (jumps (fun l' a' w' => J l' a' w' ∧ μ l' a' w' < μ l a w) Q) a w) : (Code.scope c).wp P Q a w := by
  intro b k cs
  have hg : ∀ l rest, findLabel c l = some rest → gotoIn l (.inScope c :: k) = some (.code rest :: .inScope c :: k) := fun l rest hf => by simp [gotoIn, hf]
  have key : ∀ n l a w rest, μ l a w = n → J l a w → findLabel c l = some rest → ∃ e a' w', Q e a' w' ∧ Arrives P (lone (b.at a (.code rest :: .inScope c :: k)) cs w) b k cs e a' w' := by
    intro n
    induction n using Nat.strongRecOn with
    | _ n ih =>
      intro l a w rest hn hJ hf
      obtain ⟨rest', hf', hp⟩ := pass l a w hJ
      rw [hf] at hf'
      obtain rfl := Option.some.inj hf'
      obtain ⟨e, a₁, w₁, hq, harr⟩ := hp b (.inScope c :: k) cs
      cases e with
      | normal => exact ⟨.normal, a₁, w₁, hq, Steps.trans harr (.one step_inScope)⟩
      | exit id => exact ⟨.exit id, a₁, w₁, hq, fun k' hk => harr k' (by simp [exitTo, hk])⟩
      | goto l' =>
        obtain ⟨hJ', hlt⟩ := hq
        obtain ⟨rest₂, hf₂, _⟩ := pass l' a₁ w₁ hJ'
        obtain ⟨e₂, a₂, w₂, hq₂, harr₂⟩ := ih _ (by omega) l' a₁ w₁ rest₂ rfl hJ' hf₂
        exact ⟨e₂, a₂, w₂, hq₂, .of_steps (harr _ (hg l' rest₂ hf₂)) harr₂⟩
      | ret => exact ⟨_, a₁, w₁, hq, harr⟩
      | panic ch => exact ⟨_, a₁, w₁, hq, harr⟩
      | outgrown => exact ⟨_, a₁, w₁, hq, harr⟩
  obtain ⟨e, a₁, w₁, hq, harr⟩ := first b (.inScope c :: k) cs
  cases e with
  | normal => exact ⟨.normal, a₁, w₁, hq, .head step_scope (Steps.trans harr (.one step_inScope))⟩
  | exit id => exact ⟨.exit id, a₁, w₁, hq, fun k' hk => .head step_scope (harr k' (by simp [exitTo, hk]))⟩
  | goto l' =>
    obtain ⟨rest₂, hf₂, _⟩ := pass l' a₁ w₁ hq
    obtain ⟨e₂, a₂, w₂, hq₂, harr₂⟩ := key _ l' a₁ w₁ rest₂ rfl hq hf₂
    exact ⟨e₂, a₂, w₂, hq₂, .of_steps (.head step_scope (harr _ (hg l' rest₂ hf₂))) harr₂⟩
  | ret => exact ⟨_, a₁, w₁, hq, .of_steps (.one step_scope) harr⟩
  | panic ch => exact ⟨_, a₁, w₁, hq, .of_steps (.one step_scope) harr⟩
  | outgrown => exact ⟨_, a₁, w₁, hq, .of_steps (.one step_scope) harr⟩

theorem wp_skip_seq {P : Program} {a : Act} {w : World} {Q : Exit → Act → World → Prop} {r : Code} (h : r.wp P Q a w) : (Code.skip.seq r).wp P Q a w := wp_seq (wp_skip h)

/-- Three labels; from the start, and from the first, one may fall into the next. -/
theorem wp_scope_three {P : Program} {a : Act} {w : World} {Q : Exit → Act → World → Prop} {c r0 r1 r2 : Code} (J0 J1 J2 : Act → World → Prop) (μ0 μ1 μ2 : Act → World → Nat)
    (f0 : findLabel c 0 = some (Code.skip.seq r0)) (f1 : findLabel c 2 = some (Code.skip.seq r1)) (f2 : findLabel c 1 = some (Code.skip.seq r2))
    (first : (∀ a w, J0 a w → r0.wp P (jumps (fun | 0, a, w => J0 a w | 1, a, w => J2 a w | 2, a, w => J1 a w | _, _, _ => False) Q) a w) → c.wp P (jumps (fun | 0, a, w => J0 a w | 1, a, w => J2 a w | 2, a, w => J1 a w | _, _, _ => False) Q) a w)
    (p0 : ∀ a w, J0 a w → (∀ a' w', J1 a' w' → μ1 a' w' < μ0 a w → r1.wp P (jumps (fun | 0, b, v => J0 b v ∧ μ0 b v < μ0 a w | 1, b, v => J2 b v ∧ μ2 b v < μ0 a w | 2, b, v => J1 b v ∧ μ1 b v < μ0 a w | _, _, _ => False) Q) a' w') →
      r0.wp P (jumps (fun | 0, b, v => J0 b v ∧ μ0 b v < μ0 a w | 1, b, v => J2 b v ∧ μ2 b v < μ0 a w | 2, b, v => J1 b v ∧ μ1 b v < μ0 a w | _, _, _ => False) Q) a w)
    (p1 : ∀ a w, J1 a w → r1.wp P (jumps (fun | 0, b, v => J0 b v ∧ μ0 b v < μ1 a w | 1, b, v => J2 b v ∧ μ2 b v < μ1 a w | 2, b, v => J1 b v ∧ μ1 b v < μ1 a w | _, _, _ => False) Q) a w)
    (p2 : ∀ a w, J2 a w → r2.wp P (jumps (fun _ _ _ => False) Q) a w) : (Code.scope c).wp P Q a w := by
  have q0 : ∀ a w, J0 a w → r0.wp P (jumps (fun | 0, b, v => J0 b v ∧ μ0 b v < μ0 a w | 1, b, v => J2 b v ∧ μ2 b v < μ0 a w | 2, b, v => J1 b v ∧ μ1 b v < μ0 a w | _, _, _ => False) Q) a w := by
    intro a w h
    refine p0 a w h fun a' w' h' hlt => Code.wp_mono ?_ (p1 a' w' h')
    intro e b v hq
    cases e with
    | goto l =>
      match l with
      | 0 => exact ⟨hq.1, Nat.lt_trans hq.2 hlt⟩
      | 1 => exact ⟨hq.1, Nat.lt_trans hq.2 hlt⟩
      | 2 => exact ⟨hq.1, Nat.lt_trans hq.2 hlt⟩
      | _ + 3 => exact hq
    | normal => exact hq
    | exit _ => exact hq
    | ret => exact hq
    | panic _ => exact hq
    | outgrown => exact hq
  refine wp_scope_many (fun | 0, a, w => J0 a w | 1, a, w => J2 a w | 2, a, w => J1 a w | _, _, _ => False) (fun | 0, a, w => μ0 a w | 1, a, w => μ2 a w | _, a, w => μ1 a w) (first ?_) ?_
  · intro a w h
    refine Code.wp_mono ?_ (q0 a w h)
    intro e b v hq
    cases e with
    | goto l =>
      match l with
      | 0 => exact hq.1
      | 1 => exact hq.1
      | 2 => exact hq.1
      | _ + 3 => exact hq
    | normal => exact hq
    | exit _ => exact hq
    | ret => exact hq
    | panic _ => exact hq
    | outgrown => exact hq
  · intro l a w h
    match l with
    | 0 =>
      refine ⟨_, f0, wp_skip_seq (Code.wp_mono ?_ (q0 a w h))⟩
      intro e b v hq
      cases e with
      | goto l =>
        match l with
        | 0 => exact hq
        | 1 => exact hq
        | 2 => exact hq
        | _ + 3 => exact hq.elim
      | normal => exact hq
      | exit _ => exact hq
      | ret => exact hq
      | panic _ => exact hq
      | outgrown => exact hq
    | 2 =>
      refine ⟨_, f1, wp_skip_seq (Code.wp_mono ?_ (p1 a w h))⟩
      intro e b v hq
      cases e with
      | goto l =>
        match l with
        | 0 => exact hq
        | 1 => exact hq
        | 2 => exact hq
        | _ + 3 => exact hq.elim
      | normal => exact hq
      | exit _ => exact hq
      | ret => exact hq
      | panic _ => exact hq
      | outgrown => exact hq
    | 1 =>
      refine ⟨_, f2, wp_skip_seq (Code.wp_mono ?_ (p2 a w h))⟩
      intro e b v hq
      cases e with
      | goto l => exact hq.elim
      | normal => exact hq
      | exit _ => exact hq
      | ret => exact hq
      | panic _ => exact hq
      | outgrown => exact hq
    | _ + 3 => exact h.elim
end Go.Proofs.YtdbmolambolmgaaGreat
