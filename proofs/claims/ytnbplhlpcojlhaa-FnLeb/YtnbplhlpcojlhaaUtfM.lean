import Derived.Test.YtnbplhlpcojlhaaUtf
namespace Go.Proofs.Ytnbplhlpcojlhaa

theorem uf_ge (cs : List Int) : ∀ (l : Nat) (lo hi : Int) (p : Nat), uf l lo hi p cs = -1 ∨ (p : Int) ≤ uf l lo hi p cs := by
  induction cs with
  | nil => intro l lo hi p; cases l <;> simp [uf]
  | cons c cs ih =>
    intro l lo hi p
    cases l with
    | zero =>
      simp only [uf]
      split
      · exact .inr (Int.le_refl _)
      · rcases ih (ldN c).toNat (ldLo c) (ldHi c) (p + 1) with h | h
        · exact .inl h
        · exact .inr (by omega)
    | succ l =>
      simp only [uf]
      split
      · exact .inr (Int.le_refl _)
      · rcases ih l 128 191 (p + 1) with h | h
        · exact .inl h
        · exact .inr (by omega)

theorem uf_take (cs : List Int) : ∀ (l : Nat) (lo hi : Int) (p i : Nat), 0 ≤ uf l lo hi p cs → (p : Int) + i ≤ uf l lo hi p cs →
    uf l lo hi p (cs.take i) = -1 ∨ uf l lo hi p (cs.take i) = (p : Int) + i := by
  induction cs with
  | nil =>
    intro l lo hi p i h0 h1
    cases l with
    | zero => simp [uf] at h0
    | succ l =>
      simp only [uf] at h1
      have : i = 0 := by omega
      subst this
      exact .inr (by simp [uf])
  | cons c cs ih =>
    intro l lo hi p i h0 h1
    cases i with
    | zero => cases l <;> simp [uf]
    | succ i =>
      cases l with
      | zero =>
        simp only [uf, List.take_succ_cons] at h0 h1 ⊢
        split
        · rename_i hc; rw [if_pos hc] at h1; omega
        · rename_i hc
          rw [if_neg hc] at h0 h1
          have := ih (ldN c).toNat (ldLo c) (ldHi c) (p + 1) i h0 (by omega)
          omega
      | succ l =>
        simp only [uf, List.take_succ_cons] at h0 h1 ⊢
        split
        · rename_i hc; rw [if_pos hc] at h1; omega
        · rename_i hc
          rw [if_neg hc] at h0 h1
          have := ih l 128 191 (p + 1) i h0 (by omega)
          omega

theorem uf_on (cs : List Int) : ∀ (l : Nat) (lo hi : Int) (p R : Nat) (more : List Int), uf l lo hi p cs = (R : Int) → R < p + cs.length →
    uf l lo hi p (cs.take (R - p + 1) ++ more) = (R : Int) := by
  induction cs with
  | nil =>
    intro l lo hi p R more h h1
    cases l with
    | zero => simp [uf] at h
    | succ l => simp [uf] at h h1; omega
  | cons c cs ih =>
    intro l lo hi p R more h h1
    have hg := uf_ge (c :: cs) l lo hi p
    rw [h] at hg
    have hpR : p ≤ R := by omega
    cases l with
    | zero =>
      simp only [uf, List.take_succ_cons, List.cons_append] at h ⊢
      split
      · rename_i hc; rw [if_pos hc] at h; exact h
      · rename_i hc
        rw [if_neg hc] at h
        have hg' := uf_ge cs (ldN c).toNat (ldLo c) (ldHi c) (p + 1)
        rw [h] at hg'
        have := ih (ldN c).toNat (ldLo c) (ldHi c) (p + 1) R more h (by simp at h1; omega)
        rw [show R - (p + 1) + 1 = R - p by omega] at this
        exact this
    | succ l =>
      simp only [uf, List.take_succ_cons, List.cons_append] at h ⊢
      split
      · rename_i hc; rw [if_pos hc] at h; exact h
      · rename_i hc
        rw [if_neg hc] at h
        have hg' := uf_ge cs l 128 191 (p + 1)
        rw [h] at hg'
        have := ih l 128 191 (p + 1) R more h (by simp at h1; omega)
        rw [show R - (p + 1) + 1 = R - p by omega] at this
        exact this

/-- No beginning ahead of the fault is faulty; nothing behind it mends it. -/
theorem uf_begins (L : List Int) (K i : Nat) (h : uf 0 0 0 0 L = (K : Int)) (hi : i ≤ K) : uf 0 0 0 0 (L.take i) = -1 ∨ uf 0 0 0 0 (L.take i) = (i : Int) := by
  have := uf_take L 0 0 0 0 i (by omega) (by omega)
  omega
theorem uf_mends (L : List Int) (K : Nat) (M : List Int) (h : uf 0 0 0 0 L = (K : Int)) (hK : K < L.length) : uf 0 0 0 0 (L.take (K + 1) ++ M) = (K : Int) := by
  have := uf_on L 0 0 0 0 K M h (by omega)
  simpa using this
end Go.Proofs.Ytnbplhlpcojlhaa
