import Derived.Test.YthmppcfhbbjhlaaDoorRnd
set_option linter.all false
namespace Go.Proofs.YthmppcfhbbjhlaaDoor
open Go.RowKit

abbrev B32 : Nat := 4294967296
/-- The value of parts, the lowest first. -/
def vl : List Nat → Nat
  | [] => 0
  | d :: ds => d + 4294967296 * vl ds
/-- The parts of a number, no 0 at the end. -/
def dg (x : Nat) : List Nat := if h : x = 0 then [] else (x % 4294967296) :: dg (x / 4294967296)
  termination_by x
  decreasing_by omega
theorem dg_zero : dg 0 = [] := by rw [dg]; simp
theorem dg_pos {x : Nat} (h : x ≠ 0) : dg x = (x % 4294967296) :: dg (x / 4294967296) := by rw [dg]; simp [h]
def AllD (ds : List Nat) : Prop := ∀ d ∈ ds, d < 4294967296

theorem dg_all (x : Nat) : AllD (dg x) := by
  induction x using Nat.strongRecOn with
  | _ x ih =>
    by_cases h : x = 0
    · subst h; rw [dg_zero]; intro d hd; simp at hd
    · rw [dg_pos h]
      intro d hd
      rcases List.mem_cons.1 hd with rfl | hd
      · omega
      · exact ih (x / 4294967296) (by omega) d hd
theorem vl_dg (x : Nat) : vl (dg x) = x := by
  induction x using Nat.strongRecOn with
  | _ x ih =>
    by_cases h : x = 0
    · subst h; rw [dg_zero]; rfl
    · rw [dg_pos h, vl, ih (x / 4294967296) (by omega)]; omega
theorem dg_of : ∀ (l : List Nat), AllD l → (∀ h : l ≠ [], l.getLast h ≠ 0) → dg (vl l) = l
  | [], _, _ => by simp [vl, dg_zero]
  | d :: ds, hA, hL => by
    have hd : d < 4294967296 := hA d (by simp)
    have hA' : AllD ds := fun x hx => hA x (by simp [hx])
    by_cases hds : ds = []
    · subst hds
      have h0 : d ≠ 0 := hL (by simp)
      simp only [vl, Nat.mul_zero, Nat.add_zero]
      rw [dg_pos h0, Nat.mod_eq_of_lt hd, Nat.div_eq_of_lt hd, dg_zero]
    · have hL' : ∀ h : ds ≠ [], ds.getLast h ≠ 0 := fun h => by
        have := hL (by simp)
        rwa [List.getLast_cons h] at this
      have ih := dg_of ds hA' hL'
      have hne : vl ds ≠ 0 := by
        intro e
        rw [e, dg_zero] at ih
        exact hds ih.symm
      have hv : vl (d :: ds) ≠ 0 := by simp only [vl]; omega
      rw [dg_pos hv]
      simp only [vl]
      rw [Nat.add_mul_mod_self_left, Nat.mod_eq_of_lt hd, Nat.add_mul_div_left _ _ (by decide), Nat.div_eq_of_lt hd, Nat.zero_add, ih]
theorem vl_append (xs ys : List Nat) : vl (xs ++ ys) = vl xs + 4294967296 ^ xs.length * vl ys := by
  induction xs with
  | nil => simp [vl]
  | cons d ds ih =>
    simp only [List.cons_append, vl, ih, List.length_cons, Nat.pow_succ, Nat.mul_add]
    rw [Nat.mul_comm (4294967296 ^ ds.length) 4294967296, Nat.mul_assoc]; omega
theorem vl_one (xs : List Nat) (d : Nat) : vl (xs ++ [d]) = vl xs + 4294967296 ^ xs.length * d := by rw [vl_append]; simp [vl]
theorem vl_lt (xs : List Nat) (h : AllD xs) : vl xs < 4294967296 ^ xs.length := by
  induction xs with
  | nil => simp [vl]
  | cons d ds ih =>
    have h1 := h d (by simp)
    have h2 := ih (fun x hx => h x (by simp [hx]))
    simp only [vl, List.length_cons, Nat.pow_succ]
    omega
theorem allD_one {xs : List Nat} {d : Nat} (h : AllD xs) (hd : d < 4294967296) : AllD (xs ++ [d]) := by
  intro x hx
  rcases List.mem_append.1 hx with hx | hx
  · exact h x hx
  · rw [List.mem_singleton.1 hx]; exact hd
theorem vl_zeros (k : Nat) : vl (List.replicate k 0) = 0 := by
  induction k with
  | zero => rfl
  | succ k ih => simp [List.replicate_succ, vl, ih]
theorem allD_zeros (k : Nat) : AllD (List.replicate k 0) := by
  intro x hx; rw [List.mem_replicate] at hx; omega
theorem dg_get : ∀ (i x : Nat), (dg x).getD i 0 = x / 4294967296 ^ i % 4294967296
  | i, x => by
    induction i generalizing x with
    | zero =>
      by_cases h : x = 0
      · subst h; simp [dg_zero]
      · rw [dg_pos h]; simp
    | succ i ih =>
      by_cases h : x = 0
      · subst h; simp [dg_zero]
      · rw [dg_pos h, List.getD_cons_succ, ih, Nat.pow_succ, Nat.mul_comm, Nat.div_div_eq_div_mul]
theorem dg_len_le {x n : Nat} (h : x < 4294967296 ^ n) : (dg x).length ≤ n := by
  induction n generalizing x with
  | zero =>
    have : x = 0 := by simpa using h
    subst this; simp [dg_zero]
  | succ n ih =>
    by_cases h0 : x = 0
    · subst h0; simp [dg_zero]
    · rw [dg_pos h0, List.length_cons]
      have := ih (x := x / 4294967296) (by rw [Nat.div_lt_iff_lt_mul (by decide), ← Nat.pow_succ]; exact h)
      omega
theorem dg_lt (x : Nat) : x < 4294967296 ^ (dg x).length := by
  have := vl_lt _ (dg_all x)
  rwa [vl_dg] at this
theorem dg_ge {x i : Nat} (h : i < (dg x).length) : 4294967296 ^ i ≤ x := by
  by_cases hc : 4294967296 ^ i ≤ x
  · exact hc
  · have := dg_len_le (x := x) (n := i) (by omega); omega
theorem pow32 (k : Nat) : 4294967296 ^ k = 2 ^ (32 * k) := by
  rw [Nat.pow_mul]

/-- What a step of the writing of x times 2^n adds. -/
theorem left_step (X P c d V K : Nat) (h : V + c * K = X * P) (y : Nat) (hy : y = d * P + c) :
    V + K * (y % 4294967296) + y / 4294967296 * (K * 4294967296) = X * P + d * (P * K) := by
  have e := Nat.mod_add_div y 4294967296
  have e2 : K * (y % 4294967296) + y / 4294967296 * (K * 4294967296) = K * y := by
    have : y / 4294967296 * (K * 4294967296) = K * (4294967296 * (y / 4294967296)) := by
      rw [Nat.mul_comm K 4294967296, Nat.mul_left_comm, ← Nat.mul_assoc, Nat.mul_comm K]
    rw [this, ← Nat.mul_add, e]
  have e3 : K * y = d * (P * K) + c * K := by
    rw [hy, Nat.mul_add, Nat.mul_comm K c, Nat.mul_comm K, Nat.mul_assoc]
  omega
end Go.Proofs.YthmppcfhbbjhlaaDoor
