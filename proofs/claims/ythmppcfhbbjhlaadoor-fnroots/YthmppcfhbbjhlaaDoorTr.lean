import Derived.Test.YthmppcfhbbjhlaaDoorRm
set_option linter.all false
namespace Go.Proofs.YthmppcfhbbjhlaaDoor
open Go.RowKit Go.Sort

theorem goes3 (g h b o : Bool) : goes 3 g h b o = false := by unfold goes; simp
theorem wh3_pos {g : Bool} {s : Nat} {x : Int} (h : 0 ≤ x) : wh 3 g s x = s * 2 ^ x.toNat := by unfold wh; rw [if_pos h]
theorem wh3_neg {g : Bool} {s : Nat} {x : Int} (h : ¬ 0 ≤ x) : wh 3 g s x = s / 2 ^ (-x).toNat := by unfold wh; rw [if_neg h, goes3]; simp
theorem bl_mul_le (s k : Nat) : bl (s * 2 ^ k) ≤ bl s + k := by
  by_cases h : s = 0
  · subst h; simp [bl_zero]
  · rw [bl_mul h]; omega
theorem wh3_bl (g : Bool) (s : Nat) (x : Int) (hs : bl s ≤ 60) (hx : x ≤ 1000) : bl (wh 3 g s x) ≤ 1100 := by
  by_cases h : 0 ≤ x
  · rw [wh3_pos h]
    have := bl_mul_le s x.toNat
    omega
  · rw [wh3_neg h]
    have := bl_div_le s (-x).toNat
    omega
theorem swhole (g : Bool) (v : Value) (s : Nat) (x : Int) (w : World) (hs : bl s ≤ 60) (hx : -1100 ≤ x) (hx' : x ≤ 1000) (hS : SN w v s) :
    Calls Tryd.prog 31 #[SV 0 g v x, .int .i64 2] w fun e w' => (∃ u, e = .returned u ∧ SN w' u (wh 3 g s x)) ∧ Below w.heap.size w w' := by
  by_cases h : 0 ≤ x
  · rw [wh3_pos h]
    exact whole_pos 0 g v s x 2 w (by omega) h (by omega) hS
  · exact whole_neg_2 0 g v s x w (by omega) (by omega) (by omega) hS
/-- Where the whole part lies against a power. -/
theorem wh3_len (g : Bool) (s : Nat) (x : Int) (wd : Nat) (h0 : s = 0 → x ≤ 0) :
    (if 0 ≤ x then (bl s : Int) + x else (bl (wh 3 g s x) : Int) + 0) ≤ wd ↔ wh 3 g s x < 2 ^ wd := by
  by_cases h : 0 ≤ x
  · rw [if_pos h, wh3_pos h]
    by_cases hs : s = 0
    · have := h0 hs
      have e : x = 0 := by omega
      subst e; subst hs
      simp [bl_zero, Nat.two_pow_pos]
    · have hb := bl_mul hs x.toNat
      constructor
      · intro h1
        have h2 := bl_lt (s * 2 ^ x.toNat)
        have h3 := pow_le (show bl (s * 2 ^ x.toNat) ≤ wd by omega)
        omega
      · intro h1
        have h2 := bl_le h1
        omega
  · rw [if_neg h]
    constructor
    · intro h1
      have h2 := bl_lt (wh 3 g s x)
      have h3 := pow_le (show bl (wh 3 g s x) ≤ wd by omega)
      omega
    · intro h1
      have h2 := bl_le h1
      omega
def ti_32 (sg g : Bool) (t : Nat) : Int × Int :=
  if sg then (if g then (if 2147483648 < t then (3, 0) else (0, (4294967296 - (t : Int)) % 4294967296)) else (if 2147483648 ≤ t then (3, 0) else (0, t)))
  else (if g then (if 0 < t then (3, 0) else (0, 0)) else (if 4294967296 ≤ t then (3, 0) else (0, t)))
theorem strunc_32 (sg g : Bool) (v : Value) (s : Nat) (x : Int) (w : World) (hs : bl s ≤ 60) (hx : -1100 ≤ x) (hx' : x ≤ 1000) (hS : SN w v s) :
    Calls Tryd.prog 42 #[SV 0 g v x, .int .i64 32, .bool sg] w fun e w' => e = .returned (RV true (ti_32 sg g (wh 3 g s x)).1 (ti_32 sg g (wh 3 g s x)).2) ∧ Below w.heap.size w w' := by
  have KW : ∀ w', Below w.heap.size w w' → Hid (Calls Tryd.prog 31 #[SV 0 g v x, .int .i64 2] w' fun e w'' => (∃ u, e = .returned u ∧ SN w'' u (wh 3 g s x)) ∧ Below w'.heap.size w' w'') := fun w' hb => swhole g v s x w' hs hx hx' (hS.below hb)
  have ht := wh3_bl g s x hs hx'
  generalize wh 3 g s x = t at *
  unfold ti_32
  cases sg <;> cases g
  · by_cases h : 4294967296 ≤ t
    · simp only [if_pos h]
      exact trunc_32_uf_o x v t w (by omega) KW h
    · simp only [if_neg h]
      exact trunc_32_uf_i x v t w (by omega) KW (by omega)
  · by_cases h : 0 < t
    · simp only [if_pos h]
      exact trunc_32_ut_o x v t w (by omega) KW h
    · simp only [if_neg h]
      exact trunc_32_ut_i x v t w (by omega) KW (by omega)
  · by_cases h : 2147483648 ≤ t
    · simp only [if_pos h]
      exact trunc_32_sf_o x v t w (by omega) KW h
    · simp only [if_neg h]
      exact trunc_32_sf_i x v t w (by omega) KW (by omega)
  · by_cases h : 2147483648 < t
    · simp only [if_pos h]
      exact trunc_32_st_o x v t w (by omega) KW h
    · simp only [if_neg h]
      exact trunc_32_st_i x v t w (by omega) KW (by omega)
theorem negand_32 (t : Nat) (ht : t ≤ 4294967296) : bits .and .u64 (IntKind.u64.wrap (-(t : Int))) 4294967295 = (4294967296 - (t : Int)) % 4294967296 := by
  have e : IntKind.u64.wrap (-(t : Int)) = (((18446744073709551616 - t) % 18446744073709551616 : Nat) : Int) := by rw [IntKind.wrap_u64]; omega
  have h := bits_and_u64_nat ((18446744073709551616 - t) % 18446744073709551616) 4294967295 (by omega) (by decide)
  rw [show ((18446744073709551616 - t) % 18446744073709551616) &&& 4294967295 = (18446744073709551616 - t) % 18446744073709551616 % 4294967296 from Nat.and_two_pow_sub_one_eq_mod _ 32, show ((4294967295 : Nat) : Int) = 4294967295 from rfl] at h
  rw [e, h]
  omega
/-- What integer tells: a value, and whether it fits. -/
theorem iint_32 (sg g : Bool) (s : Nat) (x : Int) (hs : s < 18014398509481984) (hx : -1100 ≤ x) (hx' : x ≤ 1000) (h0 : s = 0 → x ≤ 0) :
    ∃ (val : Int) (fits : Bool), (∀ w, Hid (Calls Tryd.prog 88 #[N2 0 g x s, .int .i64 32, .bool sg] w fun e w' => e = .returned (.tuple #[.int .u64 val, .bool fits]) ∧ Below w.heap.size w w')) ∧
      (if fits then RV true 0 val else RV true 3 0) = RV true (ti_32 sg g (wh 3 g s x)).1 (ti_32 sg g (wh 3 g s x)).2 := by
  have hs128 : s < 340282366920938463463374607431768211456 := by omega
  have hlen := wh3_len g s x 32 h0
  obtain ⟨x2, s2, KW, hx2, hs2, ht, hL⟩ : ∃ (x2 : Int) (s2 : Nat), (∀ w, Hid (Calls Tryd.prog 37 #[N2 0 g x s, .int .i64 3] w fun e w' => e = .returned (N2 0 g x2 s2) ∧ Below w.heap.size w w')) ∧ (0 ≤ x2 ∧ x2 ≤ 1000) ∧ s2 < 18014398509481984 ∧ s2 * 2 ^ x2.toNat = wh 3 g s x ∧ ((bl s2 : Int) + x2 ≤ 32 ↔ wh 3 g s x < 4294967296) := by
    have KW := fun w => iwhole_any g x 3 s w hs128 (by omega) (by omega) (by omega) (by omega)
    by_cases h : 0 ≤ x
    · rw [if_pos h] at hlen
      simp only [if_pos h] at KW
      exact ⟨x, s, KW, ⟨h, hx'⟩, hs, (wh3_pos h).symm, hlen⟩
    · rw [if_neg h] at hlen
      simp only [if_neg h] at KW
      refine ⟨0, wh 3 g s x, KW, ⟨by omega, by omega⟩, ?_, by simp, hlen⟩
      rw [wh3_neg h]
      exact Nat.lt_of_le_of_lt (Nat.div_le_self _ _) hs
  have KL := fun w => length_any s2 w (by omega)
  have hb0 : bl s2 ≤ 128 := Nat.le_trans (bl_le (k := 54) hs2) (by decide)
  have hs2m : s2 % 18446744073709551616 = s2 := Nat.mod_eq_of_lt (by omega)
  generalize hwt : wh 3 g s x = t at *
  by_cases ho : 4294967296 ≤ t
  · refine ⟨0, false, fun w => integer_32_o g sg x _ _ x2 _ _ (bl s2) w KW KL (by omega) (by omega) hx2.1 (by omega) (by omega), ?_⟩
    unfold ti_32
    cases sg <;> cases g
    · simp only [if_pos ho]; rfl
    · simp only [if_pos (show 0 < t by omega)]; rfl
    · simp only [if_pos (show 2147483648 ≤ t by omega)]; rfl
    · simp only [if_pos (show 2147483648 < t by omega)]; rfl
  · have hV : IntKind.u64.wrap (((s2 % 18446744073709551616 : Nat) : Int) * 2 ^ x2.toNat) = (t : Int) := by
      rw [hs2m, wrap_mul, ht]; omega
    have hLe : (bl s2 : Int) + x2 ≤ 32 := by omega
    unfold ti_32
    cases sg <;> cases g
    · refine ⟨_, _, fun w => integer_32_ff x _ _ x2 _ _ (bl s2) t w KW KL (by omega) (by omega) hx2.1 (by omega) hLe (by omega) hV, ?_⟩
      simp only [if_neg ho]; rfl
    · refine ⟨_, _, fun w => integer_32_ft x _ _ x2 _ _ (bl s2) t w KW KL (by omega) (by omega) hx2.1 (by omega) hLe (by omega) hV, ?_⟩
      by_cases hz : t = 0
      · subst hz; rfl
      · rw [show ((t : Int) == 0) = false from beq_eq_false_iff_ne.2 (by omega)]
        simp only [if_pos (show 0 < t by omega)]; rfl
    · refine ⟨_, _, fun w => integer_32_tf x _ _ x2 _ _ (bl s2) t w KW KL (by omega) (by omega) hx2.1 (by omega) hLe (by omega) hV, ?_⟩
      by_cases hz : 2147483648 ≤ t
      · rw [show decide ((t : Int) < 2147483648) = false from decide_eq_false (by omega)]
        simp only [if_pos hz]; rfl
      · rw [show decide ((t : Int) < 2147483648) = true from decide_eq_true (by omega)]
        simp only [if_neg hz]; rfl
    · refine ⟨_, _, fun w => integer_32_tt x _ _ x2 _ _ (bl s2) t w KW KL (by omega) (by omega) hx2.1 (by omega) hLe (by omega) hV, ?_⟩
      rw [negand_32 t (by omega)]
      by_cases hz : 2147483648 < t
      · rw [show decide ((t : Int) ≤ 2147483648) = false from decide_eq_false (by omega)]
        simp only [if_pos hz]; rfl
      · rw [show decide ((t : Int) ≤ 2147483648) = true from decide_eq_true (by omega)]
        simp only [if_neg hz]; rfl
def ti_64 (sg g : Bool) (t : Nat) : Int × Int :=
  if sg then (if g then (if 9223372036854775808 < t then (3, 0) else (0, (18446744073709551616 - (t : Int)) % 18446744073709551616)) else (if 9223372036854775808 ≤ t then (3, 0) else (0, t)))
  else (if g then (if 0 < t then (3, 0) else (0, 0)) else (if 18446744073709551616 ≤ t then (3, 0) else (0, t)))
theorem strunc_64 (sg g : Bool) (v : Value) (s : Nat) (x : Int) (w : World) (hs : bl s ≤ 60) (hx : -1100 ≤ x) (hx' : x ≤ 1000) (hS : SN w v s) :
    Calls Tryd.prog 42 #[SV 0 g v x, .int .i64 64, .bool sg] w fun e w' => e = .returned (RV true (ti_64 sg g (wh 3 g s x)).1 (ti_64 sg g (wh 3 g s x)).2) ∧ Below w.heap.size w w' := by
  have KW : ∀ w', Below w.heap.size w w' → Hid (Calls Tryd.prog 31 #[SV 0 g v x, .int .i64 2] w' fun e w'' => (∃ u, e = .returned u ∧ SN w'' u (wh 3 g s x)) ∧ Below w'.heap.size w' w'') := fun w' hb => swhole g v s x w' hs hx hx' (hS.below hb)
  have ht := wh3_bl g s x hs hx'
  generalize wh 3 g s x = t at *
  unfold ti_64
  cases sg <;> cases g
  · by_cases h : 18446744073709551616 ≤ t
    · simp only [if_pos h]
      exact trunc_64_uf_o x v t w (by omega) KW h
    · simp only [if_neg h]
      exact trunc_64_uf_i x v t w (by omega) KW (by omega)
  · by_cases h : 0 < t
    · simp only [if_pos h]
      exact trunc_64_ut_o x v t w (by omega) KW h
    · simp only [if_neg h]
      exact trunc_64_ut_i x v t w (by omega) KW (by omega)
  · by_cases h : 9223372036854775808 ≤ t
    · simp only [if_pos h]
      exact trunc_64_sf_o x v t w (by omega) KW h
    · simp only [if_neg h]
      exact trunc_64_sf_i x v t w (by omega) KW (by omega)
  · by_cases h : 9223372036854775808 < t
    · simp only [if_pos h]
      exact trunc_64_st_o x v t w (by omega) KW h
    · simp only [if_neg h]
      exact trunc_64_st_i x v t w (by omega) KW (by omega)
theorem negand_64 (t : Nat) (ht : t ≤ 18446744073709551616) : bits .and .u64 (IntKind.u64.wrap (-(t : Int))) 18446744073709551615 = (18446744073709551616 - (t : Int)) % 18446744073709551616 := by
  have e : IntKind.u64.wrap (-(t : Int)) = (((18446744073709551616 - t) % 18446744073709551616 : Nat) : Int) := by rw [IntKind.wrap_u64]; omega
  have h := bits_and_u64_nat ((18446744073709551616 - t) % 18446744073709551616) 18446744073709551615 (by omega) (by decide)
  rw [show ((18446744073709551616 - t) % 18446744073709551616) &&& 18446744073709551615 = (18446744073709551616 - t) % 18446744073709551616 % 18446744073709551616 from Nat.and_two_pow_sub_one_eq_mod _ 64, show ((18446744073709551615 : Nat) : Int) = 18446744073709551615 from rfl] at h
  rw [e, h]
  omega
/-- What integer tells: a value, and whether it fits. -/
theorem iint_64 (sg g : Bool) (s : Nat) (x : Int) (hs : s < 18014398509481984) (hx : -1100 ≤ x) (hx' : x ≤ 1000) (h0 : s = 0 → x ≤ 0) :
    ∃ (val : Int) (fits : Bool), (∀ w, Hid (Calls Tryd.prog 88 #[N2 0 g x s, .int .i64 64, .bool sg] w fun e w' => e = .returned (.tuple #[.int .u64 val, .bool fits]) ∧ Below w.heap.size w w')) ∧
      (if fits then RV true 0 val else RV true 3 0) = RV true (ti_64 sg g (wh 3 g s x)).1 (ti_64 sg g (wh 3 g s x)).2 := by
  have hs128 : s < 340282366920938463463374607431768211456 := by omega
  have hlen := wh3_len g s x 64 h0
  obtain ⟨x2, s2, KW, hx2, hs2, ht, hL⟩ : ∃ (x2 : Int) (s2 : Nat), (∀ w, Hid (Calls Tryd.prog 37 #[N2 0 g x s, .int .i64 3] w fun e w' => e = .returned (N2 0 g x2 s2) ∧ Below w.heap.size w w')) ∧ (0 ≤ x2 ∧ x2 ≤ 1000) ∧ s2 < 18014398509481984 ∧ s2 * 2 ^ x2.toNat = wh 3 g s x ∧ ((bl s2 : Int) + x2 ≤ 64 ↔ wh 3 g s x < 18446744073709551616) := by
    have KW := fun w => iwhole_any g x 3 s w hs128 (by omega) (by omega) (by omega) (by omega)
    by_cases h : 0 ≤ x
    · rw [if_pos h] at hlen
      simp only [if_pos h] at KW
      exact ⟨x, s, KW, ⟨h, hx'⟩, hs, (wh3_pos h).symm, hlen⟩
    · rw [if_neg h] at hlen
      simp only [if_neg h] at KW
      refine ⟨0, wh 3 g s x, KW, ⟨by omega, by omega⟩, ?_, by simp, hlen⟩
      rw [wh3_neg h]
      exact Nat.lt_of_le_of_lt (Nat.div_le_self _ _) hs
  have KL := fun w => length_any s2 w (by omega)
  have hb0 : bl s2 ≤ 128 := Nat.le_trans (bl_le (k := 54) hs2) (by decide)
  have hs2m : s2 % 18446744073709551616 = s2 := Nat.mod_eq_of_lt (by omega)
  generalize hwt : wh 3 g s x = t at *
  by_cases ho : 18446744073709551616 ≤ t
  · refine ⟨0, false, fun w => integer_64_o g sg x _ _ x2 _ _ (bl s2) w KW KL (by omega) (by omega) hx2.1 (by omega) (by omega), ?_⟩
    unfold ti_64
    cases sg <;> cases g
    · simp only [if_pos ho]; rfl
    · simp only [if_pos (show 0 < t by omega)]; rfl
    · simp only [if_pos (show 9223372036854775808 ≤ t by omega)]; rfl
    · simp only [if_pos (show 9223372036854775808 < t by omega)]; rfl
  · have hV : IntKind.u64.wrap (((s2 % 18446744073709551616 : Nat) : Int) * 2 ^ x2.toNat) = (t : Int) := by
      rw [hs2m, wrap_mul, ht]; omega
    have hLe : (bl s2 : Int) + x2 ≤ 64 := by omega
    unfold ti_64
    cases sg <;> cases g
    · refine ⟨_, _, fun w => integer_64_ff x _ _ x2 _ _ (bl s2) t w KW KL (by omega) (by omega) hx2.1 (by omega) hLe (by omega) hV, ?_⟩
      simp only [if_neg ho]; rfl
    · refine ⟨_, _, fun w => integer_64_ft x _ _ x2 _ _ (bl s2) t w KW KL (by omega) (by omega) hx2.1 (by omega) hLe (by omega) hV, ?_⟩
      by_cases hz : t = 0
      · subst hz; rfl
      · rw [show ((t : Int) == 0) = false from beq_eq_false_iff_ne.2 (by omega)]
        simp only [if_pos (show 0 < t by omega)]; rfl
    · refine ⟨_, _, fun w => integer_64_tf x _ _ x2 _ _ (bl s2) t w KW KL (by omega) (by omega) hx2.1 (by omega) hLe (by omega) hV, ?_⟩
      by_cases hz : 9223372036854775808 ≤ t
      · rw [show decide ((t : Int) < 9223372036854775808) = false from decide_eq_false (by omega)]
        simp only [if_pos hz]; rfl
      · rw [show decide ((t : Int) < 9223372036854775808) = true from decide_eq_true (by omega)]
        simp only [if_neg hz]; rfl
    · refine ⟨_, _, fun w => integer_64_tt x _ _ x2 _ _ (bl s2) t w KW KL (by omega) (by omega) hx2.1 (by omega) hLe (by omega) hV, ?_⟩
      rw [negand_64 t (by omega)]
      by_cases hz : 9223372036854775808 < t
      · rw [show decide ((t : Int) ≤ 9223372036854775808) = false from decide_eq_false (by omega)]
        simp only [if_pos hz]; rfl
      · rw [show decide ((t : Int) ≤ 9223372036854775808) = true from decide_eq_true (by omega)]
        simp only [if_neg hz]; rfl
end Go.Proofs.YthmppcfhbbjhlaaDoor
