import Derived.Test.YthmppcfhbbjhlaaDoorIv1
import Derived.Test.YthmppcfhbbjhlaaDoorIv2
import Derived.Test.YthmppcfhbbjhlaaDoorIv3
import Derived.Test.YthmppcfhbbjhlaaDoorIv4
import Derived.Test.YthmppcfhbbjhlaaDoorIv5
import Derived.Test.YthmppcfhbbjhlaaDoorFi1
import Derived.Test.YthmppcfhbbjhlaaDoorFi2
import Derived.Test.YthmppcfhbbjhlaaDoorFi3
import Derived.Test.YthmppcfhbbjhlaaDoorFi4
set_option linter.all false
namespace Go.Proofs.YthmppcfhbbjhlaaDoor
open Go.RowKit Go.Sort

/-- Both sides answer alike. -/
def Both (op : Int) (a : Nat) : Prop := ∃ (K : Bool) (t v : Int),
  (∀ w, Tab0 w → 0 < w.heap.size → Calls Tryd.prog 13 #[.int .i64 op, .int .u64 (a : Int)] w fun e w' => e = .returned (RV K t v) ∧ Below w.heap.size w w') ∧
  (∀ w, Calls Tryd.prog 12 #[.int .i64 op, .int .u64 (a : Int)] w fun e w' => e = .returned (RV K t v) ∧ Below w.heap.size w w')

theorem bl60 {s : Nat} (h : s < 18014398509481984) : bl s ≤ 60 := Nat.le_trans (bl_le (k := 54) h) (by decide)
theorem mt_n_z (m : Nat) (hk : kd_n m = 0) (h : mt_n m = 0) : ex_n m ≤ 0 := by
  unfold kd_n at hk
  unfold mt_n at h
  unfold ex_n
  split at hk
  · omega
  · split at hk
    · omega
    · rw [if_neg (show ¬ 2139095040 ≤ m by omega)] at h ⊢
      split at h
      · rename_i h1
        rw [if_pos h1]; omega
      · omega
theorem mt_w_z (m : Nat) (hk : kd_w m = 0) (h : mt_w m = 0) : ex_w m ≤ 0 := by
  unfold kd_w at hk
  unfold mt_w at h
  unfold ex_w
  split at hk
  · omega
  · split at hk
    · omega
    · rw [if_neg (show ¬ 9218868437227405312 ≤ m by omega)] at h ⊢
      split at h
      · rename_i h1
        rw [if_pos h1]; omega
      · omega
theorem both_168 (a : Nat) (ha : a < 18446744073709551616) : Both 168 a := by
  obtain ⟨m, hm⟩ : ∃ m, m = a % 4294967296 % 2147483648 := ⟨_, rfl⟩
  obtain ⟨g, hg⟩ : ∃ g, g = decide (2147483648 ≤ a % 4294967296) := ⟨_, rfl⟩
  have hml : m < 2147483648 := by omega
  have RI := fun w => iread_n a w ha m g hm hg
  have RS := fun w => sread_n a w ha m g hm hg
  have hx := ex_n_b m hml
  have hs := mt_n_b m
  have hz0 := mt_n_z m
  clear hm hg hml
  rcases kd_n_k m with hk | hk | hk
  · have hnot : ¬ 2139095040 < m := by intro h; unfold kd_n at hk; rw [if_pos h] at hk; omega
    rw [hk, if_neg hnot] at RI
    rw [hk] at RS
    have hz0 := hz0 hk
    generalize ex_n m = x at *
    generalize mt_n m = s at *
    obtain ⟨val, fits, KI, hv⟩ := iint_32 true g s x (by omega) hx.1 hx.2 hz0
    refine ⟨true, (ti_32 true g (wh 3 g s x)).1, (ti_32 true g (wh 3 g s x)).2, fun w hT hz => ?_, fun w => ?_⟩
    · refine iconv_168 a _ _ w hT hz (fun w hT hz => ?_)
      have h := toInt_0_32_k 0 (by decide) val fits a g x _ _ w hT hz RI KI
      rw [hv] at h
      exact h
    · exact sconv_168 a 0 g x s _ _ w RS (fun v w hS => strunc_32 true g v s x w (bl60 (by omega)) hx.1 hx.2 hS)
  · have hnot : ¬ 2139095040 < m := by intro h; unfold kd_n at hk; rw [if_pos h] at hk; omega
    rw [hk, if_neg hnot] at RI
    rw [hk] at RS
    generalize ex_n m = x at *
    generalize mt_n m = s at *
    refine ⟨true, 3, 0, fun w hT hz => ?_, fun w => ?_⟩
    · refine iconv_168 a _ _ w hT hz (fun w hT hz => ?_)
      exact toInt_0_32_k 1 (by decide) 0 false a g x _ _ w hT hz RI (fun w => integer_k 1 g true x _ _ 32 w (by decide))
    · exact sconv_168 a 1 g x s _ _ w RS (fun v w _ => trunc_1 g true x 32 v w)
  · have hyes : 2139095040 < m := by
      unfold kd_n at hk
      split at hk
      · assumption
      · split at hk <;> omega
    rw [hk, if_pos hyes] at RI
    rw [hk] at RS
    generalize ex_n m = x at *
    generalize mt_n m = s at *
    refine ⟨true, 4, 0, fun w hT hz => ?_, fun w => ?_⟩
    · refine iconv_168 a _ _ w hT hz (fun w hT hz => ?_)
      exact toInt_0_32_2 a false x _ _ w hT hz RI
    · exact sconv_168 a 2 g x s _ _ w RS (fun v w _ => trunc_2 g true x 32 v w)
theorem both_169 (a : Nat) (ha : a < 18446744073709551616) : Both 169 a := by
  obtain ⟨m, hm⟩ : ∃ m, m = a % 4294967296 % 2147483648 := ⟨_, rfl⟩
  obtain ⟨g, hg⟩ : ∃ g, g = decide (2147483648 ≤ a % 4294967296) := ⟨_, rfl⟩
  have hml : m < 2147483648 := by omega
  have RI := fun w => iread_n a w ha m g hm hg
  have RS := fun w => sread_n a w ha m g hm hg
  have hx := ex_n_b m hml
  have hs := mt_n_b m
  have hz0 := mt_n_z m
  clear hm hg hml
  rcases kd_n_k m with hk | hk | hk
  · have hnot : ¬ 2139095040 < m := by intro h; unfold kd_n at hk; rw [if_pos h] at hk; omega
    rw [hk, if_neg hnot] at RI
    rw [hk] at RS
    have hz0 := hz0 hk
    generalize ex_n m = x at *
    generalize mt_n m = s at *
    obtain ⟨val, fits, KI, hv⟩ := iint_32 false g s x (by omega) hx.1 hx.2 hz0
    refine ⟨true, (ti_32 false g (wh 3 g s x)).1, (ti_32 false g (wh 3 g s x)).2, fun w hT hz => ?_, fun w => ?_⟩
    · refine iconv_169 a _ _ w hT hz (fun w hT hz => ?_)
      have h := toInt_1_32_k 0 (by decide) val fits a g x _ _ w hT hz RI KI
      rw [hv] at h
      exact h
    · exact sconv_169 a 0 g x s _ _ w RS (fun v w hS => strunc_32 false g v s x w (bl60 (by omega)) hx.1 hx.2 hS)
  · have hnot : ¬ 2139095040 < m := by intro h; unfold kd_n at hk; rw [if_pos h] at hk; omega
    rw [hk, if_neg hnot] at RI
    rw [hk] at RS
    generalize ex_n m = x at *
    generalize mt_n m = s at *
    refine ⟨true, 3, 0, fun w hT hz => ?_, fun w => ?_⟩
    · refine iconv_169 a _ _ w hT hz (fun w hT hz => ?_)
      exact toInt_1_32_k 1 (by decide) 0 false a g x _ _ w hT hz RI (fun w => integer_k 1 g false x _ _ 32 w (by decide))
    · exact sconv_169 a 1 g x s _ _ w RS (fun v w _ => trunc_1 g false x 32 v w)
  · have hyes : 2139095040 < m := by
      unfold kd_n at hk
      split at hk
      · assumption
      · split at hk <;> omega
    rw [hk, if_pos hyes] at RI
    rw [hk] at RS
    generalize ex_n m = x at *
    generalize mt_n m = s at *
    refine ⟨true, 4, 0, fun w hT hz => ?_, fun w => ?_⟩
    · refine iconv_169 a _ _ w hT hz (fun w hT hz => ?_)
      exact toInt_1_32_2 a false x _ _ w hT hz RI
    · exact sconv_169 a 2 g x s _ _ w RS (fun v w _ => trunc_2 g false x 32 v w)
theorem both_170 (a : Nat) (ha : a < 18446744073709551616) : Both 170 a := by
  obtain ⟨m, hm⟩ : ∃ m, m = a % 18446744073709551616 % 9223372036854775808 := ⟨_, rfl⟩
  obtain ⟨g, hg⟩ : ∃ g, g = decide (9223372036854775808 ≤ a % 18446744073709551616) := ⟨_, rfl⟩
  have hml : m < 9223372036854775808 := by omega
  have RI := fun w => iread_w a w ha m g hm hg
  have RS := fun w => sread_w a w ha m g hm hg
  have hx := ex_w_b m hml
  have hs := mt_w_b m
  have hz0 := mt_w_z m
  clear hm hg hml
  rcases kd_w_k m with hk | hk | hk
  · have hnot : ¬ 9218868437227405312 < m := by intro h; unfold kd_w at hk; rw [if_pos h] at hk; omega
    rw [hk, if_neg hnot] at RI
    rw [hk] at RS
    have hz0 := hz0 hk
    generalize ex_w m = x at *
    generalize mt_w m = s at *
    obtain ⟨val, fits, KI, hv⟩ := iint_32 true g s x (by omega) hx.1 hx.2 hz0
    refine ⟨true, (ti_32 true g (wh 3 g s x)).1, (ti_32 true g (wh 3 g s x)).2, fun w hT hz => ?_, fun w => ?_⟩
    · refine iconv_170 a _ _ w hT hz (fun w hT hz => ?_)
      have h := toInt_2_32_k 0 (by decide) val fits a g x _ _ w hT hz RI KI
      rw [hv] at h
      exact h
    · exact sconv_170 a 0 g x s _ _ w RS (fun v w hS => strunc_32 true g v s x w (bl60 (by omega)) hx.1 hx.2 hS)
  · have hnot : ¬ 9218868437227405312 < m := by intro h; unfold kd_w at hk; rw [if_pos h] at hk; omega
    rw [hk, if_neg hnot] at RI
    rw [hk] at RS
    generalize ex_w m = x at *
    generalize mt_w m = s at *
    refine ⟨true, 3, 0, fun w hT hz => ?_, fun w => ?_⟩
    · refine iconv_170 a _ _ w hT hz (fun w hT hz => ?_)
      exact toInt_2_32_k 1 (by decide) 0 false a g x _ _ w hT hz RI (fun w => integer_k 1 g true x _ _ 32 w (by decide))
    · exact sconv_170 a 1 g x s _ _ w RS (fun v w _ => trunc_1 g true x 32 v w)
  · have hyes : 9218868437227405312 < m := by
      unfold kd_w at hk
      split at hk
      · assumption
      · split at hk <;> omega
    rw [hk, if_pos hyes] at RI
    rw [hk] at RS
    generalize ex_w m = x at *
    generalize mt_w m = s at *
    refine ⟨true, 4, 0, fun w hT hz => ?_, fun w => ?_⟩
    · refine iconv_170 a _ _ w hT hz (fun w hT hz => ?_)
      exact toInt_2_32_2 a false x _ _ w hT hz RI
    · exact sconv_170 a 2 g x s _ _ w RS (fun v w _ => trunc_2 g true x 32 v w)
theorem both_171 (a : Nat) (ha : a < 18446744073709551616) : Both 171 a := by
  obtain ⟨m, hm⟩ : ∃ m, m = a % 18446744073709551616 % 9223372036854775808 := ⟨_, rfl⟩
  obtain ⟨g, hg⟩ : ∃ g, g = decide (9223372036854775808 ≤ a % 18446744073709551616) := ⟨_, rfl⟩
  have hml : m < 9223372036854775808 := by omega
  have RI := fun w => iread_w a w ha m g hm hg
  have RS := fun w => sread_w a w ha m g hm hg
  have hx := ex_w_b m hml
  have hs := mt_w_b m
  have hz0 := mt_w_z m
  clear hm hg hml
  rcases kd_w_k m with hk | hk | hk
  · have hnot : ¬ 9218868437227405312 < m := by intro h; unfold kd_w at hk; rw [if_pos h] at hk; omega
    rw [hk, if_neg hnot] at RI
    rw [hk] at RS
    have hz0 := hz0 hk
    generalize ex_w m = x at *
    generalize mt_w m = s at *
    obtain ⟨val, fits, KI, hv⟩ := iint_32 false g s x (by omega) hx.1 hx.2 hz0
    refine ⟨true, (ti_32 false g (wh 3 g s x)).1, (ti_32 false g (wh 3 g s x)).2, fun w hT hz => ?_, fun w => ?_⟩
    · refine iconv_171 a _ _ w hT hz (fun w hT hz => ?_)
      have h := toInt_3_32_k 0 (by decide) val fits a g x _ _ w hT hz RI KI
      rw [hv] at h
      exact h
    · exact sconv_171 a 0 g x s _ _ w RS (fun v w hS => strunc_32 false g v s x w (bl60 (by omega)) hx.1 hx.2 hS)
  · have hnot : ¬ 9218868437227405312 < m := by intro h; unfold kd_w at hk; rw [if_pos h] at hk; omega
    rw [hk, if_neg hnot] at RI
    rw [hk] at RS
    generalize ex_w m = x at *
    generalize mt_w m = s at *
    refine ⟨true, 3, 0, fun w hT hz => ?_, fun w => ?_⟩
    · refine iconv_171 a _ _ w hT hz (fun w hT hz => ?_)
      exact toInt_3_32_k 1 (by decide) 0 false a g x _ _ w hT hz RI (fun w => integer_k 1 g false x _ _ 32 w (by decide))
    · exact sconv_171 a 1 g x s _ _ w RS (fun v w _ => trunc_1 g false x 32 v w)
  · have hyes : 9218868437227405312 < m := by
      unfold kd_w at hk
      split at hk
      · assumption
      · split at hk <;> omega
    rw [hk, if_pos hyes] at RI
    rw [hk] at RS
    generalize ex_w m = x at *
    generalize mt_w m = s at *
    refine ⟨true, 4, 0, fun w hT hz => ?_, fun w => ?_⟩
    · refine iconv_171 a _ _ w hT hz (fun w hT hz => ?_)
      exact toInt_3_32_2 a false x _ _ w hT hz RI
    · exact sconv_171 a 2 g x s _ _ w RS (fun v w _ => trunc_2 g false x 32 v w)
theorem both_174 (a : Nat) (ha : a < 18446744073709551616) : Both 174 a := by
  obtain ⟨m, hm⟩ : ∃ m, m = a % 4294967296 % 2147483648 := ⟨_, rfl⟩
  obtain ⟨g, hg⟩ : ∃ g, g = decide (2147483648 ≤ a % 4294967296) := ⟨_, rfl⟩
  have hml : m < 2147483648 := by omega
  have RI := fun w => iread_n a w ha m g hm hg
  have RS := fun w => sread_n a w ha m g hm hg
  have hx := ex_n_b m hml
  have hs := mt_n_b m
  have hz0 := mt_n_z m
  clear hm hg hml
  rcases kd_n_k m with hk | hk | hk
  · have hnot : ¬ 2139095040 < m := by intro h; unfold kd_n at hk; rw [if_pos h] at hk; omega
    rw [hk, if_neg hnot] at RI
    rw [hk] at RS
    have hz0 := hz0 hk
    generalize ex_n m = x at *
    generalize mt_n m = s at *
    obtain ⟨val, fits, KI, hv⟩ := iint_64 true g s x (by omega) hx.1 hx.2 hz0
    refine ⟨true, (ti_64 true g (wh 3 g s x)).1, (ti_64 true g (wh 3 g s x)).2, fun w hT hz => ?_, fun w => ?_⟩
    · refine iconv_174 a _ _ w hT hz (fun w hT hz => ?_)
      have h := toInt_0_64_k 0 (by decide) val fits a g x _ _ w hT hz RI KI
      rw [hv] at h
      exact h
    · exact sconv_174 a 0 g x s _ _ w RS (fun v w hS => strunc_64 true g v s x w (bl60 (by omega)) hx.1 hx.2 hS)
  · have hnot : ¬ 2139095040 < m := by intro h; unfold kd_n at hk; rw [if_pos h] at hk; omega
    rw [hk, if_neg hnot] at RI
    rw [hk] at RS
    generalize ex_n m = x at *
    generalize mt_n m = s at *
    refine ⟨true, 3, 0, fun w hT hz => ?_, fun w => ?_⟩
    · refine iconv_174 a _ _ w hT hz (fun w hT hz => ?_)
      exact toInt_0_64_k 1 (by decide) 0 false a g x _ _ w hT hz RI (fun w => integer_k 1 g true x _ _ 64 w (by decide))
    · exact sconv_174 a 1 g x s _ _ w RS (fun v w _ => trunc_1 g true x 64 v w)
  · have hyes : 2139095040 < m := by
      unfold kd_n at hk
      split at hk
      · assumption
      · split at hk <;> omega
    rw [hk, if_pos hyes] at RI
    rw [hk] at RS
    generalize ex_n m = x at *
    generalize mt_n m = s at *
    refine ⟨true, 4, 0, fun w hT hz => ?_, fun w => ?_⟩
    · refine iconv_174 a _ _ w hT hz (fun w hT hz => ?_)
      exact toInt_0_64_2 a false x _ _ w hT hz RI
    · exact sconv_174 a 2 g x s _ _ w RS (fun v w _ => trunc_2 g true x 64 v w)
theorem both_175 (a : Nat) (ha : a < 18446744073709551616) : Both 175 a := by
  obtain ⟨m, hm⟩ : ∃ m, m = a % 4294967296 % 2147483648 := ⟨_, rfl⟩
  obtain ⟨g, hg⟩ : ∃ g, g = decide (2147483648 ≤ a % 4294967296) := ⟨_, rfl⟩
  have hml : m < 2147483648 := by omega
  have RI := fun w => iread_n a w ha m g hm hg
  have RS := fun w => sread_n a w ha m g hm hg
  have hx := ex_n_b m hml
  have hs := mt_n_b m
  have hz0 := mt_n_z m
  clear hm hg hml
  rcases kd_n_k m with hk | hk | hk
  · have hnot : ¬ 2139095040 < m := by intro h; unfold kd_n at hk; rw [if_pos h] at hk; omega
    rw [hk, if_neg hnot] at RI
    rw [hk] at RS
    have hz0 := hz0 hk
    generalize ex_n m = x at *
    generalize mt_n m = s at *
    obtain ⟨val, fits, KI, hv⟩ := iint_64 false g s x (by omega) hx.1 hx.2 hz0
    refine ⟨true, (ti_64 false g (wh 3 g s x)).1, (ti_64 false g (wh 3 g s x)).2, fun w hT hz => ?_, fun w => ?_⟩
    · refine iconv_175 a _ _ w hT hz (fun w hT hz => ?_)
      have h := toInt_1_64_k 0 (by decide) val fits a g x _ _ w hT hz RI KI
      rw [hv] at h
      exact h
    · exact sconv_175 a 0 g x s _ _ w RS (fun v w hS => strunc_64 false g v s x w (bl60 (by omega)) hx.1 hx.2 hS)
  · have hnot : ¬ 2139095040 < m := by intro h; unfold kd_n at hk; rw [if_pos h] at hk; omega
    rw [hk, if_neg hnot] at RI
    rw [hk] at RS
    generalize ex_n m = x at *
    generalize mt_n m = s at *
    refine ⟨true, 3, 0, fun w hT hz => ?_, fun w => ?_⟩
    · refine iconv_175 a _ _ w hT hz (fun w hT hz => ?_)
      exact toInt_1_64_k 1 (by decide) 0 false a g x _ _ w hT hz RI (fun w => integer_k 1 g false x _ _ 64 w (by decide))
    · exact sconv_175 a 1 g x s _ _ w RS (fun v w _ => trunc_1 g false x 64 v w)
  · have hyes : 2139095040 < m := by
      unfold kd_n at hk
      split at hk
      · assumption
      · split at hk <;> omega
    rw [hk, if_pos hyes] at RI
    rw [hk] at RS
    generalize ex_n m = x at *
    generalize mt_n m = s at *
    refine ⟨true, 4, 0, fun w hT hz => ?_, fun w => ?_⟩
    · refine iconv_175 a _ _ w hT hz (fun w hT hz => ?_)
      exact toInt_1_64_2 a false x _ _ w hT hz RI
    · exact sconv_175 a 2 g x s _ _ w RS (fun v w _ => trunc_2 g false x 64 v w)
theorem both_176 (a : Nat) (ha : a < 18446744073709551616) : Both 176 a := by
  obtain ⟨m, hm⟩ : ∃ m, m = a % 18446744073709551616 % 9223372036854775808 := ⟨_, rfl⟩
  obtain ⟨g, hg⟩ : ∃ g, g = decide (9223372036854775808 ≤ a % 18446744073709551616) := ⟨_, rfl⟩
  have hml : m < 9223372036854775808 := by omega
  have RI := fun w => iread_w a w ha m g hm hg
  have RS := fun w => sread_w a w ha m g hm hg
  have hx := ex_w_b m hml
  have hs := mt_w_b m
  have hz0 := mt_w_z m
  clear hm hg hml
  rcases kd_w_k m with hk | hk | hk
  · have hnot : ¬ 9218868437227405312 < m := by intro h; unfold kd_w at hk; rw [if_pos h] at hk; omega
    rw [hk, if_neg hnot] at RI
    rw [hk] at RS
    have hz0 := hz0 hk
    generalize ex_w m = x at *
    generalize mt_w m = s at *
    obtain ⟨val, fits, KI, hv⟩ := iint_64 true g s x (by omega) hx.1 hx.2 hz0
    refine ⟨true, (ti_64 true g (wh 3 g s x)).1, (ti_64 true g (wh 3 g s x)).2, fun w hT hz => ?_, fun w => ?_⟩
    · refine iconv_176 a _ _ w hT hz (fun w hT hz => ?_)
      have h := toInt_2_64_k 0 (by decide) val fits a g x _ _ w hT hz RI KI
      rw [hv] at h
      exact h
    · exact sconv_176 a 0 g x s _ _ w RS (fun v w hS => strunc_64 true g v s x w (bl60 (by omega)) hx.1 hx.2 hS)
  · have hnot : ¬ 9218868437227405312 < m := by intro h; unfold kd_w at hk; rw [if_pos h] at hk; omega
    rw [hk, if_neg hnot] at RI
    rw [hk] at RS
    generalize ex_w m = x at *
    generalize mt_w m = s at *
    refine ⟨true, 3, 0, fun w hT hz => ?_, fun w => ?_⟩
    · refine iconv_176 a _ _ w hT hz (fun w hT hz => ?_)
      exact toInt_2_64_k 1 (by decide) 0 false a g x _ _ w hT hz RI (fun w => integer_k 1 g true x _ _ 64 w (by decide))
    · exact sconv_176 a 1 g x s _ _ w RS (fun v w _ => trunc_1 g true x 64 v w)
  · have hyes : 9218868437227405312 < m := by
      unfold kd_w at hk
      split at hk
      · assumption
      · split at hk <;> omega
    rw [hk, if_pos hyes] at RI
    rw [hk] at RS
    generalize ex_w m = x at *
    generalize mt_w m = s at *
    refine ⟨true, 4, 0, fun w hT hz => ?_, fun w => ?_⟩
    · refine iconv_176 a _ _ w hT hz (fun w hT hz => ?_)
      exact toInt_2_64_2 a false x _ _ w hT hz RI
    · exact sconv_176 a 2 g x s _ _ w RS (fun v w _ => trunc_2 g true x 64 v w)
theorem both_177 (a : Nat) (ha : a < 18446744073709551616) : Both 177 a := by
  obtain ⟨m, hm⟩ : ∃ m, m = a % 18446744073709551616 % 9223372036854775808 := ⟨_, rfl⟩
  obtain ⟨g, hg⟩ : ∃ g, g = decide (9223372036854775808 ≤ a % 18446744073709551616) := ⟨_, rfl⟩
  have hml : m < 9223372036854775808 := by omega
  have RI := fun w => iread_w a w ha m g hm hg
  have RS := fun w => sread_w a w ha m g hm hg
  have hx := ex_w_b m hml
  have hs := mt_w_b m
  have hz0 := mt_w_z m
  clear hm hg hml
  rcases kd_w_k m with hk | hk | hk
  · have hnot : ¬ 9218868437227405312 < m := by intro h; unfold kd_w at hk; rw [if_pos h] at hk; omega
    rw [hk, if_neg hnot] at RI
    rw [hk] at RS
    have hz0 := hz0 hk
    generalize ex_w m = x at *
    generalize mt_w m = s at *
    obtain ⟨val, fits, KI, hv⟩ := iint_64 false g s x (by omega) hx.1 hx.2 hz0
    refine ⟨true, (ti_64 false g (wh 3 g s x)).1, (ti_64 false g (wh 3 g s x)).2, fun w hT hz => ?_, fun w => ?_⟩
    · refine iconv_177 a _ _ w hT hz (fun w hT hz => ?_)
      have h := toInt_3_64_k 0 (by decide) val fits a g x _ _ w hT hz RI KI
      rw [hv] at h
      exact h
    · exact sconv_177 a 0 g x s _ _ w RS (fun v w hS => strunc_64 false g v s x w (bl60 (by omega)) hx.1 hx.2 hS)
  · have hnot : ¬ 9218868437227405312 < m := by intro h; unfold kd_w at hk; rw [if_pos h] at hk; omega
    rw [hk, if_neg hnot] at RI
    rw [hk] at RS
    generalize ex_w m = x at *
    generalize mt_w m = s at *
    refine ⟨true, 3, 0, fun w hT hz => ?_, fun w => ?_⟩
    · refine iconv_177 a _ _ w hT hz (fun w hT hz => ?_)
      exact toInt_3_64_k 1 (by decide) 0 false a g x _ _ w hT hz RI (fun w => integer_k 1 g false x _ _ 64 w (by decide))
    · exact sconv_177 a 1 g x s _ _ w RS (fun v w _ => trunc_1 g false x 64 v w)
  · have hyes : 9218868437227405312 < m := by
      unfold kd_w at hk
      split at hk
      · assumption
      · split at hk <;> omega
    rw [hk, if_pos hyes] at RI
    rw [hk] at RS
    generalize ex_w m = x at *
    generalize mt_w m = s at *
    refine ⟨true, 4, 0, fun w hT hz => ?_, fun w => ?_⟩
    · refine iconv_177 a _ _ w hT hz (fun w hT hz => ?_)
      exact toInt_3_64_2 a false x _ _ w hT hz RI
    · exact sconv_177 a 2 g x s _ _ w RS (fun v w _ => trunc_2 g false x 64 v w)
theorem both_178 (a : Nat) (ha : a < 18446744073709551616) : Both 178 a := by
  by_cases hn : 2147483648 ≤ (a % 4294967296)
  · obtain ⟨s, hs⟩ : ∃ s, s = 4294967296 - (a % 4294967296) := ⟨_, rfl⟩
    refine ⟨true, 0, wr_n 0 true s 0, fun w hT hz => ?_, fun w => ?_⟩
    · have hO := fun w => ofInt_0t (a : Int) _ w (by omega) (by omega) rfl (wrap64 (IntKind.u64.wrap (wrap32 (a : Int)))) rfl (by rw [IntKind.wrap_u64]; unfold wrap64; unfold wrap32; omega)
      have e : NV 0 true 0 (IntKind.u64.wrap (-(IntKind.u64.wrap (wrap32 (a : Int))))) 0 = N2 0 true 0 s := by
        rw [N2, Nat.mod_eq_of_lt (show s < 18446744073709551616 by omega), Nat.div_eq_of_lt (show s < 18446744073709551616 by omega), show IntKind.u64.wrap (-(IntKind.u64.wrap (wrap32 (a : Int)))) = (s : Int) by rw [IntKind.wrap_u64, IntKind.wrap_u64]; unfold wrap32; omega]; rfl
      rw [e] at hO
      exact iconv_178 a true 0 _ _ _ w hT hz hO (fun w => write_n 0 true 0 s w (.inl rfl) (by omega) (by omega) (by omega))
    · refine sconv_178 a _ w (fun w => fromInt_n_32_11 (a : Int) ((a : Int) % 4294967296) s _ w (fun w => low32 (a : Int) w (by omega) (by omega)) (wrap32 ((a : Int) % 4294967296)) (fun w => signed32 ((a : Int) % 4294967296) w (by omega) (by omega)) (by unfold wrap32; omega) (fun w => ?_) (by omega) rfl)
      have h := low32 (IntKind.u64.wrap (-((a : Int) % 4294967296))) w (by rw [IntKind.wrap_u64]; omega) (by rw [IntKind.wrap_u64]; omega)
      rw [show IntKind.u64.wrap (-((a : Int) % 4294967296)) % 4294967296 = (s : Int) by rw [IntKind.wrap_u64]; omega] at h
      exact h
      
  · refine ⟨true, 0, wr_n 0 false (a % 4294967296) 0, fun w hT hz => ?_, fun w => ?_⟩
    · have hO := fun w => ofInt_0f (a : Int) _ w (by omega) (by omega) rfl (wrap64 (IntKind.u64.wrap (wrap32 (a : Int)))) rfl (by rw [IntKind.wrap_u64]; unfold wrap64; unfold wrap32; omega)
      have e : NV 0 false 0 (IntKind.u64.wrap (wrap32 (a : Int))) 0 = N2 0 false 0 (a % 4294967296) := by
        rw [N2, Nat.mod_eq_of_lt (show (a % 4294967296) < 18446744073709551616 by omega), Nat.div_eq_of_lt (show (a % 4294967296) < 18446744073709551616 by omega), show IntKind.u64.wrap (wrap32 (a : Int)) = ((a % 4294967296 : Nat) : Int) by rw [IntKind.wrap_u64]; unfold wrap32; omega]; rfl
      rw [e] at hO
      exact iconv_178 a false 0 _ _ _ w hT hz hO (fun w => write_n 0 false 0 (a % 4294967296) w (.inl rfl) (by omega) (by omega) (by omega))
    · exact sconv_178 a _ w (fun w => fromInt_n_32_10 (a : Int) ((a : Int) % 4294967296) (a % 4294967296) _ w (fun w => low32 (a : Int) w (by omega) (by omega)) (wrap32 ((a : Int) % 4294967296)) (fun w => signed32 ((a : Int) % 4294967296) w (by omega) (by omega)) (by unfold wrap32; omega) (by omega) (by omega) rfl)
theorem both_179 (a : Nat) (ha : a < 18446744073709551616) : Both 179 a := by
  refine ⟨true, 0, wr_n 0 false (a % 4294967296) 0, fun w hT hz => ?_, fun w => ?_⟩
  · have hO := fun w => ofInt_1f (a : Int) ((a : Int) % 4294967296) w (by omega) (by omega) rfl
    have e : NV 0 false 0 ((a : Int) % 4294967296) 0 = N2 0 false 0 (a % 4294967296) := by
      rw [N2, Nat.mod_eq_of_lt (by omega), Nat.div_eq_of_lt (by omega), show ((a % 4294967296 : Nat) : Int) = (a : Int) % 4294967296 by omega]; rfl
    rw [e] at hO
    exact iconv_179 a false 0 _ _ _ w hT hz hO (fun w => write_n 0 false 0 (a % 4294967296) w (.inl rfl) (by omega) (by omega) (by omega))
  · exact sconv_179 a _ w (fun w => fromInt_n_32_00 (a : Int) ((a : Int) % 4294967296) (a % 4294967296) _ w (fun w => low32 (a : Int) w (by omega) (by omega)) (by omega) (by omega) rfl)
theorem both_180 (a : Nat) (ha : a < 18446744073709551616) : Both 180 a := by
  by_cases hn : 9223372036854775808 ≤ a
  · obtain ⟨s, hs⟩ : ∃ s, s = 18446744073709551616 - a := ⟨_, rfl⟩
    refine ⟨true, 0, wr_n 0 true s 0, fun w hT hz => ?_, fun w => ?_⟩
    · have hO := fun w => ofInt_2t (a : Int) _ w (by omega) (by omega) rfl (wrap64 (a : Int)) rfl (by unfold wrap64; omega)
      have e : NV 0 true 0 (IntKind.u64.wrap (-(a : Int))) 0 = N2 0 true 0 s := by
        rw [N2, Nat.mod_eq_of_lt (show s < 18446744073709551616 by omega), Nat.div_eq_of_lt (show s < 18446744073709551616 by omega), show IntKind.u64.wrap (-(a : Int)) = (s : Int) by rw [IntKind.wrap_u64]; omega]; rfl
      rw [e] at hO
      exact iconv_180 a true 0 _ _ _ w hT hz hO (fun w => write_n 0 true 0 s w (.inl rfl) (by omega) (by omega) (by omega))
    · refine sconv_180 a _ w (fun w => fromInt_n_64_11 (a : Int) (a : Int) s _ w (fun w => low64 (a : Int) w) (wrap64 (a : Int)) (fun w => signed64 (a : Int) w (by omega) (by omega)) (by unfold wrap64; omega) (fun w => ?_) (by omega) rfl)
      have h := low64 (IntKind.u64.wrap (-(a : Int))) w
      rw [show IntKind.u64.wrap (-(a : Int)) = (s : Int) by rw [IntKind.wrap_u64]; omega] at h
      have e : IntKind.u64.wrap (-(a : Int)) = (s : Int) := by rw [IntKind.wrap_u64]; omega
      rw [e]; exact h
  · refine ⟨true, 0, wr_n 0 false a 0, fun w hT hz => ?_, fun w => ?_⟩
    · have hO := fun w => ofInt_2f (a : Int) _ w (by omega) (by omega) rfl (wrap64 (a : Int)) rfl (by unfold wrap64; omega)
      have e : NV 0 false 0 (a : Int) 0 = N2 0 false 0 a := by
        rw [N2, Nat.mod_eq_of_lt (show a < 18446744073709551616 by omega), Nat.div_eq_of_lt (show a < 18446744073709551616 by omega)]; rfl
      rw [e] at hO
      exact iconv_180 a false 0 _ _ _ w hT hz hO (fun w => write_n 0 false 0 a w (.inl rfl) (by omega) (by omega) (by omega))
    · exact sconv_180 a _ w (fun w => fromInt_n_64_10 (a : Int) (a : Int) a _ w (fun w => low64 (a : Int) w) (wrap64 (a : Int)) (fun w => signed64 (a : Int) w (by omega) (by omega)) (by unfold wrap64; omega) (by omega) (by omega) rfl)
theorem both_181 (a : Nat) (ha : a < 18446744073709551616) : Both 181 a := by
  refine ⟨true, 0, wr_n 0 false a 0, fun w hT hz => ?_, fun w => ?_⟩
  · have hO := fun w => ofInt_3f (a : Int) (a : Int) w (by omega) (by omega) rfl
    have e : NV 0 false 0 (a : Int) 0 = N2 0 false 0 a := by
      rw [N2, Nat.mod_eq_of_lt (by omega), Nat.div_eq_of_lt (by omega)]; rfl
    rw [e] at hO
    exact iconv_181 a false 0 _ _ _ w hT hz hO (fun w => write_n 0 false 0 a w (.inl rfl) (by omega) (by omega) (by omega))
  · exact sconv_181 a _ w (fun w => fromInt_n_64_00 (a : Int) (a : Int) a _ w (fun w => low64 (a : Int) w) (by omega) (by omega) rfl)
theorem both_183 (a : Nat) (ha : a < 18446744073709551616) : Both 183 a := by
  by_cases hn : 2147483648 ≤ (a % 4294967296)
  · obtain ⟨s, hs⟩ : ∃ s, s = 4294967296 - (a % 4294967296) := ⟨_, rfl⟩
    refine ⟨true, 0, wr_w 0 true s 0, fun w hT hz => ?_, fun w => ?_⟩
    · have hO := fun w => ofInt_0t (a : Int) _ w (by omega) (by omega) rfl (wrap64 (IntKind.u64.wrap (wrap32 (a : Int)))) rfl (by rw [IntKind.wrap_u64]; unfold wrap64; unfold wrap32; omega)
      have e : NV 0 true 0 (IntKind.u64.wrap (-(IntKind.u64.wrap (wrap32 (a : Int))))) 0 = N2 0 true 0 s := by
        rw [N2, Nat.mod_eq_of_lt (show s < 18446744073709551616 by omega), Nat.div_eq_of_lt (show s < 18446744073709551616 by omega), show IntKind.u64.wrap (-(IntKind.u64.wrap (wrap32 (a : Int)))) = (s : Int) by rw [IntKind.wrap_u64, IntKind.wrap_u64]; unfold wrap32; omega]; rfl
      rw [e] at hO
      exact iconv_183 a true 0 _ _ _ w hT hz hO (fun w => write_w 0 true 0 s w (.inl rfl) (by omega) (by omega) (by omega))
    · refine sconv_183 a _ w (fun w => fromInt_w_32_11 (a : Int) ((a : Int) % 4294967296) s _ w (fun w => low32 (a : Int) w (by omega) (by omega)) (wrap32 ((a : Int) % 4294967296)) (fun w => signed32 ((a : Int) % 4294967296) w (by omega) (by omega)) (by unfold wrap32; omega) (fun w => ?_) (by omega) rfl)
      have h := low32 (IntKind.u64.wrap (-((a : Int) % 4294967296))) w (by rw [IntKind.wrap_u64]; omega) (by rw [IntKind.wrap_u64]; omega)
      rw [show IntKind.u64.wrap (-((a : Int) % 4294967296)) % 4294967296 = (s : Int) by rw [IntKind.wrap_u64]; omega] at h
      exact h
      
  · refine ⟨true, 0, wr_w 0 false (a % 4294967296) 0, fun w hT hz => ?_, fun w => ?_⟩
    · have hO := fun w => ofInt_0f (a : Int) _ w (by omega) (by omega) rfl (wrap64 (IntKind.u64.wrap (wrap32 (a : Int)))) rfl (by rw [IntKind.wrap_u64]; unfold wrap64; unfold wrap32; omega)
      have e : NV 0 false 0 (IntKind.u64.wrap (wrap32 (a : Int))) 0 = N2 0 false 0 (a % 4294967296) := by
        rw [N2, Nat.mod_eq_of_lt (show (a % 4294967296) < 18446744073709551616 by omega), Nat.div_eq_of_lt (show (a % 4294967296) < 18446744073709551616 by omega), show IntKind.u64.wrap (wrap32 (a : Int)) = ((a % 4294967296 : Nat) : Int) by rw [IntKind.wrap_u64]; unfold wrap32; omega]; rfl
      rw [e] at hO
      exact iconv_183 a false 0 _ _ _ w hT hz hO (fun w => write_w 0 false 0 (a % 4294967296) w (.inl rfl) (by omega) (by omega) (by omega))
    · exact sconv_183 a _ w (fun w => fromInt_w_32_10 (a : Int) ((a : Int) % 4294967296) (a % 4294967296) _ w (fun w => low32 (a : Int) w (by omega) (by omega)) (wrap32 ((a : Int) % 4294967296)) (fun w => signed32 ((a : Int) % 4294967296) w (by omega) (by omega)) (by unfold wrap32; omega) (by omega) (by omega) rfl)
theorem both_184 (a : Nat) (ha : a < 18446744073709551616) : Both 184 a := by
  refine ⟨true, 0, wr_w 0 false (a % 4294967296) 0, fun w hT hz => ?_, fun w => ?_⟩
  · have hO := fun w => ofInt_1f (a : Int) ((a : Int) % 4294967296) w (by omega) (by omega) rfl
    have e : NV 0 false 0 ((a : Int) % 4294967296) 0 = N2 0 false 0 (a % 4294967296) := by
      rw [N2, Nat.mod_eq_of_lt (by omega), Nat.div_eq_of_lt (by omega), show ((a % 4294967296 : Nat) : Int) = (a : Int) % 4294967296 by omega]; rfl
    rw [e] at hO
    exact iconv_184 a false 0 _ _ _ w hT hz hO (fun w => write_w 0 false 0 (a % 4294967296) w (.inl rfl) (by omega) (by omega) (by omega))
  · exact sconv_184 a _ w (fun w => fromInt_w_32_00 (a : Int) ((a : Int) % 4294967296) (a % 4294967296) _ w (fun w => low32 (a : Int) w (by omega) (by omega)) (by omega) (by omega) rfl)
theorem both_185 (a : Nat) (ha : a < 18446744073709551616) : Both 185 a := by
  by_cases hn : 9223372036854775808 ≤ a
  · obtain ⟨s, hs⟩ : ∃ s, s = 18446744073709551616 - a := ⟨_, rfl⟩
    refine ⟨true, 0, wr_w 0 true s 0, fun w hT hz => ?_, fun w => ?_⟩
    · have hO := fun w => ofInt_2t (a : Int) _ w (by omega) (by omega) rfl (wrap64 (a : Int)) rfl (by unfold wrap64; omega)
      have e : NV 0 true 0 (IntKind.u64.wrap (-(a : Int))) 0 = N2 0 true 0 s := by
        rw [N2, Nat.mod_eq_of_lt (show s < 18446744073709551616 by omega), Nat.div_eq_of_lt (show s < 18446744073709551616 by omega), show IntKind.u64.wrap (-(a : Int)) = (s : Int) by rw [IntKind.wrap_u64]; omega]; rfl
      rw [e] at hO
      exact iconv_185 a true 0 _ _ _ w hT hz hO (fun w => write_w 0 true 0 s w (.inl rfl) (by omega) (by omega) (by omega))
    · refine sconv_185 a _ w (fun w => fromInt_w_64_11 (a : Int) (a : Int) s _ w (fun w => low64 (a : Int) w) (wrap64 (a : Int)) (fun w => signed64 (a : Int) w (by omega) (by omega)) (by unfold wrap64; omega) (fun w => ?_) (by omega) rfl)
      have h := low64 (IntKind.u64.wrap (-(a : Int))) w
      rw [show IntKind.u64.wrap (-(a : Int)) = (s : Int) by rw [IntKind.wrap_u64]; omega] at h
      have e : IntKind.u64.wrap (-(a : Int)) = (s : Int) := by rw [IntKind.wrap_u64]; omega
      rw [e]; exact h
  · refine ⟨true, 0, wr_w 0 false a 0, fun w hT hz => ?_, fun w => ?_⟩
    · have hO := fun w => ofInt_2f (a : Int) _ w (by omega) (by omega) rfl (wrap64 (a : Int)) rfl (by unfold wrap64; omega)
      have e : NV 0 false 0 (a : Int) 0 = N2 0 false 0 a := by
        rw [N2, Nat.mod_eq_of_lt (show a < 18446744073709551616 by omega), Nat.div_eq_of_lt (show a < 18446744073709551616 by omega)]; rfl
      rw [e] at hO
      exact iconv_185 a false 0 _ _ _ w hT hz hO (fun w => write_w 0 false 0 a w (.inl rfl) (by omega) (by omega) (by omega))
    · exact sconv_185 a _ w (fun w => fromInt_w_64_10 (a : Int) (a : Int) a _ w (fun w => low64 (a : Int) w) (wrap64 (a : Int)) (fun w => signed64 (a : Int) w (by omega) (by omega)) (by unfold wrap64; omega) (by omega) (by omega) rfl)
theorem both_186 (a : Nat) (ha : a < 18446744073709551616) : Both 186 a := by
  refine ⟨true, 0, wr_w 0 false a 0, fun w hT hz => ?_, fun w => ?_⟩
  · have hO := fun w => ofInt_3f (a : Int) (a : Int) w (by omega) (by omega) rfl
    have e : NV 0 false 0 (a : Int) 0 = N2 0 false 0 a := by
      rw [N2, Nat.mod_eq_of_lt (by omega), Nat.div_eq_of_lt (by omega)]; rfl
    rw [e] at hO
    exact iconv_186 a false 0 _ _ _ w hT hz hO (fun w => write_w 0 false 0 a w (.inl rfl) (by omega) (by omega) (by omega))
  · exact sconv_186 a _ w (fun w => fromInt_w_64_00 (a : Int) (a : Int) a _ w (fun w => low64 (a : Int) w) (by omega) (by omega) rfl)
theorem both_182 (a : Nat) (ha : a < 18446744073709551616) : Both 182 a := by
  obtain ⟨m, hm⟩ : ∃ m, m = a % 18446744073709551616 % 9223372036854775808 := ⟨_, rfl⟩
  obtain ⟨g, hg⟩ : ∃ g, g = decide (9223372036854775808 ≤ a % 18446744073709551616) := ⟨_, rfl⟩
  have hml : m < 9223372036854775808 := by omega
  have RI := fun w => iread_w a w ha m g hm hg
  have RS := fun w => sread_w a w ha m g hm hg
  have hx := ex_w_b m hml
  have hs := mt_w_b m
  have hk := kd_w_k m
  have hg2 : ∀ s x, wr_n (kd_w m) (if 9218868437227405312 < m then false else g) s x = wr_n (kd_w m) g s x := by
    intro s x
    by_cases h : 9218868437227405312 < m
    · have e : kd_w m = 2 := by unfold kd_w; rw [if_pos h]
      rw [e]; rfl
    · rw [if_neg h]
  refine ⟨true, 0, wr_n (kd_w m) g (mt_w m) (ex_w m), fun w hT hz => ?_, fun w => ?_⟩
  · refine iconv_182 a _ _ _ _ _ _ w hT hz RI (fun w => ?_)
    have h := write_n (kd_w m) (if 9218868437227405312 < m then false else g) (ex_w m) (mt_w m) w hk (by omega) (by omega) (by omega)
    rw [hg2] at h
    exact h
  · exact sconv_182 a _ _ _ _ _ w RS (fun v w hS => swrite_n _ g _ _ v w hk (Nat.le_trans (bl60 (by omega)) (by decide)) (by omega) (by omega) hS)
theorem both_187 (a : Nat) (ha : a < 18446744073709551616) : Both 187 a := by
  obtain ⟨m, hm⟩ : ∃ m, m = a % 4294967296 % 2147483648 := ⟨_, rfl⟩
  obtain ⟨g, hg⟩ : ∃ g, g = decide (2147483648 ≤ a % 4294967296) := ⟨_, rfl⟩
  have hml : m < 2147483648 := by omega
  have RI := fun w => iread_n a w ha m g hm hg
  have RS := fun w => sread_n a w ha m g hm hg
  have hx := ex_n_b m hml
  have hs := mt_n_b m
  have hk := kd_n_k m
  have hg2 : ∀ s x, wr_w (kd_n m) (if 2139095040 < m then false else g) s x = wr_w (kd_n m) g s x := by
    intro s x
    by_cases h : 2139095040 < m
    · have e : kd_n m = 2 := by unfold kd_n; rw [if_pos h]
      rw [e]; rfl
    · rw [if_neg h]
  refine ⟨true, 0, wr_w (kd_n m) g (mt_n m) (ex_n m), fun w hT hz => ?_, fun w => ?_⟩
  · refine iconv_187 a _ _ _ _ _ _ w hT hz RI (fun w => ?_)
    have h := write_w (kd_n m) (if 2139095040 < m then false else g) (ex_n m) (mt_n m) w hk (by omega) (by omega) (by omega)
    rw [hg2] at h
    exact h
  · exact sconv_187 a _ _ _ _ _ w RS (fun v w hS => swrite_w _ g _ _ v w hk (Nat.le_trans (bl60 (by omega)) (by decide)) (by omega) (by omega) hS)
theorem both_188 (a : Nat) (ha : a < 18446744073709551616) : Both 188 a := by
  refine ⟨true, 0, (a : Int) % 4294967296, fun w hT hz => ?_, fun w => sconv_188 a w (by omega) (by omega)⟩
  refine iconv_188 a _ w hT hz (fun w => ?_)
  have h := low_n (a : Int) w
  rw [low_n_m a ha, show ((a % 4294967296 : Nat) : Int) = (a : Int) % 4294967296 by omega] at h
  exact h
theorem both_190 (a : Nat) (ha : a < 18446744073709551616) : Both 190 a := by
  refine ⟨true, 0, (a : Int) % 4294967296, fun w hT hz => ?_, fun w => sconv_190 a w (by omega) (by omega)⟩
  refine iconv_190 a _ w hT hz (fun w => ?_)
  have h := low_n (a : Int) w
  rw [low_n_m a ha, show ((a % 4294967296 : Nat) : Int) = (a : Int) % 4294967296 by omega] at h
  exact h
theorem both_189 (a : Nat) (ha : a < 18446744073709551616) : Both 189 a :=
  ⟨true, 0, (a : Int), fun w hT hz => iconv_189 a w hT hz, fun w => sconv_189 a w (by omega) (by omega)⟩
theorem both_191 (a : Nat) (ha : a < 18446744073709551616) : Both 191 a :=
  ⟨true, 0, (a : Int), fun w hT hz => iconv_191 a w hT hz, fun w => sconv_191 a w (by omega) (by omega)⟩
theorem both_any (op : Int) (a : Nat) (ha : a < 18446744073709551616) (hl : -9223372036854775808 ≤ op) (hr : op ≤ 9223372036854775807) : Both op a := by
  by_cases h1 : 168 ≤ op ∧ op ≤ 171
  · rcases (show op = 168 ∨ op = 169 ∨ op = 170 ∨ op = 171 by omega) with rfl | rfl | rfl | rfl
    · exact both_168 a ha
    · exact both_169 a ha
    · exact both_170 a ha
    · exact both_171 a ha
  · by_cases h2 : 174 ≤ op ∧ op ≤ 191
    · rcases (show op = 174 ∨ op = 175 ∨ op = 176 ∨ op = 177 ∨ op = 178 ∨ op = 179 ∨ op = 180 ∨ op = 181 ∨ op = 182 ∨ op = 183 ∨ op = 184 ∨ op = 185 ∨ op = 186 ∨ op = 187 ∨ op = 188 ∨ op = 189 ∨ op = 190 ∨ op = 191 by omega) with rfl | rfl | rfl | rfl | rfl | rfl | rfl | rfl | rfl | rfl | rfl | rfl | rfl | rfl | rfl | rfl | rfl | rfl
      · exact both_174 a ha
      · exact both_175 a ha
      · exact both_176 a ha
      · exact both_177 a ha
      · exact both_178 a ha
      · exact both_179 a ha
      · exact both_180 a ha
      · exact both_181 a ha
      · exact both_182 a ha
      · exact both_183 a ha
      · exact both_184 a ha
      · exact both_185 a ha
      · exact both_186 a ha
      · exact both_187 a ha
      · exact both_188 a ha
      · exact both_189 a ha
      · exact both_190 a ha
      · exact both_191 a ha
    · exact ⟨false, 0, 0, fun w hT hz => iconv_none op a w h1 h2 hT hz, fun w => sconv_none op a w h1 h2 hl hr⟩

set_option maxHeartbeats 400000 in
theorem eqRes_any (K : Bool) (t v : Int) (w : World) :
    Calls Tryd.prog 11 #[RV K t v, RV K t v] w fun e w' => e = .returned (.bool true) ∧ Below w.heap.size w w' := by
  go_enter Tryd.func11, Tryd.ntmps11
  go_wp2
  all_goals (try go_quiet (fail))
  all_goals (try go_wp2)
  go_ret
  exact ⟨rfl, by repeat (first | exact Below.refl _ _ | apply Below.drew | (refine Below.alloc ?_ (by simp) _))⟩
set_option maxHeartbeats 1000000 in
theorem lawConvert (op : Int) (A : Nat) (w : World) (hl : -9223372036854775808 ≤ op) (hr : op ≤ 9223372036854775807) (hA : A < 18446744073709551616) (hT : Tab0 w) (hz : 0 < w.heap.size) :
    Calls Tryd.prog 4 #[.int .i64 op, .int .u64 A] w fun e w' => e = .returned (.bool true) ∧ Below w.heap.size w w' := by
  obtain ⟨K, t, v, hG⟩ := both_any op A hA hl hr
  have HI := Hid.mk' hG.1
  have HS := Hid.mk' hG.2
  have HT := Hid.mk' hT
  clear hG hT
  go_enter Tryd.func4, Tryd.ntmps4
  go_wp2_with fail
  refine (HS.out _).mono ?_
  rintro e w1 ⟨rfl, hb1⟩
  have HB1 := Hid.mk' hb1
  have hz1 := hb1.size
  clear hb1
  go_wp2_with fail
  refine (HI.out _ ?hTab ?hSize).mono ?_
  case hTab => exact HT.out.below (HB1.out.trans ((Below.refl _ _).alloc hz1 _)) hz
  case hSize => simp
  rintro e w2 ⟨rfl, hb2⟩
  have hb1 := HB1.out
  have hz2 := hb2.size
  simp at hz2
  have c0 : ∀ o, (w2.alloc o).cell? ⟨w1.heap.size, 0, none⟩ = some (.bool K) := fun o => by rw [World.cell?_alloc_past _ _ _ (by show w1.heap.size < _; omega), hb2.cell (p := ⟨w1.heap.size, 0, none⟩) (by simp)]; exact cell_new rfl rfl
  have c1 : ∀ o, (w2.alloc o).cell? ⟨w1.heap.size, 1, none⟩ = some (.int .i64 t) := fun o => by rw [World.cell?_alloc_past _ _ _ (by show w1.heap.size < _; omega), hb2.cell (p := ⟨w1.heap.size, 1, none⟩) (by simp)]; exact cell_new rfl rfl
  have c2 : ∀ o, (w2.alloc o).cell? ⟨w1.heap.size, 2, none⟩ = some (.int .u64 v) := fun o => by rw [World.cell?_alloc_past _ _ _ (by show w1.heap.size < _; omega), hb2.cell (p := ⟨w1.heap.size, 2, none⟩) (by simp)]; exact cell_new rfl rfl
  have hne : ¬ w1.heap.size = w2.heap.size := by omega
  have HB : Hid (Below w.heap.size w w2) := hb1.trans (Below.trans ((Below.refl _ _).alloc (Nat.le_refl _) _) (hb2.mono (by simp))|>.mono hz1)
  clear hb1 hb2 HI HS HT HB1
  go_wp2_with fail
  refine (eqRes_any K t v _).mono ?_
  rintro e w3 ⟨rfl, hb3⟩
  have HB3 := Hid.mk' hb3
  clear hb3
  go_wp2
  go_ret
  exact ⟨rfl, (HB.out.trans (Below.trans ((Below.refl _ _).alloc (Nat.le_refl _) _) (HB3.out.mono (by simp))|>.mono (by omega)))⟩
end Go.Proofs.YthmppcfhbbjhlaaDoor
