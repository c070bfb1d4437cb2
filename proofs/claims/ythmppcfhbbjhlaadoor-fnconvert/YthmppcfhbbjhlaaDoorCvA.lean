import Derived.Test.YthmppcfhbbjhlaaDoorCvM
import Derived.Test.YthmppcfhbbjhlaaDoorIfw
set_option linter.all false
namespace Go.Proofs.YthmppcfhbbjhlaaDoor
open Go.RowKit Go.Sort
/-- The program's Convert answers so. -/
def IC (op : Int) (a : Nat) (t v : Int) : Prop := ∀ w, Tab0 w → 0 < w.heap.size → Calls Tryd.prog 13 #[.int .i64 op, .int .u64 (a : Int)] w fun e w' => e = .returned (RV true t v) ∧ Below w.heap.size w w'
def SC (op : Int) (a : Nat) (t v : Int) : Prop := ∀ w, Calls Tryd.prog 12 #[.int .i64 op, .int .u64 (a : Int)] w fun e w' => e = .returned (RV true t v) ∧ Below w.heap.size w w'

theorem ic_170 (a : Nat) (ha : a < 18446744073709551616) (m : Nat) (g : Bool) (hm : m = a % 18446744073709551616 % 9223372036854775808) (hg : g = decide (9223372036854775808 ≤ a % 18446744073709551616)) (hk : kd_w m = 0) :
    IC 170 a (ti_32 true g (wh 3 g (mt_w m) (ex_w m))).1 (ti_32 true g (wh 3 g (mt_w m) (ex_w m))).2 ∧ SC 170 a (ti_32 true g (wh 3 g (mt_w m) (ex_w m))).1 (ti_32 true g (wh 3 g (mt_w m) (ex_w m))).2 := by
  have hml : m < 9223372036854775808 := by omega
  have RI := fun w => iread_w a w ha m g hm hg
  have RS := fun w => sread_w a w ha m g hm hg
  have hx := ex_w_b m hml
  have hs := mt_w_b m
  have hz0 := mt_w_z m hk
  clear hm hg hml
  have hnot : ¬ 9218868437227405312 < m := by intro h; unfold kd_w at hk; rw [if_pos h] at hk; omega
  rw [hk, if_neg hnot] at RI
  rw [hk] at RS
  generalize ex_w m = x at *
  generalize mt_w m = s at *
  obtain ⟨val, fits, KI, hv⟩ := iint_32 true g s x (by omega) hx.1 hx.2 hz0
  refine ⟨fun w hT hz => ?_, fun w => ?_⟩
  · refine iconv_170 a _ _ w hT hz (fun w hT hz => ?_)
    have h := toInt_2_32_k 0 (by decide) val fits a g x _ _ w hT hz RI KI
    rw [hv] at h
    exact h
  · exact sconv_170 a 0 g x s _ _ w RS (fun v w hS => strunc_32 true g v s x w (bl60 (by omega)) hx.1 hx.2 hS)
theorem bad_170 (a : Nat) (ha : a < 18446744073709551616) (m : Nat) (g : Bool) (hm : m = a % 18446744073709551616 % 9223372036854775808) (hg : g = decide (9223372036854775808 ≤ a % 18446744073709551616)) (hk : kd_w m ≠ 0) :
    ∃ t, t ≠ 0 ∧ IC 170 a t 0 ∧ SC 170 a t 0 := by
  have hml : m < 9223372036854775808 := by omega
  have RI := fun w => iread_w a w ha m g hm hg
  have RS := fun w => sread_w a w ha m g hm hg
  clear hm hg hml
  rcases kd_w_k m with h | hk | hk
  · exact absurd h hk
  · have hnot : ¬ 9218868437227405312 < m := by intro h; unfold kd_w at hk; rw [if_pos h] at hk; omega
    rw [hk, if_neg hnot] at RI
    rw [hk] at RS
    generalize ex_w m = x at *
    generalize mt_w m = s at *
    refine ⟨3, by decide, fun w hT hz => ?_, fun w => ?_⟩
    · refine iconv_170 a _ _ w hT hz (fun w hT hz => ?_)
      exact toInt_2_32_k 1 (by decide) 0 false a g x _ _ w hT hz RI (fun w => integer_k 1 g true x _ _ 32 w (by decide))
    · exact sconv_170 a 1 g x s _ _ w RS (fun v w _ => trunc_1 g true x 32 v w)
  · have hyes : 9218868437227405312 < m := by
      unfold kd_w at hk
      split at hk
      · assumption
      · split at hk <;> omega
    rw [hk, if_pos hyes] at RI
    rw [hk] at RS
    generalize ex_w m = x at *
    generalize mt_w m = s at *
    refine ⟨4, by decide, fun w hT hz => ?_, fun w => ?_⟩
    · refine iconv_170 a _ _ w hT hz (fun w hT hz => ?_)
      exact toInt_2_32_2 a false x _ _ w hT hz RI
    · exact sconv_170 a 2 g x s _ _ w RS (fun v w _ => trunc_2 g true x 32 v w)

theorem ic_171 (a : Nat) (ha : a < 18446744073709551616) (m : Nat) (g : Bool) (hm : m = a % 18446744073709551616 % 9223372036854775808) (hg : g = decide (9223372036854775808 ≤ a % 18446744073709551616)) (hk : kd_w m = 0) :
    IC 171 a (ti_32 false g (wh 3 g (mt_w m) (ex_w m))).1 (ti_32 false g (wh 3 g (mt_w m) (ex_w m))).2 ∧ SC 171 a (ti_32 false g (wh 3 g (mt_w m) (ex_w m))).1 (ti_32 false g (wh 3 g (mt_w m) (ex_w m))).2 := by
  have hml : m < 9223372036854775808 := by omega
  have RI := fun w => iread_w a w ha m g hm hg
  have RS := fun w => sread_w a w ha m g hm hg
  have hx := ex_w_b m hml
  have hs := mt_w_b m
  have hz0 := mt_w_z m hk
  clear hm hg hml
  have hnot : ¬ 9218868437227405312 < m := by intro h; unfold kd_w at hk; rw [if_pos h] at hk; omega
  rw [hk, if_neg hnot] at RI
  rw [hk] at RS
  generalize ex_w m = x at *
  generalize mt_w m = s at *
  obtain ⟨val, fits, KI, hv⟩ := iint_32 false g s x (by omega) hx.1 hx.2 hz0
  refine ⟨fun w hT hz => ?_, fun w => ?_⟩
  · refine iconv_171 a _ _ w hT hz (fun w hT hz => ?_)
    have h := toInt_3_32_k 0 (by decide) val fits a g x _ _ w hT hz RI KI
    rw [hv] at h
    exact h
  · exact sconv_171 a 0 g x s _ _ w RS (fun v w hS => strunc_32 false g v s x w (bl60 (by omega)) hx.1 hx.2 hS)
theorem bad_171 (a : Nat) (ha : a < 18446744073709551616) (m : Nat) (g : Bool) (hm : m = a % 18446744073709551616 % 9223372036854775808) (hg : g = decide (9223372036854775808 ≤ a % 18446744073709551616)) (hk : kd_w m ≠ 0) :
    ∃ t, t ≠ 0 ∧ IC 171 a t 0 ∧ SC 171 a t 0 := by
  have hml : m < 9223372036854775808 := by omega
  have RI := fun w => iread_w a w ha m g hm hg
  have RS := fun w => sread_w a w ha m g hm hg
  clear hm hg hml
  rcases kd_w_k m with h | hk | hk
  · exact absurd h hk
  · have hnot : ¬ 9218868437227405312 < m := by intro h; unfold kd_w at hk; rw [if_pos h] at hk; omega
    rw [hk, if_neg hnot] at RI
    rw [hk] at RS
    generalize ex_w m = x at *
    generalize mt_w m = s at *
    refine ⟨3, by decide, fun w hT hz => ?_, fun w => ?_⟩
    · refine iconv_171 a _ _ w hT hz (fun w hT hz => ?_)
      exact toInt_3_32_k 1 (by decide) 0 false a g x _ _ w hT hz RI (fun w => integer_k 1 g false x _ _ 32 w (by decide))
    · exact sconv_171 a 1 g x s _ _ w RS (fun v w _ => trunc_1 g false x 32 v w)
  · have hyes : 9218868437227405312 < m := by
      unfold kd_w at hk
      split at hk
      · assumption
      · split at hk <;> omega
    rw [hk, if_pos hyes] at RI
    rw [hk] at RS
    generalize ex_w m = x at *
    generalize mt_w m = s at *
    refine ⟨4, by decide, fun w hT hz => ?_, fun w => ?_⟩
    · refine iconv_171 a _ _ w hT hz (fun w hT hz => ?_)
      exact toInt_3_32_2 a false x _ _ w hT hz RI
    · exact sconv_171 a 2 g x s _ _ w RS (fun v w _ => trunc_2 g false x 32 v w)

theorem ic_176 (a : Nat) (ha : a < 18446744073709551616) (m : Nat) (g : Bool) (hm : m = a % 18446744073709551616 % 9223372036854775808) (hg : g = decide (9223372036854775808 ≤ a % 18446744073709551616)) (hk : kd_w m = 0) :
    IC 176 a (ti_64 true g (wh 3 g (mt_w m) (ex_w m))).1 (ti_64 true g (wh 3 g (mt_w m) (ex_w m))).2 ∧ SC 176 a (ti_64 true g (wh 3 g (mt_w m) (ex_w m))).1 (ti_64 true g (wh 3 g (mt_w m) (ex_w m))).2 := by
  have hml : m < 9223372036854775808 := by omega
  have RI := fun w => iread_w a w ha m g hm hg
  have RS := fun w => sread_w a w ha m g hm hg
  have hx := ex_w_b m hml
  have hs := mt_w_b m
  have hz0 := mt_w_z m hk
  clear hm hg hml
  have hnot : ¬ 9218868437227405312 < m := by intro h; unfold kd_w at hk; rw [if_pos h] at hk; omega
  rw [hk, if_neg hnot] at RI
  rw [hk] at RS
  generalize ex_w m = x at *
  generalize mt_w m = s at *
  obtain ⟨val, fits, KI, hv⟩ := iint_64 true g s x (by omega) hx.1 hx.2 hz0
  refine ⟨fun w hT hz => ?_, fun w => ?_⟩
  · refine iconv_176 a _ _ w hT hz (fun w hT hz => ?_)
    have h := toInt_2_64_k 0 (by decide) val fits a g x _ _ w hT hz RI KI
    rw [hv] at h
    exact h
  · exact sconv_176 a 0 g x s _ _ w RS (fun v w hS => strunc_64 true g v s x w (bl60 (by omega)) hx.1 hx.2 hS)
theorem bad_176 (a : Nat) (ha : a < 18446744073709551616) (m : Nat) (g : Bool) (hm : m = a % 18446744073709551616 % 9223372036854775808) (hg : g = decide (9223372036854775808 ≤ a % 18446744073709551616)) (hk : kd_w m ≠ 0) :
    ∃ t, t ≠ 0 ∧ IC 176 a t 0 ∧ SC 176 a t 0 := by
  have hml : m < 9223372036854775808 := by omega
  have RI := fun w => iread_w a w ha m g hm hg
  have RS := fun w => sread_w a w ha m g hm hg
  clear hm hg hml
  rcases kd_w_k m with h | hk | hk
  · exact absurd h hk
  · have hnot : ¬ 9218868437227405312 < m := by intro h; unfold kd_w at hk; rw [if_pos h] at hk; omega
    rw [hk, if_neg hnot] at RI
    rw [hk] at RS
    generalize ex_w m = x at *
    generalize mt_w m = s at *
    refine ⟨3, by decide, fun w hT hz => ?_, fun w => ?_⟩
    · refine iconv_176 a _ _ w hT hz (fun w hT hz => ?_)
      exact toInt_2_64_k 1 (by decide) 0 false a g x _ _ w hT hz RI (fun w => integer_k 1 g true x _ _ 64 w (by decide))
    · exact sconv_176 a 1 g x s _ _ w RS (fun v w _ => trunc_1 g true x 64 v w)
  · have hyes : 9218868437227405312 < m := by
      unfold kd_w at hk
      split at hk
      · assumption
      · split at hk <;> omega
    rw [hk, if_pos hyes] at RI
    rw [hk] at RS
    generalize ex_w m = x at *
    generalize mt_w m = s at *
    refine ⟨4, by decide, fun w hT hz => ?_, fun w => ?_⟩
    · refine iconv_176 a _ _ w hT hz (fun w hT hz => ?_)
      exact toInt_2_64_2 a false x _ _ w hT hz RI
    · exact sconv_176 a 2 g x s _ _ w RS (fun v w _ => trunc_2 g true x 64 v w)

theorem ic_177 (a : Nat) (ha : a < 18446744073709551616) (m : Nat) (g : Bool) (hm : m = a % 18446744073709551616 % 9223372036854775808) (hg : g = decide (9223372036854775808 ≤ a % 18446744073709551616)) (hk : kd_w m = 0) :
    IC 177 a (ti_64 false g (wh 3 g (mt_w m) (ex_w m))).1 (ti_64 false g (wh 3 g (mt_w m) (ex_w m))).2 ∧ SC 177 a (ti_64 false g (wh 3 g (mt_w m) (ex_w m))).1 (ti_64 false g (wh 3 g (mt_w m) (ex_w m))).2 := by
  have hml : m < 9223372036854775808 := by omega
  have RI := fun w => iread_w a w ha m g hm hg
  have RS := fun w => sread_w a w ha m g hm hg
  have hx := ex_w_b m hml
  have hs := mt_w_b m
  have hz0 := mt_w_z m hk
  clear hm hg hml
  have hnot : ¬ 9218868437227405312 < m := by intro h; unfold kd_w at hk; rw [if_pos h] at hk; omega
  rw [hk, if_neg hnot] at RI
  rw [hk] at RS
  generalize ex_w m = x at *
  generalize mt_w m = s at *
  obtain ⟨val, fits, KI, hv⟩ := iint_64 false g s x (by omega) hx.1 hx.2 hz0
  refine ⟨fun w hT hz => ?_, fun w => ?_⟩
  · refine iconv_177 a _ _ w hT hz (fun w hT hz => ?_)
    have h := toInt_3_64_k 0 (by decide) val fits a g x _ _ w hT hz RI KI
    rw [hv] at h
    exact h
  · exact sconv_177 a 0 g x s _ _ w RS (fun v w hS => strunc_64 false g v s x w (bl60 (by omega)) hx.1 hx.2 hS)
theorem bad_177 (a : Nat) (ha : a < 18446744073709551616) (m : Nat) (g : Bool) (hm : m = a % 18446744073709551616 % 9223372036854775808) (hg : g = decide (9223372036854775808 ≤ a % 18446744073709551616)) (hk : kd_w m ≠ 0) :
    ∃ t, t ≠ 0 ∧ IC 177 a t 0 ∧ SC 177 a t 0 := by
  have hml : m < 9223372036854775808 := by omega
  have RI := fun w => iread_w a w ha m g hm hg
  have RS := fun w => sread_w a w ha m g hm hg
  clear hm hg hml
  rcases kd_w_k m with h | hk | hk
  · exact absurd h hk
  · have hnot : ¬ 9218868437227405312 < m := by intro h; unfold kd_w at hk; rw [if_pos h] at hk; omega
    rw [hk, if_neg hnot] at RI
    rw [hk] at RS
    generalize ex_w m = x at *
    generalize mt_w m = s at *
    refine ⟨3, by decide, fun w hT hz => ?_, fun w => ?_⟩
    · refine iconv_177 a _ _ w hT hz (fun w hT hz => ?_)
      exact toInt_3_64_k 1 (by decide) 0 false a g x _ _ w hT hz RI (fun w => integer_k 1 g false x _ _ 64 w (by decide))
    · exact sconv_177 a 1 g x s _ _ w RS (fun v w _ => trunc_1 g false x 64 v w)
  · have hyes : 9218868437227405312 < m := by
      unfold kd_w at hk
      split at hk
      · assumption
      · split at hk <;> omega
    rw [hk, if_pos hyes] at RI
    rw [hk] at RS
    generalize ex_w m = x at *
    generalize mt_w m = s at *
    refine ⟨4, by decide, fun w hT hz => ?_, fun w => ?_⟩
    · refine iconv_177 a _ _ w hT hz (fun w hT hz => ?_)
      exact toInt_3_64_2 a false x _ _ w hT hz RI
    · exact sconv_177 a 2 g x s _ _ w RS (fun v w _ => trunc_2 g false x 64 v w)

theorem ic_183t (x s : Nat) (hx : x < 4294967296) (hn : 2147483648 ≤ x) (hs : s = 4294967296 - x) : IC 183 x 0 (wr_w 0 true s 0) := by
  intro w hT hz
  have hO := fun w => ofInt_0t (x : Int) _ w (by omega) (by omega) rfl (wrap64 (IntKind.u64.wrap (wrap32 (x : Int)))) rfl (by rw [IntKind.wrap_u64]; unfold wrap64; unfold wrap32; omega)
  have e : NV 0 true 0 (IntKind.u64.wrap (-(IntKind.u64.wrap (wrap32 (x : Int))))) 0 = N2 0 true 0 s := by
    rw [N2, Nat.mod_eq_of_lt (show s < 18446744073709551616 by omega), Nat.div_eq_of_lt (show s < 18446744073709551616 by omega), show IntKind.u64.wrap (-(IntKind.u64.wrap (wrap32 (x : Int)))) = (s : Int) by rw [IntKind.wrap_u64, IntKind.wrap_u64]; unfold wrap32; omega]; rfl
  rw [e] at hO
  exact iconv_183 x true 0 _ _ _ w hT hz hO (fun w => write_w 0 true 0 s w (.inl rfl) (by omega) (by omega) (by omega))
theorem ic_183f (x : Nat) (hn : ¬ 2147483648 ≤ x) : IC 183 x 0 (wr_w 0 false x 0) := by
  intro w hT hz
  have hO := fun w => ofInt_0f (x : Int) _ w (by omega) (by omega) rfl (wrap64 (IntKind.u64.wrap (wrap32 (x : Int)))) rfl (by rw [IntKind.wrap_u64]; unfold wrap64; unfold wrap32; omega)
  have e : NV 0 false 0 (IntKind.u64.wrap (wrap32 (x : Int))) 0 = N2 0 false 0 x := by
    rw [N2, Nat.mod_eq_of_lt (show x < 18446744073709551616 by omega), Nat.div_eq_of_lt (show x < 18446744073709551616 by omega), show IntKind.u64.wrap (wrap32 (x : Int)) = (x : Int) by rw [IntKind.wrap_u64]; unfold wrap32; omega]; rfl
  rw [e] at hO
  exact iconv_183 x false 0 _ _ _ w hT hz hO (fun w => write_w 0 false 0 x w (.inl rfl) (by omega) (by omega) (by omega))
theorem ti_st (x s : Nat) (hx : x < 4294967296) (hn : 2147483648 ≤ x) (hs : s = 4294967296 - x) : ti_32 true true s = (0, (x : Int)) := by
  unfold ti_32; rw [if_pos rfl, if_pos rfl, if_neg (by omega)]; congr 1; omega
theorem ti_sf (x : Nat) (hn : ¬ 2147483648 ≤ x) : ti_32 true false x = (0, (x : Int)) := by
  unfold ti_32; rw [if_pos rfl, if_neg (by decide), if_neg (by omega)]
theorem ti_uf (x : Nat) (hn : x < 4294967296) : ti_32 false false x = (0, (x : Int)) := by
  unfold ti_32; rw [if_neg (by decide), if_neg (by decide), if_neg (by omega)]
theorem wr_w_0 (g : Bool) (s : Nat) : wr_w 0 g s 0 = sg_w g + ((rnd 53 11 (-1074) s 0 false : Nat) : Int) := rfl
theorem back_s (x : Nat) (hx : x < 4294967296) : ∃ a : Nat, IC 183 x 0 a ∧ IC 170 a 0 x := by
  by_cases hn : 2147483648 ≤ x
  · obtain ⟨s, hs⟩ : ∃ s, s = 4294967296 - x := ⟨_, rfl⟩
    have I1 := ic_183t x s hx hn hs
    have hti := ti_st x s hx hn hs
    obtain ⟨r1, r2, r3⟩ := wh_rnd true s (by omega)
    obtain ⟨a, e1, e2, e3, e4⟩ := word_w true (rnd 53 11 (-1074) s 0 false) (by omega)
    rw [wr_w_0, e1] at I1
    have h := (ic_170 a e2 _ true e3.symm e4.symm r1).1
    rw [r2, hti] at h
    exact ⟨a, I1, h⟩
  · have I1 := ic_183f x hn
    have hti := ti_sf x hn
    obtain ⟨r1, r2, r3⟩ := wh_rnd false x (by omega)
    obtain ⟨a, e1, e2, e3, e4⟩ := word_w false (rnd 53 11 (-1074) x 0 false) (by omega)
    rw [wr_w_0, e1] at I1
    have h := (ic_170 a e2 _ false e3.symm e4.symm r1).1
    rw [r2, hti] at h
    exact ⟨a, I1, h⟩
theorem ic_184 (x : Nat) (hx : x < 4294967296) : IC 184 x 0 (wr_w 0 false x 0) := by
  intro w hT hz
  have hO := fun w => ofInt_1f (x : Int) ((x : Int) % 4294967296) w (by omega) (by omega) rfl
  have e : NV 0 false 0 ((x : Int) % 4294967296) 0 = N2 0 false 0 x := by
    rw [N2, Nat.mod_eq_of_lt (by omega), Nat.div_eq_of_lt (by omega), show (x : Int) % 4294967296 = (x : Int) by omega]; rfl
  rw [e] at hO
  exact iconv_184 x false 0 _ _ _ w hT hz hO (fun w => write_w 0 false 0 x w (.inl rfl) (by omega) (by omega) (by omega))
theorem back_u (x : Nat) (hx : x < 4294967296) : ∃ a : Nat, IC 184 x 0 a ∧ IC 171 a 0 x := by
  have I1 := ic_184 x hx
  have hti := ti_uf x hx
  obtain ⟨r1, r2, r3⟩ := wh_rnd false x (by omega)
  obtain ⟨a, e1, e2, e3, e4⟩ := word_w false (rnd 53 11 (-1074) x 0 false) (by omega)
  rw [wr_w_0, e1] at I1
  have h := (ic_171 a e2 _ false e3.symm e4.symm r1).1
  rw [r2, hti] at h
  exact ⟨a, I1, h⟩
theorem ic_182 (a : Nat) (ha : a < 18446744073709551616) (m : Nat) (g : Bool) (hm : m = a % 18446744073709551616 % 9223372036854775808) (hg : g = decide (9223372036854775808 ≤ a % 18446744073709551616)) :
    IC 182 a 0 (wr_n (kd_w m) g (mt_w m) (ex_w m)) := by
  have hml : m < 9223372036854775808 := by omega
  have RI := fun w => iread_w a w ha m g hm hg
  have hx := ex_w_b m hml
  have hs := mt_w_b m
  have hk := kd_w_k m
  have hg2 : ∀ s x, wr_n (kd_w m) (if 9218868437227405312 < m then false else g) s x = wr_n (kd_w m) g s x := by
    intro s x
    by_cases h : 9218868437227405312 < m
    · have e : kd_w m = 2 := by unfold kd_w; rw [if_pos h]
      rw [e]; rfl
    · rw [if_neg h]
  intro w hT hz
  refine iconv_182 a _ _ _ _ _ _ w hT hz RI (fun w => ?_)
  have h := write_n (kd_w m) (if 9218868437227405312 < m then false else g) (ex_w m) (mt_w m) w hk (by omega) (by omega) (by omega)
  rw [hg2] at h
  exact h
theorem ic_187 (a : Nat) (ha : a < 18446744073709551616) (m : Nat) (g : Bool) (hm : m = a % 4294967296 % 2147483648) (hg : g = decide (2147483648 ≤ a % 4294967296)) :
    IC 187 a 0 (wr_w (kd_n m) g (mt_n m) (ex_n m)) ∧ SC 187 a 0 (wr_w (kd_n m) g (mt_n m) (ex_n m)) := by
  have hml : m < 2147483648 := by omega
  have RI := fun w => iread_n a w ha m g hm hg
  have RS := fun w => sread_n a w ha m g hm hg
  have hx := ex_n_b m hml
  have hs := mt_n_b m
  have hk := kd_n_k m
  have hg2 : ∀ s x, wr_w (kd_n m) (if 2139095040 < m then false else g) s x = wr_w (kd_n m) g s x := by
    intro s x
    by_cases h : 2139095040 < m
    · have e : kd_n m = 2 := by unfold kd_n; rw [if_pos h]
      rw [e]; rfl
    · rw [if_neg h]
  refine ⟨fun w hT hz => ?_, fun w => ?_⟩
  · refine iconv_187 a _ _ _ _ _ _ w hT hz RI (fun w => ?_)
    have h := write_w (kd_n m) (if 2139095040 < m then false else g) (ex_n m) (mt_n m) w hk (by omega) (by omega) (by omega)
    rw [hg2] at h
    exact h
  · exact sconv_187 a _ _ _ _ _ w RS (fun v w hS => swrite_w _ g _ _ v w hk (Nat.le_trans (bl60 (by omega)) (by decide)) (by omega) (by omega) hS)
/-- A narrow float made wide and narrow again. -/
theorem wide_x (x : Nat) (hx : x < 4294967296) : ∃ a : Nat, IC 187 x 0 a ∧ SC 187 x 0 a ∧ ∃ v : Nat, IC 182 a 0 v ∧ (2139095040 < x % 2147483648 → v = 2143289344) ∧ (¬ 2139095040 < x % 2147483648 → v = x) := by
  have hxm : x % 4294967296 = x := by omega
  obtain ⟨m, hm⟩ : ∃ m, m = x % 2147483648 := ⟨_, rfl⟩
  obtain ⟨g, hg⟩ : ∃ g, g = decide (2147483648 ≤ x) := ⟨_, rfl⟩
  obtain ⟨I1, S1⟩ := ic_187 x (by omega) m g (by rw [hxm]; exact hm) (by rw [hxm]; exact hg)
  have hw := word_n x hx
  rw [← hm, ← hg] at hw
  have fin : ∀ (M : Nat) (V : Int), M < 9223372036854775808 → wr_w (kd_n m) g (mt_n m) (ex_n m) = sg_w g + (M : Int) → (kd_w M = kd_n m) → wr_n (kd_w M) g (mt_w M) (ex_w M) = V → ∀ v : Nat, V = v → (2139095040 < m → v = 2143289344) → (¬ 2139095040 < m → v = x) → ∃ a : Nat, IC 187 x 0 a ∧ SC 187 x 0 a ∧ ∃ v : Nat, IC 182 a 0 v ∧ (2139095040 < m → v = 2143289344) ∧ (¬ 2139095040 < m → v = x) := by
    intro M V hM h1 h2 h3 v hv n1 n2
    obtain ⟨a, e1, e2, e3, e4⟩ := word_w g M hM
    rw [h1, e1] at I1 S1
    have I2 := ic_182 a e2 _ g e3.symm e4.symm
    rw [h3, hv] at I2
    exact ⟨a, I1, S1, v, I2, n1, n2⟩
  rw [← hm]
  by_cases hnan : 2139095040 < m
  · have hk : kd_n m = 2 := by unfold kd_n; rw [if_pos hnan]
    obtain ⟨a, e1, e2, e3, e4⟩ := word_w false 9221120237041090560 (by decide)
    have hw2 : wr_w (kd_n m) g (mt_n m) (ex_n m) = a := by rw [hk, ← e1]; rfl
    rw [hw2] at I1 S1
    have I2 := ic_182 a e2 _ false e3.symm e4.symm
    rw [show kd_w 9221120237041090560 = 2 by unfold kd_w; rw [if_pos (by omega)]] at I2
    have e2 : ∀ s x, wr_n 2 false s x = ((2143289344 : Nat) : Int) := fun s x => rfl
    rw [e2] at I2
    exact ⟨a, I1, S1, 2143289344, I2, fun _ => rfl, fun h => absurd hnan h⟩
  · by_cases hinf : m = 2139095040
    · have hk : kd_n m = 1 := by unfold kd_n; rw [if_neg hnan, if_pos hinf]
      refine fin 9218868437227405312 _ (by decide) (by rw [hk]; rfl) (by rw [hk]; decide) rfl x ?_ (fun h => absurd h hnan) (fun _ => rfl)
      rw [show kd_w 9218868437227405312 = 1 by decide]
      unfold wr_n
      rw [if_neg (by decide), if_pos rfl, ← hw, hinf]
      rfl
    · have hk : kd_n m = 0 := by unfold kd_n; rw [if_neg hnan, if_neg hinf]
      by_cases h0 : m = 0
      · refine fin 0 _ (by decide) (by rw [hk, h0]; unfold wr_w; rw [if_neg (by decide), if_neg (by decide), show mt_n 0 = 0 by decide, rnd_z]) (by rw [hk]; decide) rfl x ?_ (fun h => absurd h hnan) (fun _ => rfl)
        rw [show kd_w 0 = 0 by decide, show mt_w 0 = 0 by decide]
        unfold wr_n
        rw [if_neg (by decide), if_neg (by decide), rnd_z, ← hw, h0]
      · have hs0 : mt_n m ≠ 0 := by unfold mt_n; rw [if_neg (by omega)]; split <;> omega
        have hs := mt_n_b m
        have hx1 : -149 ≤ ex_n m ∧ ex_n m ≤ 150 := by
          unfold ex_n; rw [if_neg (by omega)]; split <;> omega
        obtain ⟨r1, r2, r3, r4⟩ := read_rnd_w (mt_n m) (ex_n m) hs0 (by omega) (by omega) (by omega)
        refine fin (rnd 53 11 (-1074) (mt_n m) (ex_n m) false) _ (by omega) (by rw [hk]; unfold wr_w; rw [if_neg (by decide), if_neg (by decide)]) (by rw [r1, hk]) rfl x ?_ (fun h => absurd h hnan) (fun _ => rfl)
        rw [r1, r2, r3]
        unfold wr_n
        have hb := bl_24 hs
        rw [if_neg (by decide), if_neg (by decide), rnd_narrow m (53 - bl (mt_n m)) h0 (by omega) (by omega)]
        exact hw
theorem ic_188 (x : Nat) (hx : x < 4294967296) : IC 188 x 0 x := by
  intro w hT hz
  refine iconv_188 x _ w hT hz (fun w => ?_)
  have h := low_n (x : Int) w
  rw [low_n_m x (by omega), show x % 4294967296 = x by omega] at h
  exact h
theorem ic_190 (x : Nat) (hx : x < 4294967296) : IC 190 x 0 x := by
  intro w hT hz
  refine iconv_190 x _ w hT hz (fun w => ?_)
  have h := low_n (x : Int) w
  rw [low_n_m x (by omega), show x % 4294967296 = x by omega] at h
  exact h
/-- The truncated float of one that is finite. -/
theorem f1_157 (a : Nat) (ha : a < 18446744073709551616) (m : Nat) (g : Bool) (hm : m = a % 18446744073709551616 % 9223372036854775808) (hg : g = decide (9223372036854775808 ≤ a % 18446744073709551616)) (hk : kd_w m = 0) :
    ∃ c M : Nat, (∀ w, Tab0 w → 0 < w.heap.size → Calls Tryd.prog 10 #[.int .i64 157, .int .u64 (a : Int)] w fun e w' => e = .returned (RV true 0 (c : Int)) ∧ Below w.heap.size w w') ∧ c < 18446744073709551616 ∧ M = c % 18446744073709551616 % 9223372036854775808 ∧ g = decide (9223372036854775808 ≤ c % 18446744073709551616) ∧ kd_w M = 0 ∧ wh 3 g (mt_w M) (ex_w M) = wh 3 g (mt_w m) (ex_w m) := by
  have hml : m < 9223372036854775808 := by omega
  have RI := fun w => iread_w a w ha m g hm hg
  have hx := ex_w_b m hml
  have hs := mt_w_b m
  have hnot : ¬ 9218868437227405312 < m := by intro h; unfold kd_w at hk; rw [if_pos h] at hk; omega
  have hlt : m < 9218868437227405312 := by
    unfold kd_w at hk
    rw [if_neg hnot] at hk
    split at hk
    · omega
    · omega
  rw [hk, if_neg hnot] at RI
  have KF : ∀ w, Tab0 w → 0 < w.heap.size → Hid (Calls Tryd.prog 32 #[.int .i64 157] w fun e w' => e = .returned (.tuple #[.int .i64 143, FVw]) ∧ Below w.heap.size w w') := fun w hT hz => fold_wide 157 w (by omega) (by omega) hT hz
  have KX := fun w => iwhole_any g (ex_w m) 3 (mt_w m) w (by omega) (by omega) (by omega) (by omega) (by omega)
  by_cases h : 0 ≤ ex_w m
  · simp only [if_pos h] at KX
    have hm0 : m ≠ 0 := by intro e; rw [e] at h; exact absurd h (by decide)
    refine ⟨a, m, fun w hT hz => ?_, ha, hm, hg, hk, rfl⟩
    refine if1_w_143 157 a _ _ _ _ _ w hT hz KF RI _ _ _ _ _ _ KX (fun w => ?_)
    have h := write_w 0 g (ex_w m) (mt_w m) w (.inl rfl) (by omega) (by omega) (by omega)
    have e : wr_w 0 g (mt_w m) (ex_w m) = (a : Int) := by
      unfold wr_w
      rw [if_neg (by decide), if_neg (by decide), rnd_wide m hm0 hlt]
      obtain ⟨a', e1, e2, e3, e4⟩ := word_w g m hml
      rw [e1]
      rw [hg] at e4
      have h4 : (9223372036854775808 ≤ a' % 18446744073709551616) ↔ (9223372036854775808 ≤ a % 18446744073709551616) := by
        simpa using e4
      omega
    rw [e] at h
    exact h
  · simp only [if_neg h] at KX
    have hN : wh 3 g (mt_w m) (ex_w m) < 9007199254740992 := by
      rw [wh3_neg h]; exact Nat.lt_of_le_of_lt (Nat.div_le_self _ _) hs
    generalize wh 3 g (mt_w m) (ex_w m) = N' at *
    obtain ⟨r1, r2, r3⟩ := wh_rnd g N' hN
    obtain ⟨c, e1, e2, e3, e4⟩ := word_w g (rnd 53 11 (-1074) N' 0 false) (by omega)
    refine ⟨c, _, fun w hT hz => ?_, e2, e3.symm, e4.symm, r1, r2⟩
    refine if1_w_143 157 a _ _ _ _ _ w hT hz KF RI _ _ _ _ _ _ KX (fun w => ?_)
    have h := write_w 0 g 0 N' w (.inl rfl) (by omega) (by omega) (by omega)
    have e : wr_w 0 g N' 0 = (c : Int) := by
      unfold wr_w
      rw [if_neg (by decide), if_neg (by decide), e1]
    rw [e] at h
    exact h

theorem cut_176 (a : Nat) (ha : a < 18446744073709551616) : ∃ t v : Int, IC 176 a t v ∧ SC 176 a t v ∧ (t = 0 → ∃ c : Nat, (∀ w, Tab0 w → 0 < w.heap.size → Calls Tryd.prog 10 #[.int .i64 157, .int .u64 (a : Int)] w fun e w' => e = .returned (RV true 0 (c : Int)) ∧ Below w.heap.size w w') ∧ IC 176 c 0 v) := by
  obtain ⟨m, hm⟩ : ∃ m, m = a % 18446744073709551616 % 9223372036854775808 := ⟨_, rfl⟩
  obtain ⟨g, hg⟩ : ∃ g, g = decide (9223372036854775808 ≤ a % 18446744073709551616) := ⟨_, rfl⟩
  by_cases hk : kd_w m = 0
  · obtain ⟨I1, S1⟩ := ic_176 a ha m g hm hg hk
    obtain ⟨c, M, F, c1, c2, c3, c4, c5⟩ := f1_157 a ha m g hm hg hk
    refine ⟨_, _, I1, S1, fun h0 => ⟨c, F, ?_⟩⟩
    have I2 := (ic_176 c c1 M g c2 c3 c4).1
    rw [c5, h0] at I2
    exact I2
  · obtain ⟨t, h0, I1, S1⟩ := bad_176 a ha m g hm hg hk
    exact ⟨t, 0, I1, S1, fun h => absurd h h0⟩

theorem cut_177 (a : Nat) (ha : a < 18446744073709551616) : ∃ t v : Int, IC 177 a t v ∧ SC 177 a t v ∧ (t = 0 → ∃ c : Nat, (∀ w, Tab0 w → 0 < w.heap.size → Calls Tryd.prog 10 #[.int .i64 157, .int .u64 (a : Int)] w fun e w' => e = .returned (RV true 0 (c : Int)) ∧ Below w.heap.size w w') ∧ IC 177 c 0 v) := by
  obtain ⟨m, hm⟩ : ∃ m, m = a % 18446744073709551616 % 9223372036854775808 := ⟨_, rfl⟩
  obtain ⟨g, hg⟩ : ∃ g, g = decide (9223372036854775808 ≤ a % 18446744073709551616) := ⟨_, rfl⟩
  by_cases hk : kd_w m = 0
  · obtain ⟨I1, S1⟩ := ic_177 a ha m g hm hg hk
    obtain ⟨c, M, F, c1, c2, c3, c4, c5⟩ := f1_157 a ha m g hm hg hk
    refine ⟨_, _, I1, S1, fun h0 => ⟨c, F, ?_⟩⟩
    have I2 := (ic_177 c c1 M g c2 c3 c4).1
    rw [c5, h0] at I2
    exact I2
  · obtain ⟨t, h0, I1, S1⟩ := bad_177 a ha m g hm hg hk
    exact ⟨t, 0, I1, S1, fun h => absurd h h0⟩
end Go.Proofs.YthmppcfhbbjhlaaDoor
