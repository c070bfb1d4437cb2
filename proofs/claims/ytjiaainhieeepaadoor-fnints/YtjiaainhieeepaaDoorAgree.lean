import Derived.Test.YtjiaainhieeepaaDoorInt2
set_option linter.unusedVariables false
namespace Go.Proofs.YtjiaainhieeepaaDoor
open Go.RowKit
/-- Both functions answer alike. -/
def Agree2 (op a b : Int) (K : Bool) (t v : Int) : Prop :=
  (∀ w, Calls Tryd.prog 9 #[.int .i64 op, .int .u64 a, .int .u64 b] w fun e w' => e = .returned (RV K t v) ∧ Below w.heap.size w w') ∧
  (∀ w, Calls Tryd.prog 10 #[.int .i64 op, .int .u64 a, .int .u64 b] w fun e w' => e = .returned (RV K t v) ∧ Below w.heap.size w w')
theorem ag_c32_0 (a b : Int) (ha0 : 0 ≤ a) (ha : a ≤ 18446744073709551615) (hb0 : 0 ≤ b) (hb : b ≤ 18446744073709551615) : Agree2 70 a b true 0 (fl (cmpB false 0 (a % 4294967296) (b % 4294967296))) :=
  ⟨fun w => i2_narrow 70 70 a b _ _ _ w ha0 ha hb0 hb (fun w => fold_d 70 w (by decide) (by decide) (by decide) (by decide) (by decide)) (fun w => c32_0 _ _ w),
   fun w => s2_c32 70 a b _ _ _ w ha0 ha hb0 hb (by decide) (by decide) (fun w => scmp32_0 _ _ w (by omega) (by omega) (by omega) (by omega))⟩
theorem ag_c64_0 (a b : Int) (ha0 : 0 ≤ a) (ha : a ≤ 18446744073709551615) (hb0 : 0 ≤ b) (hb : b ≤ 18446744073709551615) : Agree2 81 a b true 0 (fl (cmpB true 0 a b)) :=
  ⟨fun w => i2_wide 81 70 a b _ _ _ w ha0 ha hb0 hb (fun w => fold_a 81 w (by decide) (by decide) (by decide) (by decide)) (fun w => c64_0 _ _ w),
   fun w => s2_c64 81 a b _ _ _ w ha0 ha hb0 hb (by decide) (by decide) (fun w => scmp64_0 _ _ w (by omega) (by omega) (by omega) (by omega))⟩
theorem ag_c32_1 (a b : Int) (ha0 : 0 ≤ a) (ha : a ≤ 18446744073709551615) (hb0 : 0 ≤ b) (hb : b ≤ 18446744073709551615) : Agree2 71 a b true 0 (fl (cmpB false 1 (a % 4294967296) (b % 4294967296))) :=
  ⟨fun w => i2_narrow 71 71 a b _ _ _ w ha0 ha hb0 hb (fun w => fold_d 71 w (by decide) (by decide) (by decide) (by decide) (by decide)) (fun w => c32_1 _ _ w),
   fun w => s2_c32 71 a b _ _ _ w ha0 ha hb0 hb (by decide) (by decide) (fun w => scmp32_1 _ _ w (by omega) (by omega) (by omega) (by omega))⟩
theorem ag_c64_1 (a b : Int) (ha0 : 0 ≤ a) (ha : a ≤ 18446744073709551615) (hb0 : 0 ≤ b) (hb : b ≤ 18446744073709551615) : Agree2 82 a b true 0 (fl (cmpB true 1 a b)) :=
  ⟨fun w => i2_wide 82 71 a b _ _ _ w ha0 ha hb0 hb (fun w => fold_a 82 w (by decide) (by decide) (by decide) (by decide)) (fun w => c64_1 _ _ w),
   fun w => s2_c64 82 a b _ _ _ w ha0 ha hb0 hb (by decide) (by decide) (fun w => scmp64_1 _ _ w (by omega) (by omega) (by omega) (by omega))⟩
theorem ag_c32_2 (a b : Int) (ha0 : 0 ≤ a) (ha : a ≤ 18446744073709551615) (hb0 : 0 ≤ b) (hb : b ≤ 18446744073709551615) : Agree2 72 a b true 0 (fl (cmpB false 2 (a % 4294967296) (b % 4294967296))) :=
  ⟨fun w => i2_narrow 72 72 a b _ _ _ w ha0 ha hb0 hb (fun w => fold_d 72 w (by decide) (by decide) (by decide) (by decide) (by decide)) (fun w => c32_2 _ _ w),
   fun w => s2_c32 72 a b _ _ _ w ha0 ha hb0 hb (by decide) (by decide) (fun w => scmp32_2 _ _ w (by omega) (by omega) (by omega) (by omega))⟩
theorem ag_c64_2 (a b : Int) (ha0 : 0 ≤ a) (ha : a ≤ 18446744073709551615) (hb0 : 0 ≤ b) (hb : b ≤ 18446744073709551615) : Agree2 83 a b true 0 (fl (cmpB true 2 a b)) :=
  ⟨fun w => i2_wide 83 72 a b _ _ _ w ha0 ha hb0 hb (fun w => fold_a 83 w (by decide) (by decide) (by decide) (by decide)) (fun w => c64_2 _ _ w),
   fun w => s2_c64 83 a b _ _ _ w ha0 ha hb0 hb (by decide) (by decide) (fun w => scmp64_2 _ _ w (by omega) (by omega) (by omega) (by omega))⟩
theorem ag_c32_3 (a b : Int) (ha0 : 0 ≤ a) (ha : a ≤ 18446744073709551615) (hb0 : 0 ≤ b) (hb : b ≤ 18446744073709551615) : Agree2 73 a b true 0 (fl (cmpB false 3 (a % 4294967296) (b % 4294967296))) :=
  ⟨fun w => i2_narrow 73 73 a b _ _ _ w ha0 ha hb0 hb (fun w => fold_d 73 w (by decide) (by decide) (by decide) (by decide) (by decide)) (fun w => c32_3 _ _ w),
   fun w => s2_c32 73 a b _ _ _ w ha0 ha hb0 hb (by decide) (by decide) (fun w => scmp32_3 _ _ w (by omega) (by omega) (by omega) (by omega))⟩
theorem ag_c64_3 (a b : Int) (ha0 : 0 ≤ a) (ha : a ≤ 18446744073709551615) (hb0 : 0 ≤ b) (hb : b ≤ 18446744073709551615) : Agree2 84 a b true 0 (fl (cmpB true 3 a b)) :=
  ⟨fun w => i2_wide 84 73 a b _ _ _ w ha0 ha hb0 hb (fun w => fold_a 84 w (by decide) (by decide) (by decide) (by decide)) (fun w => c64_3 _ _ w),
   fun w => s2_c64 84 a b _ _ _ w ha0 ha hb0 hb (by decide) (by decide) (fun w => scmp64_3 _ _ w (by omega) (by omega) (by omega) (by omega))⟩
theorem ag_c32_4 (a b : Int) (ha0 : 0 ≤ a) (ha : a ≤ 18446744073709551615) (hb0 : 0 ≤ b) (hb : b ≤ 18446744073709551615) : Agree2 74 a b true 0 (fl (cmpB false 4 (a % 4294967296) (b % 4294967296))) :=
  ⟨fun w => i2_narrow 74 74 a b _ _ _ w ha0 ha hb0 hb (fun w => fold_d 74 w (by decide) (by decide) (by decide) (by decide) (by decide)) (fun w => c32_4 _ _ w),
   fun w => s2_c32 74 a b _ _ _ w ha0 ha hb0 hb (by decide) (by decide) (fun w => scmp32_4 _ _ w (by omega) (by omega) (by omega) (by omega))⟩
theorem ag_c64_4 (a b : Int) (ha0 : 0 ≤ a) (ha : a ≤ 18446744073709551615) (hb0 : 0 ≤ b) (hb : b ≤ 18446744073709551615) : Agree2 85 a b true 0 (fl (cmpB true 4 a b)) :=
  ⟨fun w => i2_wide 85 74 a b _ _ _ w ha0 ha hb0 hb (fun w => fold_a 85 w (by decide) (by decide) (by decide) (by decide)) (fun w => c64_4 _ _ w),
   fun w => s2_c64 85 a b _ _ _ w ha0 ha hb0 hb (by decide) (by decide) (fun w => scmp64_4 _ _ w (by omega) (by omega) (by omega) (by omega))⟩
theorem ag_c32_5 (a b : Int) (ha0 : 0 ≤ a) (ha : a ≤ 18446744073709551615) (hb0 : 0 ≤ b) (hb : b ≤ 18446744073709551615) : Agree2 75 a b true 0 (fl (cmpB false 5 (a % 4294967296) (b % 4294967296))) :=
  ⟨fun w => i2_narrow 75 75 a b _ _ _ w ha0 ha hb0 hb (fun w => fold_d 75 w (by decide) (by decide) (by decide) (by decide) (by decide)) (fun w => c32_5 _ _ w),
   fun w => s2_c32 75 a b _ _ _ w ha0 ha hb0 hb (by decide) (by decide) (fun w => scmp32_5 _ _ w (by omega) (by omega) (by omega) (by omega))⟩
theorem ag_c64_5 (a b : Int) (ha0 : 0 ≤ a) (ha : a ≤ 18446744073709551615) (hb0 : 0 ≤ b) (hb : b ≤ 18446744073709551615) : Agree2 86 a b true 0 (fl (cmpB true 5 a b)) :=
  ⟨fun w => i2_wide 86 75 a b _ _ _ w ha0 ha hb0 hb (fun w => fold_a 86 w (by decide) (by decide) (by decide) (by decide)) (fun w => c64_5 _ _ w),
   fun w => s2_c64 86 a b _ _ _ w ha0 ha hb0 hb (by decide) (by decide) (fun w => scmp64_5 _ _ w (by omega) (by omega) (by omega) (by omega))⟩
theorem ag_c32_6 (a b : Int) (ha0 : 0 ≤ a) (ha : a ≤ 18446744073709551615) (hb0 : 0 ≤ b) (hb : b ≤ 18446744073709551615) : Agree2 76 a b true 0 (fl (cmpB false 6 (a % 4294967296) (b % 4294967296))) :=
  ⟨fun w => i2_narrow 76 76 a b _ _ _ w ha0 ha hb0 hb (fun w => fold_d 76 w (by decide) (by decide) (by decide) (by decide) (by decide)) (fun w => c32_6 _ _ w),
   fun w => s2_c32 76 a b _ _ _ w ha0 ha hb0 hb (by decide) (by decide) (fun w => scmp32_6 _ _ w (by omega) (by omega) (by omega) (by omega))⟩
theorem ag_c64_6 (a b : Int) (ha0 : 0 ≤ a) (ha : a ≤ 18446744073709551615) (hb0 : 0 ≤ b) (hb : b ≤ 18446744073709551615) : Agree2 87 a b true 0 (fl (cmpB true 6 a b)) :=
  ⟨fun w => i2_wide 87 76 a b _ _ _ w ha0 ha hb0 hb (fun w => fold_a 87 w (by decide) (by decide) (by decide) (by decide)) (fun w => c64_6 _ _ w),
   fun w => s2_c64 87 a b _ _ _ w ha0 ha hb0 hb (by decide) (by decide) (fun w => scmp64_6 _ _ w (by omega) (by omega) (by omega) (by omega))⟩
theorem ag_c32_7 (a b : Int) (ha0 : 0 ≤ a) (ha : a ≤ 18446744073709551615) (hb0 : 0 ≤ b) (hb : b ≤ 18446744073709551615) : Agree2 77 a b true 0 (fl (cmpB false 7 (a % 4294967296) (b % 4294967296))) :=
  ⟨fun w => i2_narrow 77 77 a b _ _ _ w ha0 ha hb0 hb (fun w => fold_d 77 w (by decide) (by decide) (by decide) (by decide) (by decide)) (fun w => c32_7 _ _ w),
   fun w => s2_c32 77 a b _ _ _ w ha0 ha hb0 hb (by decide) (by decide) (fun w => scmp32_7 _ _ w (by omega) (by omega) (by omega) (by omega))⟩
theorem ag_c64_7 (a b : Int) (ha0 : 0 ≤ a) (ha : a ≤ 18446744073709551615) (hb0 : 0 ≤ b) (hb : b ≤ 18446744073709551615) : Agree2 88 a b true 0 (fl (cmpB true 7 a b)) :=
  ⟨fun w => i2_wide 88 77 a b _ _ _ w ha0 ha hb0 hb (fun w => fold_a 88 w (by decide) (by decide) (by decide) (by decide)) (fun w => c64_7 _ _ w),
   fun w => s2_c64 88 a b _ _ _ w ha0 ha hb0 hb (by decide) (by decide) (fun w => scmp64_7 _ _ w (by omega) (by omega) (by omega) (by omega))⟩
theorem ag_c32_8 (a b : Int) (ha0 : 0 ≤ a) (ha : a ≤ 18446744073709551615) (hb0 : 0 ≤ b) (hb : b ≤ 18446744073709551615) : Agree2 78 a b true 0 (fl (cmpB false 8 (a % 4294967296) (b % 4294967296))) :=
  ⟨fun w => i2_narrow 78 78 a b _ _ _ w ha0 ha hb0 hb (fun w => fold_d 78 w (by decide) (by decide) (by decide) (by decide) (by decide)) (fun w => c32_8 _ _ w),
   fun w => s2_c32 78 a b _ _ _ w ha0 ha hb0 hb (by decide) (by decide) (fun w => scmp32_8 _ _ w (by omega) (by omega) (by omega) (by omega))⟩
theorem ag_c64_8 (a b : Int) (ha0 : 0 ≤ a) (ha : a ≤ 18446744073709551615) (hb0 : 0 ≤ b) (hb : b ≤ 18446744073709551615) : Agree2 89 a b true 0 (fl (cmpB true 8 a b)) :=
  ⟨fun w => i2_wide 89 78 a b _ _ _ w ha0 ha hb0 hb (fun w => fold_a 89 w (by decide) (by decide) (by decide) (by decide)) (fun w => c64_8 _ _ w),
   fun w => s2_c64 89 a b _ _ _ w ha0 ha hb0 hb (by decide) (by decide) (fun w => scmp64_8 _ _ w (by omega) (by omega) (by omega) (by omega))⟩
theorem ag_c32_9 (a b : Int) (ha0 : 0 ≤ a) (ha : a ≤ 18446744073709551615) (hb0 : 0 ≤ b) (hb : b ≤ 18446744073709551615) : Agree2 79 a b true 0 (fl (cmpB false 9 (a % 4294967296) (b % 4294967296))) :=
  ⟨fun w => i2_narrow 79 79 a b _ _ _ w ha0 ha hb0 hb (fun w => fold_d 79 w (by decide) (by decide) (by decide) (by decide) (by decide)) (fun w => c32_9 _ _ w),
   fun w => s2_c32 79 a b _ _ _ w ha0 ha hb0 hb (by decide) (by decide) (fun w => scmp32_9 _ _ w (by omega) (by omega) (by omega) (by omega))⟩
theorem ag_c64_9 (a b : Int) (ha0 : 0 ≤ a) (ha : a ≤ 18446744073709551615) (hb0 : 0 ≤ b) (hb : b ≤ 18446744073709551615) : Agree2 90 a b true 0 (fl (cmpB true 9 a b)) :=
  ⟨fun w => i2_wide 90 79 a b _ _ _ w ha0 ha hb0 hb (fun w => fold_a 90 w (by decide) (by decide) (by decide) (by decide)) (fun w => c64_9 _ _ w),
   fun w => s2_c64 90 a b _ _ _ w ha0 ha hb0 hb (by decide) (by decide) (fun w => scmp64_9 _ _ w (by omega) (by omega) (by omega) (by omega))⟩
theorem ag_b32_0 (a b : Int) (ha0 : 0 ≤ a) (ha : a ≤ 18446744073709551615) (hb0 : 0 ≤ b) (hb : b ≤ 18446744073709551615) : Agree2 106 a b true (binR false 0 (a % 4294967296) (b % 4294967296)).1 (binR false 0 (a % 4294967296) (b % 4294967296)).2 :=
  ⟨fun w => i2_narrow 106 106 a b _ _ _ w ha0 ha hb0 hb (fun w => fold_d 106 w (by decide) (by decide) (by decide) (by decide) (by decide)) (fun w => d32_0 _ _ w (by omega) (by omega) (by omega) (by omega)),
   fun w => s2_b32 106 a b _ _ _ w ha0 ha hb0 hb (by decide) (by decide) (fun w => sbin32_0 _ _ w (by omega) (by omega) (by omega) (by omega))⟩
theorem ag_b64_0 (a b : Int) (ha0 : 0 ≤ a) (ha : a ≤ 18446744073709551615) (hb0 : 0 ≤ b) (hb : b ≤ 18446744073709551615) : Agree2 124 a b true (binR true 0 a b).1 (binR true 0 a b).2 :=
  ⟨fun w => i2_wide 124 106 a b _ _ _ w ha0 ha hb0 hb (fun w => fold_b 124 w (by decide) (by decide) (by decide) (by decide)) (fun w => d64_0 _ _ w (by omega) (by omega) (by omega) (by omega)),
   fun w => s2_b64 124 a b _ _ _ w ha0 ha hb0 hb (by decide) (by decide) (fun w => sbin64_0 _ _ w (by omega) (by omega) (by omega) (by omega))⟩
theorem ag_b32_1 (a b : Int) (ha0 : 0 ≤ a) (ha : a ≤ 18446744073709551615) (hb0 : 0 ≤ b) (hb : b ≤ 18446744073709551615) : Agree2 107 a b true (binR false 1 (a % 4294967296) (b % 4294967296)).1 (binR false 1 (a % 4294967296) (b % 4294967296)).2 :=
  ⟨fun w => i2_narrow 107 107 a b _ _ _ w ha0 ha hb0 hb (fun w => fold_d 107 w (by decide) (by decide) (by decide) (by decide) (by decide)) (fun w => d32_1 _ _ w (by omega) (by omega) (by omega) (by omega)),
   fun w => s2_b32 107 a b _ _ _ w ha0 ha hb0 hb (by decide) (by decide) (fun w => sbin32_1 _ _ w (by omega) (by omega) (by omega) (by omega))⟩
theorem ag_b64_1 (a b : Int) (ha0 : 0 ≤ a) (ha : a ≤ 18446744073709551615) (hb0 : 0 ≤ b) (hb : b ≤ 18446744073709551615) : Agree2 125 a b true (binR true 1 a b).1 (binR true 1 a b).2 :=
  ⟨fun w => i2_wide 125 107 a b _ _ _ w ha0 ha hb0 hb (fun w => fold_b 125 w (by decide) (by decide) (by decide) (by decide)) (fun w => d64_1 _ _ w (by omega) (by omega) (by omega) (by omega)),
   fun w => s2_b64 125 a b _ _ _ w ha0 ha hb0 hb (by decide) (by decide) (fun w => sbin64_1 _ _ w (by omega) (by omega) (by omega) (by omega))⟩
theorem ag_b32_2 (a b : Int) (ha0 : 0 ≤ a) (ha : a ≤ 18446744073709551615) (hb0 : 0 ≤ b) (hb : b ≤ 18446744073709551615) : Agree2 108 a b true (binR false 2 (a % 4294967296) (b % 4294967296)).1 (binR false 2 (a % 4294967296) (b % 4294967296)).2 :=
  ⟨fun w => i2_narrow 108 108 a b _ _ _ w ha0 ha hb0 hb (fun w => fold_d 108 w (by decide) (by decide) (by decide) (by decide) (by decide)) (fun w => d32_2 _ _ w (by omega) (by omega) (by omega) (by omega)),
   fun w => s2_b32 108 a b _ _ _ w ha0 ha hb0 hb (by decide) (by decide) (fun w => sbin32_2 _ _ w (by omega) (by omega) (by omega) (by omega))⟩
theorem ag_b64_2 (a b : Int) (ha0 : 0 ≤ a) (ha : a ≤ 18446744073709551615) (hb0 : 0 ≤ b) (hb : b ≤ 18446744073709551615) : Agree2 126 a b true (binR true 2 a b).1 (binR true 2 a b).2 :=
  ⟨fun w => i2_wide 126 108 a b _ _ _ w ha0 ha hb0 hb (fun w => fold_b 126 w (by decide) (by decide) (by decide) (by decide)) (fun w => d64_2 _ _ w (by omega) (by omega) (by omega) (by omega)),
   fun w => s2_b64 126 a b _ _ _ w ha0 ha hb0 hb (by decide) (by decide) (fun w => sbin64_2 _ _ w (by omega) (by omega) (by omega) (by omega))⟩
theorem ag_b32_3 (a b : Int) (ha0 : 0 ≤ a) (ha : a ≤ 18446744073709551615) (hb0 : 0 ≤ b) (hb : b ≤ 18446744073709551615) : Agree2 109 a b true (binR false 3 (a % 4294967296) (b % 4294967296)).1 (binR false 3 (a % 4294967296) (b % 4294967296)).2 :=
  ⟨fun w => i2_narrow 109 109 a b _ _ _ w ha0 ha hb0 hb (fun w => fold_d 109 w (by decide) (by decide) (by decide) (by decide) (by decide)) (fun w => d32_3 _ _ w (by omega) (by omega) (by omega) (by omega)),
   fun w => s2_b32 109 a b _ _ _ w ha0 ha hb0 hb (by decide) (by decide) (fun w => sbin32_3 _ _ w (by omega) (by omega) (by omega) (by omega))⟩
theorem ag_b64_3 (a b : Int) (ha0 : 0 ≤ a) (ha : a ≤ 18446744073709551615) (hb0 : 0 ≤ b) (hb : b ≤ 18446744073709551615) : Agree2 127 a b true (binR true 3 a b).1 (binR true 3 a b).2 :=
  ⟨fun w => i2_wide 127 109 a b _ _ _ w ha0 ha hb0 hb (fun w => fold_b 127 w (by decide) (by decide) (by decide) (by decide)) (fun w => d64_3 _ _ w (by omega) (by omega) (by omega) (by omega)),
   fun w => s2_b64 127 a b _ _ _ w ha0 ha hb0 hb (by decide) (by decide) (fun w => sbin64_3 _ _ w (by omega) (by omega) (by omega) (by omega))⟩
theorem ag_b32_4 (a b : Int) (ha0 : 0 ≤ a) (ha : a ≤ 18446744073709551615) (hb0 : 0 ≤ b) (hb : b ≤ 18446744073709551615) : Agree2 110 a b true (binR false 4 (a % 4294967296) (b % 4294967296)).1 (binR false 4 (a % 4294967296) (b % 4294967296)).2 :=
  ⟨fun w => i2_narrow 110 110 a b _ _ _ w ha0 ha hb0 hb (fun w => fold_d 110 w (by decide) (by decide) (by decide) (by decide) (by decide)) (fun w => d32_4 _ _ w (by omega) (by omega) (by omega) (by omega)),
   fun w => s2_b32 110 a b _ _ _ w ha0 ha hb0 hb (by decide) (by decide) (fun w => sbin32_4 _ _ w (by omega) (by omega) (by omega) (by omega))⟩
theorem ag_b64_4 (a b : Int) (ha0 : 0 ≤ a) (ha : a ≤ 18446744073709551615) (hb0 : 0 ≤ b) (hb : b ≤ 18446744073709551615) : Agree2 128 a b true (binR true 4 a b).1 (binR true 4 a b).2 :=
  ⟨fun w => i2_wide 128 110 a b _ _ _ w ha0 ha hb0 hb (fun w => fold_b 128 w (by decide) (by decide) (by decide) (by decide)) (fun w => d64_4 _ _ w (by omega) (by omega) (by omega) (by omega)),
   fun w => s2_b64 128 a b _ _ _ w ha0 ha hb0 hb (by decide) (by decide) (fun w => sbin64_4 _ _ w (by omega) (by omega) (by omega) (by omega))⟩
theorem ag_b32_5 (a b : Int) (ha0 : 0 ≤ a) (ha : a ≤ 18446744073709551615) (hb0 : 0 ≤ b) (hb : b ≤ 18446744073709551615) : Agree2 111 a b true (binR false 5 (a % 4294967296) (b % 4294967296)).1 (binR false 5 (a % 4294967296) (b % 4294967296)).2 :=
  ⟨fun w => i2_narrow 111 111 a b _ _ _ w ha0 ha hb0 hb (fun w => fold_d 111 w (by decide) (by decide) (by decide) (by decide) (by decide)) (fun w => d32_5 _ _ w (by omega) (by omega) (by omega) (by omega)),
   fun w => s2_b32 111 a b _ _ _ w ha0 ha hb0 hb (by decide) (by decide) (fun w => sbin32_5 _ _ w (by omega) (by omega) (by omega) (by omega))⟩
theorem ag_b64_5 (a b : Int) (ha0 : 0 ≤ a) (ha : a ≤ 18446744073709551615) (hb0 : 0 ≤ b) (hb : b ≤ 18446744073709551615) : Agree2 129 a b true (binR true 5 a b).1 (binR true 5 a b).2 :=
  ⟨fun w => i2_wide 129 111 a b _ _ _ w ha0 ha hb0 hb (fun w => fold_b 129 w (by decide) (by decide) (by decide) (by decide)) (fun w => d64_5 _ _ w (by omega) (by omega) (by omega) (by omega)),
   fun w => s2_b64 129 a b _ _ _ w ha0 ha hb0 hb (by decide) (by decide) (fun w => sbin64_5 _ _ w (by omega) (by omega) (by omega) (by omega))⟩
theorem ag_b32_6 (a b : Int) (ha0 : 0 ≤ a) (ha : a ≤ 18446744073709551615) (hb0 : 0 ≤ b) (hb : b ≤ 18446744073709551615) : Agree2 112 a b true (binR false 6 (a % 4294967296) (b % 4294967296)).1 (binR false 6 (a % 4294967296) (b % 4294967296)).2 :=
  ⟨fun w => i2_narrow 112 112 a b _ _ _ w ha0 ha hb0 hb (fun w => fold_d 112 w (by decide) (by decide) (by decide) (by decide) (by decide)) (fun w => d32_6 _ _ w (by omega) (by omega) (by omega) (by omega)),
   fun w => s2_b32 112 a b _ _ _ w ha0 ha hb0 hb (by decide) (by decide) (fun w => sbin32_6 _ _ w (by omega) (by omega) (by omega) (by omega))⟩
theorem ag_b64_6 (a b : Int) (ha0 : 0 ≤ a) (ha : a ≤ 18446744073709551615) (hb0 : 0 ≤ b) (hb : b ≤ 18446744073709551615) : Agree2 130 a b true (binR true 6 a b).1 (binR true 6 a b).2 :=
  ⟨fun w => i2_wide 130 112 a b _ _ _ w ha0 ha hb0 hb (fun w => fold_b 130 w (by decide) (by decide) (by decide) (by decide)) (fun w => d64_6 _ _ w (by omega) (by omega) (by omega) (by omega)),
   fun w => s2_b64 130 a b _ _ _ w ha0 ha hb0 hb (by decide) (by decide) (fun w => sbin64_6 _ _ w (by omega) (by omega) (by omega) (by omega))⟩
theorem ag_b32_7 (a b : Int) (ha0 : 0 ≤ a) (ha : a ≤ 18446744073709551615) (hb0 : 0 ≤ b) (hb : b ≤ 18446744073709551615) : Agree2 113 a b true (binR false 7 (a % 4294967296) (b % 4294967296)).1 (binR false 7 (a % 4294967296) (b % 4294967296)).2 :=
  ⟨fun w => i2_narrow 113 113 a b _ _ _ w ha0 ha hb0 hb (fun w => fold_d 113 w (by decide) (by decide) (by decide) (by decide) (by decide)) (fun w => d32_7 _ _ w (by omega) (by omega) (by omega) (by omega)),
   fun w => s2_b32 113 a b _ _ _ w ha0 ha hb0 hb (by decide) (by decide) (fun w => sbin32_7 _ _ w (by omega) (by omega) (by omega) (by omega))⟩
theorem ag_b64_7 (a b : Int) (ha0 : 0 ≤ a) (ha : a ≤ 18446744073709551615) (hb0 : 0 ≤ b) (hb : b ≤ 18446744073709551615) : Agree2 131 a b true (binR true 7 a b).1 (binR true 7 a b).2 :=
  ⟨fun w => i2_wide 131 113 a b _ _ _ w ha0 ha hb0 hb (fun w => fold_b 131 w (by decide) (by decide) (by decide) (by decide)) (fun w => d64_7 _ _ w (by omega) (by omega) (by omega) (by omega)),
   fun w => s2_b64 131 a b _ _ _ w ha0 ha hb0 hb (by decide) (by decide) (fun w => sbin64_7 _ _ w (by omega) (by omega) (by omega) (by omega))⟩
theorem ag_b32_8 (a b : Int) (ha0 : 0 ≤ a) (ha : a ≤ 18446744073709551615) (hb0 : 0 ≤ b) (hb : b ≤ 18446744073709551615) : Agree2 114 a b true (binR false 8 (a % 4294967296) (b % 4294967296)).1 (binR false 8 (a % 4294967296) (b % 4294967296)).2 :=
  ⟨fun w => i2_narrow 114 114 a b _ _ _ w ha0 ha hb0 hb (fun w => fold_d 114 w (by decide) (by decide) (by decide) (by decide) (by decide)) (fun w => d32_8 _ _ w (by omega) (by omega) (by omega) (by omega)),
   fun w => s2_b32 114 a b _ _ _ w ha0 ha hb0 hb (by decide) (by decide) (fun w => sbin32_8 _ _ w (by omega) (by omega) (by omega) (by omega))⟩
theorem ag_b64_8 (a b : Int) (ha0 : 0 ≤ a) (ha : a ≤ 18446744073709551615) (hb0 : 0 ≤ b) (hb : b ≤ 18446744073709551615) : Agree2 132 a b true (binR true 8 a b).1 (binR true 8 a b).2 :=
  ⟨fun w => i2_wide 132 114 a b _ _ _ w ha0 ha hb0 hb (fun w => fold_b 132 w (by decide) (by decide) (by decide) (by decide)) (fun w => d64_8 _ _ w (by omega) (by omega) (by omega) (by omega)),
   fun w => s2_b64 132 a b _ _ _ w ha0 ha hb0 hb (by decide) (by decide) (fun w => sbin64_8 _ _ w (by omega) (by omega) (by omega) (by omega))⟩
theorem ag_b32_9 (a b : Int) (ha0 : 0 ≤ a) (ha : a ≤ 18446744073709551615) (hb0 : 0 ≤ b) (hb : b ≤ 18446744073709551615) : Agree2 115 a b true (binR false 9 (a % 4294967296) (b % 4294967296)).1 (binR false 9 (a % 4294967296) (b % 4294967296)).2 :=
  ⟨fun w => i2_narrow 115 115 a b _ _ _ w ha0 ha hb0 hb (fun w => fold_d 115 w (by decide) (by decide) (by decide) (by decide) (by decide)) (fun w => d32_9 _ _ w (by omega) (by omega) (by omega) (by omega)),
   fun w => s2_b32 115 a b _ _ _ w ha0 ha hb0 hb (by decide) (by decide) (fun w => sbin32_9 _ _ w (by omega) (by omega) (by omega) (by omega))⟩
theorem ag_b64_9 (a b : Int) (ha0 : 0 ≤ a) (ha : a ≤ 18446744073709551615) (hb0 : 0 ≤ b) (hb : b ≤ 18446744073709551615) : Agree2 133 a b true (binR true 9 a b).1 (binR true 9 a b).2 :=
  ⟨fun w => i2_wide 133 115 a b _ _ _ w ha0 ha hb0 hb (fun w => fold_b 133 w (by decide) (by decide) (by decide) (by decide)) (fun w => d64_9 _ _ w (by omega) (by omega) (by omega) (by omega)),
   fun w => s2_b64 133 a b _ _ _ w ha0 ha hb0 hb (by decide) (by decide) (fun w => sbin64_9 _ _ w (by omega) (by omega) (by omega) (by omega))⟩
theorem ag_b32_10 (a b : Int) (ha0 : 0 ≤ a) (ha : a ≤ 18446744073709551615) (hb0 : 0 ≤ b) (hb : b ≤ 18446744073709551615) : Agree2 116 a b true (binR false 10 (a % 4294967296) (b % 4294967296)).1 (binR false 10 (a % 4294967296) (b % 4294967296)).2 :=
  ⟨fun w => i2_narrow 116 116 a b _ _ _ w ha0 ha hb0 hb (fun w => fold_d 116 w (by decide) (by decide) (by decide) (by decide) (by decide)) (fun w => d32_10 _ _ w (by omega) (by omega) (by omega) (by omega)),
   fun w => s2_b32 116 a b _ _ _ w ha0 ha hb0 hb (by decide) (by decide) (fun w => sbin32_10 _ _ w (by omega) (by omega) (by omega) (by omega))⟩
theorem ag_b64_10 (a b : Int) (ha0 : 0 ≤ a) (ha : a ≤ 18446744073709551615) (hb0 : 0 ≤ b) (hb : b ≤ 18446744073709551615) : Agree2 134 a b true (binR true 10 a b).1 (binR true 10 a b).2 :=
  ⟨fun w => i2_wide 134 116 a b _ _ _ w ha0 ha hb0 hb (fun w => fold_b 134 w (by decide) (by decide) (by decide) (by decide)) (fun w => d64_10 _ _ w (by omega) (by omega) (by omega) (by omega)),
   fun w => s2_b64 134 a b _ _ _ w ha0 ha hb0 hb (by decide) (by decide) (fun w => sbin64_10 _ _ w (by omega) (by omega) (by omega) (by omega))⟩
theorem ag_b32_11 (a b : Int) (ha0 : 0 ≤ a) (ha : a ≤ 18446744073709551615) (hb0 : 0 ≤ b) (hb : b ≤ 18446744073709551615) : Agree2 117 a b true (binR false 11 (a % 4294967296) (b % 4294967296)).1 (binR false 11 (a % 4294967296) (b % 4294967296)).2 :=
  ⟨fun w => i2_narrow 117 117 a b _ _ _ w ha0 ha hb0 hb (fun w => fold_d 117 w (by decide) (by decide) (by decide) (by decide) (by decide)) (fun w => d32_11 _ _ w (by omega) (by omega) (by omega) (by omega)),
   fun w => s2_b32 117 a b _ _ _ w ha0 ha hb0 hb (by decide) (by decide) (fun w => sbin32_11 _ _ w (by omega) (by omega) (by omega) (by omega))⟩
theorem ag_b64_11 (a b : Int) (ha0 : 0 ≤ a) (ha : a ≤ 18446744073709551615) (hb0 : 0 ≤ b) (hb : b ≤ 18446744073709551615) : Agree2 135 a b true (binR true 11 a b).1 (binR true 11 a b).2 :=
  ⟨fun w => i2_wide 135 117 a b _ _ _ w ha0 ha hb0 hb (fun w => fold_b 135 w (by decide) (by decide) (by decide) (by decide)) (fun w => d64_11 _ _ w (by omega) (by omega) (by omega) (by omega)),
   fun w => s2_b64 135 a b _ _ _ w ha0 ha hb0 hb (by decide) (by decide) (fun w => sbin64_11 _ _ w (by omega) (by omega) (by omega) (by omega))⟩
theorem ag_b32_12 (a b : Int) (ha0 : 0 ≤ a) (ha : a ≤ 18446744073709551615) (hb0 : 0 ≤ b) (hb : b ≤ 18446744073709551615) : Agree2 118 a b true (binR false 12 (a % 4294967296) (b % 4294967296)).1 (binR false 12 (a % 4294967296) (b % 4294967296)).2 :=
  ⟨fun w => i2_narrow 118 118 a b _ _ _ w ha0 ha hb0 hb (fun w => fold_d 118 w (by decide) (by decide) (by decide) (by decide) (by decide)) (fun w => d32_12 _ _ w (by omega) (by omega) (by omega) (by omega)),
   fun w => s2_b32 118 a b _ _ _ w ha0 ha hb0 hb (by decide) (by decide) (fun w => sbin32_12 _ _ w (by omega) (by omega) (by omega) (by omega))⟩
theorem ag_b64_12 (a b : Int) (ha0 : 0 ≤ a) (ha : a ≤ 18446744073709551615) (hb0 : 0 ≤ b) (hb : b ≤ 18446744073709551615) : Agree2 136 a b true (binR true 12 a b).1 (binR true 12 a b).2 :=
  ⟨fun w => i2_wide 136 118 a b _ _ _ w ha0 ha hb0 hb (fun w => fold_b 136 w (by decide) (by decide) (by decide) (by decide)) (fun w => d64_12 _ _ w (by omega) (by omega) (by omega) (by omega)),
   fun w => s2_b64 136 a b _ _ _ w ha0 ha hb0 hb (by decide) (by decide) (fun w => sbin64_12 _ _ w (by omega) (by omega) (by omega) (by omega))⟩
theorem ag_b32_13 (a b : Int) (ha0 : 0 ≤ a) (ha : a ≤ 18446744073709551615) (hb0 : 0 ≤ b) (hb : b ≤ 18446744073709551615) : Agree2 119 a b true (binR false 13 (a % 4294967296) (b % 4294967296)).1 (binR false 13 (a % 4294967296) (b % 4294967296)).2 :=
  ⟨fun w => i2_narrow 119 119 a b _ _ _ w ha0 ha hb0 hb (fun w => fold_d 119 w (by decide) (by decide) (by decide) (by decide) (by decide)) (fun w => d32_13 _ _ w (by omega) (by omega) (by omega) (by omega)),
   fun w => s2_b32 119 a b _ _ _ w ha0 ha hb0 hb (by decide) (by decide) (fun w => sbin32_13 _ _ w (by omega) (by omega) (by omega) (by omega))⟩
theorem ag_b64_13 (a b : Int) (ha0 : 0 ≤ a) (ha : a ≤ 18446744073709551615) (hb0 : 0 ≤ b) (hb : b ≤ 18446744073709551615) : Agree2 137 a b true (binR true 13 a b).1 (binR true 13 a b).2 :=
  ⟨fun w => i2_wide 137 119 a b _ _ _ w ha0 ha hb0 hb (fun w => fold_b 137 w (by decide) (by decide) (by decide) (by decide)) (fun w => d64_13 _ _ w (by omega) (by omega) (by omega) (by omega)),
   fun w => s2_b64 137 a b _ _ _ w ha0 ha hb0 hb (by decide) (by decide) (fun w => sbin64_13 _ _ w (by omega) (by omega) (by omega) (by omega))⟩
theorem ag_b32_14 (a b : Int) (ha0 : 0 ≤ a) (ha : a ≤ 18446744073709551615) (hb0 : 0 ≤ b) (hb : b ≤ 18446744073709551615) : Agree2 120 a b true (binR false 14 (a % 4294967296) (b % 4294967296)).1 (binR false 14 (a % 4294967296) (b % 4294967296)).2 :=
  ⟨fun w => i2_narrow 120 120 a b _ _ _ w ha0 ha hb0 hb (fun w => fold_d 120 w (by decide) (by decide) (by decide) (by decide) (by decide)) (fun w => d32_14 _ _ w (by omega) (by omega) (by omega) (by omega)),
   fun w => s2_b32 120 a b _ _ _ w ha0 ha hb0 hb (by decide) (by decide) (fun w => sbin32_14 _ _ w (by omega) (by omega) (by omega) (by omega))⟩
theorem ag_b64_14 (a b : Int) (ha0 : 0 ≤ a) (ha : a ≤ 18446744073709551615) (hb0 : 0 ≤ b) (hb : b ≤ 18446744073709551615) : Agree2 138 a b true (binR true 14 a b).1 (binR true 14 a b).2 :=
  ⟨fun w => i2_wide 138 120 a b _ _ _ w ha0 ha hb0 hb (fun w => fold_b 138 w (by decide) (by decide) (by decide) (by decide)) (fun w => d64_14 _ _ w (by omega) (by omega) (by omega) (by omega)),
   fun w => s2_b64 138 a b _ _ _ w ha0 ha hb0 hb (by decide) (by decide) (fun w => sbin64_14 _ _ w (by omega) (by omega) (by omega) (by omega))⟩
theorem ag_none (op a b : Int) (hl : -9223372036854775808 ≤ op) (hr : op ≤ 9223372036854775807) (ha0 : 0 ≤ a) (ha : a ≤ 18446744073709551615) (hb0 : 0 ≤ b) (hb : b ≤ 18446744073709551615) (h : op < 70 ∨ op = 80 ∨ (90 < op ∧ op < 106) ∨ (120 < op ∧ op < 124) ∨ 138 < op) : Agree2 op a b false 0 0 := by
  refine ⟨fun w => ?_, fun w => s2_none op a b w h⟩
  by_cases h1 : op = 80
  · exact i2_wide op (op - 11) a b _ _ _ w ha0 ha hb0 hb (fun w => fold_a op w hl hr (by omega) (by omega)) (fun w => n64 _ _ _ w (by omega))
  · by_cases h2 : 121 ≤ op ∧ op ≤ 138
    · exact i2_wide op (op - 18) a b _ _ _ w ha0 ha hb0 hb (fun w => fold_b op w hl hr (by omega) (by omega)) (fun w => n64 _ _ _ w (by omega))
    · by_cases h3 : 167 ≤ op
      · exact i2_wide op op a b _ _ _ w ha0 ha hb0 hb (fun w => fold_c op w hl hr (by omega) (by omega) h3) (fun w => n64 _ _ _ w (by omega))
      · exact i2_narrow op op a b _ _ _ w ha0 ha hb0 hb (fun w => fold_d op w hl hr (by omega) (by omega) h3) (fun w => n32 _ _ _ w (by omega))
theorem agree2 (op a b : Int) (hl : -9223372036854775808 ≤ op) (hr : op ≤ 9223372036854775807) (ha0 : 0 ≤ a) (ha : a ≤ 18446744073709551615) (hb0 : 0 ≤ b) (hb : b ≤ 18446744073709551615) : ∃ K t v, Agree2 op a b K t v := by
  by_cases hn : op < 70 ∨ op = 80 ∨ (90 < op ∧ op < 106) ∨ (120 < op ∧ op < 124) ∨ 138 < op
  · exact ⟨_, _, _, ag_none op a b hl hr ha0 ha hb0 hb hn⟩
  by_cases h1 : op ≤ 79
  ·
    rcases (show op = 70 ∨ op = 71 ∨ op = 72 ∨ op = 73 ∨ op = 74 ∨ op = 75 ∨ op = 76 ∨ op = 77 ∨ op = 78 ∨ op = 79 by omega) with rfl | rfl | rfl | rfl | rfl | rfl | rfl | rfl | rfl | rfl
    · exact ⟨_, _, _, ag_c32_0 a b ha0 ha hb0 hb⟩
    · exact ⟨_, _, _, ag_c32_1 a b ha0 ha hb0 hb⟩
    · exact ⟨_, _, _, ag_c32_2 a b ha0 ha hb0 hb⟩
    · exact ⟨_, _, _, ag_c32_3 a b ha0 ha hb0 hb⟩
    · exact ⟨_, _, _, ag_c32_4 a b ha0 ha hb0 hb⟩
    · exact ⟨_, _, _, ag_c32_5 a b ha0 ha hb0 hb⟩
    · exact ⟨_, _, _, ag_c32_6 a b ha0 ha hb0 hb⟩
    · exact ⟨_, _, _, ag_c32_7 a b ha0 ha hb0 hb⟩
    · exact ⟨_, _, _, ag_c32_8 a b ha0 ha hb0 hb⟩
    · exact ⟨_, _, _, ag_c32_9 a b ha0 ha hb0 hb⟩
  by_cases h2 : op ≤ 90
  ·
    rcases (show op = 81 ∨ op = 82 ∨ op = 83 ∨ op = 84 ∨ op = 85 ∨ op = 86 ∨ op = 87 ∨ op = 88 ∨ op = 89 ∨ op = 90 by omega) with rfl | rfl | rfl | rfl | rfl | rfl | rfl | rfl | rfl | rfl
    · exact ⟨_, _, _, ag_c64_0 a b ha0 ha hb0 hb⟩
    · exact ⟨_, _, _, ag_c64_1 a b ha0 ha hb0 hb⟩
    · exact ⟨_, _, _, ag_c64_2 a b ha0 ha hb0 hb⟩
    · exact ⟨_, _, _, ag_c64_3 a b ha0 ha hb0 hb⟩
    · exact ⟨_, _, _, ag_c64_4 a b ha0 ha hb0 hb⟩
    · exact ⟨_, _, _, ag_c64_5 a b ha0 ha hb0 hb⟩
    · exact ⟨_, _, _, ag_c64_6 a b ha0 ha hb0 hb⟩
    · exact ⟨_, _, _, ag_c64_7 a b ha0 ha hb0 hb⟩
    · exact ⟨_, _, _, ag_c64_8 a b ha0 ha hb0 hb⟩
    · exact ⟨_, _, _, ag_c64_9 a b ha0 ha hb0 hb⟩
  by_cases h3 : op ≤ 120
  ·
    rcases (show op = 106 ∨ op = 107 ∨ op = 108 ∨ op = 109 ∨ op = 110 ∨ op = 111 ∨ op = 112 ∨ op = 113 ∨ op = 114 ∨ op = 115 ∨ op = 116 ∨ op = 117 ∨ op = 118 ∨ op = 119 ∨ op = 120 by omega) with rfl | rfl | rfl | rfl | rfl | rfl | rfl | rfl | rfl | rfl | rfl | rfl | rfl | rfl | rfl
    · exact ⟨_, _, _, ag_b32_0 a b ha0 ha hb0 hb⟩
    · exact ⟨_, _, _, ag_b32_1 a b ha0 ha hb0 hb⟩
    · exact ⟨_, _, _, ag_b32_2 a b ha0 ha hb0 hb⟩
    · exact ⟨_, _, _, ag_b32_3 a b ha0 ha hb0 hb⟩
    · exact ⟨_, _, _, ag_b32_4 a b ha0 ha hb0 hb⟩
    · exact ⟨_, _, _, ag_b32_5 a b ha0 ha hb0 hb⟩
    · exact ⟨_, _, _, ag_b32_6 a b ha0 ha hb0 hb⟩
    · exact ⟨_, _, _, ag_b32_7 a b ha0 ha hb0 hb⟩
    · exact ⟨_, _, _, ag_b32_8 a b ha0 ha hb0 hb⟩
    · exact ⟨_, _, _, ag_b32_9 a b ha0 ha hb0 hb⟩
    · exact ⟨_, _, _, ag_b32_10 a b ha0 ha hb0 hb⟩
    · exact ⟨_, _, _, ag_b32_11 a b ha0 ha hb0 hb⟩
    · exact ⟨_, _, _, ag_b32_12 a b ha0 ha hb0 hb⟩
    · exact ⟨_, _, _, ag_b32_13 a b ha0 ha hb0 hb⟩
    · exact ⟨_, _, _, ag_b32_14 a b ha0 ha hb0 hb⟩
  ·
    rcases (show op = 124 ∨ op = 125 ∨ op = 126 ∨ op = 127 ∨ op = 128 ∨ op = 129 ∨ op = 130 ∨ op = 131 ∨ op = 132 ∨ op = 133 ∨ op = 134 ∨ op = 135 ∨ op = 136 ∨ op = 137 ∨ op = 138 by omega) with rfl | rfl | rfl | rfl | rfl | rfl | rfl | rfl | rfl | rfl | rfl | rfl | rfl | rfl | rfl
    · exact ⟨_, _, _, ag_b64_0 a b ha0 ha hb0 hb⟩
    · exact ⟨_, _, _, ag_b64_1 a b ha0 ha hb0 hb⟩
    · exact ⟨_, _, _, ag_b64_2 a b ha0 ha hb0 hb⟩
    · exact ⟨_, _, _, ag_b64_3 a b ha0 ha hb0 hb⟩
    · exact ⟨_, _, _, ag_b64_4 a b ha0 ha hb0 hb⟩
    · exact ⟨_, _, _, ag_b64_5 a b ha0 ha hb0 hb⟩
    · exact ⟨_, _, _, ag_b64_6 a b ha0 ha hb0 hb⟩
    · exact ⟨_, _, _, ag_b64_7 a b ha0 ha hb0 hb⟩
    · exact ⟨_, _, _, ag_b64_8 a b ha0 ha hb0 hb⟩
    · exact ⟨_, _, _, ag_b64_9 a b ha0 ha hb0 hb⟩
    · exact ⟨_, _, _, ag_b64_10 a b ha0 ha hb0 hb⟩
    · exact ⟨_, _, _, ag_b64_11 a b ha0 ha hb0 hb⟩
    · exact ⟨_, _, _, ag_b64_12 a b ha0 ha hb0 hb⟩
    · exact ⟨_, _, _, ag_b64_13 a b ha0 ha hb0 hb⟩
    · exact ⟨_, _, _, ag_b64_14 a b ha0 ha hb0 hb⟩
end Go.Proofs.YtjiaainhieeepaaDoor
