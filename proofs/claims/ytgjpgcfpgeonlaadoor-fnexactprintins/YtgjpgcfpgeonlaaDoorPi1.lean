import Derived.Test.YtgjpgcfpgeonlaaDoorPs5
import Derived.Test.YtgjpgcfpgeonlaaDoorPf
import Derived.Test.YtgjpgcfpgeonlaaDoorShelf
import Derived.Lib.AppendIntMem
set_option linter.all false
set_option linter.unusedVariables false
namespace Go.Proofs.YtgjpgcfpgeonlaaDoor
open Go.RowKit Go.Sort
set_option maxRecDepth 100000
/-- The library's tables in their variables. -/
def Vs (w : World) : Prop := w.cell? ⟨3, 15, none⟩ = some (.int .u8 4) ∧ Lib.TabBelow Tryd.prog w.heap.size w "internal/strconv.uint64pow10" .u64 Lib.pow10Tab
theorem Vs.keep {w w' : World} (h : Vs w) (hb : Below w.heap.size w w') : Vs w' :=
  ⟨(hb.cell (p := ⟨3, 15, none⟩) (World.block_lt_of_cell? w _ h.1)).trans h.1, fun w2 h2 => h.2 w2 (hb.trans (h2.mono hb.size))⟩
theorem num_c (x : Int) (w : World) (h0 : -9223372036854775808 ≤ x) (h1 : x ≤ 9223372036854775807) (hV : Vs w) :
    Calls Tryd.prog 52 #[.int .i64 x] w fun e w' => e = .returned (.string (S (Lib.itoa x))) ∧ Below w.heap.size w w' := by
  have K := Hid.mk' (Tryd.strconv_FormatInt_10 x h0 h1 w hV.2.here)
  clear hV
  go_enter Tryd.func52, Tryd.ntmps52
  go_wp2_with fail
  refine K.out.mono ?_
  rintro e w1 ⟨rfl, k, os, hw⟩
  have HB : Hid (Below w.heap.size w w1) := by show Below _ _ _; rw [hw]; exact Lib.below_grow _ _ (Nat.le_refl _) k os
  clear hw K
  go_wp2
  go_ret
  exact ⟨rfl, HB.out⟩
theorem types_c (w : World) : Calls Tryd.prog 65 #[] w fun e w' => e = .returned (.slice (some ⟨w.heap.size, 0, none⟩) 4 4) ∧ w' = w.alloc (.cells #[.string ⟨#[105, 51, 50]⟩, .int .i64 127, .string ⟨#[105, 54, 52]⟩, .int .i64 126, .string ⟨#[102, 51, 50]⟩, .int .i64 125, .string ⟨#[102, 54, 52]⟩, .int .i64 124] 90) := by
  go_enter Tryd.func65, Tryd.ntmps65
  go_wp2
  go_ret
  exact ⟨rfl, rfl⟩
set_option maxHeartbeats 2000000 in
theorem of_127 (w : World) : Calls Tryd.prog 64 #[.slice (some ⟨w.heap.size, 0, none⟩) 4 4, .int .i64 127] (w.alloc (.cells #[.string ⟨#[105, 51, 50]⟩, .int .i64 127, .string ⟨#[105, 54, 52]⟩, .int .i64 126, .string ⟨#[102, 51, 50]⟩, .int .i64 125, .string ⟨#[102, 54, 52]⟩, .int .i64 124] 90)) fun e w' => e = .returned (.string (S [105, 51, 50])) ∧ Below w.heap.size w w' := by
  have B0 := Hid.mk' (show Below w.heap.size w (w.alloc (.cells #[.string ⟨#[105, 51, 50]⟩, .int .i64 127, .string ⟨#[105, 54, 52]⟩, .int .i64 126, .string ⟨#[102, 51, 50]⟩, .int .i64 125, .string ⟨#[102, 54, 52]⟩, .int .i64 124] 90)) from (Below.refl _ _).alloc (Nat.le_refl _) _)
  go_enter Tryd.func64, Tryd.ntmps64
  go_wp2
  refine wp_loop_rounds 1 ?_
  rw [rounds_succ]
  go_wp2
  go_ret
  exact ⟨rfl, by repeat' (first | exact B0.out | refine Below.alloc ?_ (by first | (simp; done) | (simp; omega)) _)⟩
set_option maxHeartbeats 2000000 in
theorem of_126 (w : World) : Calls Tryd.prog 64 #[.slice (some ⟨w.heap.size, 0, none⟩) 4 4, .int .i64 126] (w.alloc (.cells #[.string ⟨#[105, 51, 50]⟩, .int .i64 127, .string ⟨#[105, 54, 52]⟩, .int .i64 126, .string ⟨#[102, 51, 50]⟩, .int .i64 125, .string ⟨#[102, 54, 52]⟩, .int .i64 124] 90)) fun e w' => e = .returned (.string (S [105, 54, 52])) ∧ Below w.heap.size w w' := by
  have B0 := Hid.mk' (show Below w.heap.size w (w.alloc (.cells #[.string ⟨#[105, 51, 50]⟩, .int .i64 127, .string ⟨#[105, 54, 52]⟩, .int .i64 126, .string ⟨#[102, 51, 50]⟩, .int .i64 125, .string ⟨#[102, 54, 52]⟩, .int .i64 124] 90)) from (Below.refl _ _).alloc (Nat.le_refl _) _)
  go_enter Tryd.func64, Tryd.ntmps64
  go_wp2
  refine wp_loop_rounds 2 ?_
  rw [rounds_succ]
  go_wp2
  rw [rounds_succ]
  go_wp2
  go_ret
  exact ⟨rfl, by repeat' (first | exact B0.out | refine Below.alloc ?_ (by first | (simp; done) | (simp; omega)) _)⟩
set_option maxHeartbeats 2000000 in
theorem of_125 (w : World) : Calls Tryd.prog 64 #[.slice (some ⟨w.heap.size, 0, none⟩) 4 4, .int .i64 125] (w.alloc (.cells #[.string ⟨#[105, 51, 50]⟩, .int .i64 127, .string ⟨#[105, 54, 52]⟩, .int .i64 126, .string ⟨#[102, 51, 50]⟩, .int .i64 125, .string ⟨#[102, 54, 52]⟩, .int .i64 124] 90)) fun e w' => e = .returned (.string (S [102, 51, 50])) ∧ Below w.heap.size w w' := by
  have B0 := Hid.mk' (show Below w.heap.size w (w.alloc (.cells #[.string ⟨#[105, 51, 50]⟩, .int .i64 127, .string ⟨#[105, 54, 52]⟩, .int .i64 126, .string ⟨#[102, 51, 50]⟩, .int .i64 125, .string ⟨#[102, 54, 52]⟩, .int .i64 124] 90)) from (Below.refl _ _).alloc (Nat.le_refl _) _)
  go_enter Tryd.func64, Tryd.ntmps64
  go_wp2
  refine wp_loop_rounds 3 ?_
  rw [rounds_succ]
  go_wp2
  rw [rounds_succ]
  go_wp2
  rw [rounds_succ]
  go_wp2
  go_ret
  exact ⟨rfl, by repeat' (first | exact B0.out | refine Below.alloc ?_ (by first | (simp; done) | (simp; omega)) _)⟩
set_option maxHeartbeats 2000000 in
theorem of_124 (w : World) : Calls Tryd.prog 64 #[.slice (some ⟨w.heap.size, 0, none⟩) 4 4, .int .i64 124] (w.alloc (.cells #[.string ⟨#[105, 51, 50]⟩, .int .i64 127, .string ⟨#[105, 54, 52]⟩, .int .i64 126, .string ⟨#[102, 51, 50]⟩, .int .i64 125, .string ⟨#[102, 54, 52]⟩, .int .i64 124] 90)) fun e w' => e = .returned (.string (S [102, 54, 52])) ∧ Below w.heap.size w w' := by
  have B0 := Hid.mk' (show Below w.heap.size w (w.alloc (.cells #[.string ⟨#[105, 51, 50]⟩, .int .i64 127, .string ⟨#[105, 54, 52]⟩, .int .i64 126, .string ⟨#[102, 51, 50]⟩, .int .i64 125, .string ⟨#[102, 54, 52]⟩, .int .i64 124] 90)) from (Below.refl _ _).alloc (Nat.le_refl _) _)
  go_enter Tryd.func64, Tryd.ntmps64
  go_wp2
  refine wp_loop_rounds 4 ?_
  rw [rounds_succ]
  go_wp2
  rw [rounds_succ]
  go_wp2
  rw [rounds_succ]
  go_wp2
  rw [rounds_succ]
  go_wp2
  go_ret
  exact ⟨rfl, by repeat' (first | exact B0.out | refine Below.alloc ?_ (by first | (simp; done) | (simp; omega)) _)⟩
theorem typ_c (t : Int) (w : World) (h : t = 127 ∨ t = 126 ∨ t = 125 ∨ t = 124) : Calls Tryd.prog 51 #[.int .i64 t] w fun e w' => e = .returned (.string (S (typT t))) ∧ Below w.heap.size w w' := by
  have K : Hid (Calls Tryd.prog 64 #[.slice (some ⟨w.heap.size, 0, none⟩) 4 4, .int .i64 t] (w.alloc (.cells #[.string ⟨#[105, 51, 50]⟩, .int .i64 127, .string ⟨#[105, 54, 52]⟩, .int .i64 126, .string ⟨#[102, 51, 50]⟩, .int .i64 125, .string ⟨#[102, 54, 52]⟩, .int .i64 124] 90)) fun e w' => e = .returned (.string (S (typT t))) ∧ Below w.heap.size w w') := by
    show Calls _ _ _ _ _
    rcases h with rfl | rfl | rfl | rfl
    · exact of_127 w
    · exact of_126 w
    · exact of_125 w
    · exact of_124 w
  have K0 := Hid.mk' (types_c w)
  clear h
  go_enter Tryd.func51, Tryd.ntmps51
  go_wp2_with fail
  refine K0.out.mono ?_
  rintro e w1 ⟨rfl, rfl⟩
  go_wp2_with fail
  refine K.out.mono ?_
  rintro e w2 ⟨rfl, hb⟩
  go_wp2
  go_ret
  exact ⟨rfl, hb⟩
end Go.Proofs.YtgjpgcfpgeonlaaDoor
