import Derived.Test.YtngepdhhdbhglaaGreatDoorN1
set_option linter.all false
set_option linter.unusedVariables false
namespace Go.Proofs.YtngepdhhdbhglaaGreatDoor
open Go.RowKit
set_option maxHeartbeats 1000000 in
theorem sn_a (p : Int) (i : Nat) (s : ByteArray) (w : World) (h1 : 70 ≤ p) (h2 : p ≤ 79) (hi : p - 70 = i) (hs : LTests[i]? = some s) (hz : s.size ≤ 100) : Calls Tryz.prog 40 #[.int .i64 p] w fun e w' => e = .returned (.string (⟨#[105, 51, 50, 46]⟩ ++ s)) ∧ Below w.heap.size w w' := by
  have f1 : ¬ p < 0 := by omega
  have f2 : p ≤ 191 := by omega
  have f3 : ¬ p ≤ 68 := by omega
  have f4 : (p == (69 : Int)) = false := by simp; omega
  have f5 : p ≤ 79 := by omega
  have f6 : (p == (80 : Int)) = false := by simp; omega
  have f7 : p ≤ 90 := by omega
  have f8 : p ≤ 96 := by omega
  have f9 : p ≤ 102 := by omega
  have f10 : p ≤ 120 := by omega
  have f11 : p ≤ 138 := by omega
  have f12 : p ≤ 152 := by omega
  have f13 : p ≤ 166 := by omega
  have hw : IntKind.i64.wrap (p - 70) = i := by rw [IntKind.wrap_i64]; omega
  have hi2 : (i : Int) < 10 := by omega
  have hz1 : ¬ 9223372036854775807 < 4 + s.size := by omega
  go_enter Tryz.func40, Tryz.ntmps40
  go_wp2_with fail
  refine (lTests_c _).mono ?_
  rintro e w1 ⟨g, rfl, hb, hc⟩
  have hb1 := up1 hb
  have hc' := hc i s hs
  clear hb hc
  go_wp2
  go_ret
  exact ⟨rfl, hb1⟩
set_option maxHeartbeats 1000000 in
theorem sn_b (p : Int) (i : Nat) (s : ByteArray) (w : World) (h1 : 81 ≤ p) (h2 : p ≤ 90) (hi : p - 81 = i) (hs : LTests[i]? = some s) (hz : s.size ≤ 100) : Calls Tryz.prog 40 #[.int .i64 p] w fun e w' => e = .returned (.string (⟨#[105, 54, 52, 46]⟩ ++ s)) ∧ Below w.heap.size w w' := by
  have f1 : ¬ p < 0 := by omega
  have f2 : p ≤ 191 := by omega
  have f3 : ¬ p ≤ 68 := by omega
  have f4 : (p == (69 : Int)) = false := by simp; omega
  have f5 : ¬ p ≤ 79 := by omega
  have f6 : (p == (80 : Int)) = false := by simp; omega
  have f7 : p ≤ 90 := by omega
  have f8 : p ≤ 96 := by omega
  have f9 : p ≤ 102 := by omega
  have f10 : p ≤ 120 := by omega
  have f11 : p ≤ 138 := by omega
  have f12 : p ≤ 152 := by omega
  have f13 : p ≤ 166 := by omega
  have hw : IntKind.i64.wrap (p - 81) = i := by rw [IntKind.wrap_i64]; omega
  have hi2 : (i : Int) < 10 := by omega
  have hz1 : ¬ 9223372036854775807 < 4 + s.size := by omega
  go_enter Tryz.func40, Tryz.ntmps40
  go_wp2_with fail
  refine (lTests_c _).mono ?_
  rintro e w1 ⟨g, rfl, hb, hc⟩
  have hb1 := up1 hb
  have hc' := hc i s hs
  clear hb hc
  go_wp2
  go_ret
  exact ⟨rfl, hb1⟩
set_option maxHeartbeats 1000000 in
theorem sn_c (p : Int) (i : Nat) (s : ByteArray) (w : World) (h1 : 91 ≤ p) (h2 : p ≤ 96) (hi : p - 91 = i) (hs : LT6[i]? = some s) (hz : s.size ≤ 100) : Calls Tryz.prog 40 #[.int .i64 p] w fun e w' => e = .returned (.string (⟨#[102, 51, 50, 46]⟩ ++ s)) ∧ Below w.heap.size w w' := by
  have f1 : ¬ p < 0 := by omega
  have f2 : p ≤ 191 := by omega
  have f3 : ¬ p ≤ 68 := by omega
  have f4 : (p == (69 : Int)) = false := by simp; omega
  have f5 : ¬ p ≤ 79 := by omega
  have f6 : (p == (80 : Int)) = false := by simp; omega
  have f7 : ¬ p ≤ 90 := by omega
  have f8 : p ≤ 96 := by omega
  have f9 : p ≤ 102 := by omega
  have f10 : p ≤ 120 := by omega
  have f11 : p ≤ 138 := by omega
  have f12 : p ≤ 152 := by omega
  have f13 : p ≤ 166 := by omega
  have hw : IntKind.i64.wrap (p - 91) = i := by rw [IntKind.wrap_i64]; omega
  have hi2 : (i : Int) < 6 := by omega
  have hz1 : ¬ 9223372036854775807 < 4 + s.size := by omega
  have hT : (w.alloc (.cells #[.string ⟨#[101, 113]⟩, .string ⟨#[110, 101]⟩, .string ⟨#[108, 116]⟩, .string ⟨#[103, 116]⟩, .string ⟨#[108, 101]⟩, .string ⟨#[103, 101]⟩] 9)).cell? ⟨w.heap.size, i, none⟩ = some (.string s) := (strNew w LT6 9).2 i s hs
  go_enter Tryz.func40, Tryz.ntmps40
  go_wp2
  go_ret
  exact ⟨rfl, (Below.refl _ _).alloc (Nat.le_refl _) _⟩
set_option maxHeartbeats 1000000 in
theorem sn_d (p : Int) (i : Nat) (s : ByteArray) (w : World) (h1 : 97 ≤ p) (h2 : p ≤ 102) (hi : p - 97 = i) (hs : LT6[i]? = some s) (hz : s.size ≤ 100) : Calls Tryz.prog 40 #[.int .i64 p] w fun e w' => e = .returned (.string (⟨#[102, 54, 52, 46]⟩ ++ s)) ∧ Below w.heap.size w w' := by
  have f1 : ¬ p < 0 := by omega
  have f2 : p ≤ 191 := by omega
  have f3 : ¬ p ≤ 68 := by omega
  have f4 : (p == (69 : Int)) = false := by simp; omega
  have f5 : ¬ p ≤ 79 := by omega
  have f6 : (p == (80 : Int)) = false := by simp; omega
  have f7 : ¬ p ≤ 90 := by omega
  have f8 : ¬ p ≤ 96 := by omega
  have f9 : p ≤ 102 := by omega
  have f10 : p ≤ 120 := by omega
  have f11 : p ≤ 138 := by omega
  have f12 : p ≤ 152 := by omega
  have f13 : p ≤ 166 := by omega
  have hw : IntKind.i64.wrap (p - 97) = i := by rw [IntKind.wrap_i64]; omega
  have hi2 : (i : Int) < 6 := by omega
  have hz1 : ¬ 9223372036854775807 < 4 + s.size := by omega
  have hT : (w.alloc (.cells #[.string ⟨#[101, 113]⟩, .string ⟨#[110, 101]⟩, .string ⟨#[108, 116]⟩, .string ⟨#[103, 116]⟩, .string ⟨#[108, 101]⟩, .string ⟨#[103, 101]⟩] 9)).cell? ⟨w.heap.size, i, none⟩ = some (.string s) := (strNew w LT6 9).2 i s hs
  go_enter Tryz.func40, Tryz.ntmps40
  go_wp2
  go_ret
  exact ⟨rfl, (Below.refl _ _).alloc (Nat.le_refl _) _⟩
theorem sn_z0 (p : Int) (w : World) (h2 : p ≤ -1) : Calls Tryz.prog 40 #[.int .i64 p] w fun e w' => e = .returned (.string ⟨#[]⟩) ∧ Below w.heap.size w w' := by
  have f1 : p < 0 := by omega
  have f2 : p ≤ 191 := by omega
  have f3 : p ≤ 68 := by omega
  have f4 : (p == (69 : Int)) = false := by simp; omega
  have f5 : p ≤ 79 := by omega
  have f6 : (p == (80 : Int)) = false := by simp; omega
  have f7 : p ≤ 90 := by omega
  have f8 : p ≤ 96 := by omega
  have f9 : p ≤ 102 := by omega
  have f10 : p ≤ 120 := by omega
  have f11 : p ≤ 138 := by omega
  have f12 : p ≤ 152 := by omega
  have f13 : p ≤ 166 := by omega
  go_enter Tryz.func40, Tryz.ntmps40
  go_wp2
  go_ret
  exact ⟨rfl, (Below.refl _ _).alloc (Nat.le_refl _) _⟩
theorem sn_z1 (p : Int) (w : World) (h1 : 192 ≤ p) : Calls Tryz.prog 40 #[.int .i64 p] w fun e w' => e = .returned (.string ⟨#[]⟩) ∧ Below w.heap.size w w' := by
  have f1 : ¬ p < 0 := by omega
  have f2 : ¬ p ≤ 191 := by omega
  have f3 : ¬ p ≤ 68 := by omega
  have f4 : (p == (69 : Int)) = false := by simp; omega
  have f5 : ¬ p ≤ 79 := by omega
  have f6 : (p == (80 : Int)) = false := by simp; omega
  have f7 : ¬ p ≤ 90 := by omega
  have f8 : ¬ p ≤ 96 := by omega
  have f9 : ¬ p ≤ 102 := by omega
  have f10 : ¬ p ≤ 120 := by omega
  have f11 : ¬ p ≤ 138 := by omega
  have f12 : ¬ p ≤ 152 := by omega
  have f13 : ¬ p ≤ 166 := by omega
  go_enter Tryz.func40, Tryz.ntmps40
  go_wp2
  go_ret
  exact ⟨rfl, (Below.refl _ _).alloc (Nat.le_refl _) _⟩
theorem sn_x (p : Int) (w : World) (h1 : 69 ≤ p) (h2 : p ≤ 69) : Calls Tryz.prog 40 #[.int .i64 p] w fun e w' => e = .returned (.string ⟨#[105, 51, 50, 46, 101, 113, 122]⟩) ∧ Below w.heap.size w w' := by
  have f1 : ¬ p < 0 := by omega
  have f2 : p ≤ 191 := by omega
  have f3 : ¬ p ≤ 68 := by omega
  have f4 : (p == (69 : Int)) = true := by simp; omega
  have f5 : p ≤ 79 := by omega
  have f6 : (p == (80 : Int)) = false := by simp; omega
  have f7 : p ≤ 90 := by omega
  have f8 : p ≤ 96 := by omega
  have f9 : p ≤ 102 := by omega
  have f10 : p ≤ 120 := by omega
  have f11 : p ≤ 138 := by omega
  have f12 : p ≤ 152 := by omega
  have f13 : p ≤ 166 := by omega
  go_enter Tryz.func40, Tryz.ntmps40
  go_wp2
  go_ret
  exact ⟨rfl, (Below.refl _ _).alloc (Nat.le_refl _) _⟩
theorem sn_y (p : Int) (w : World) (h1 : 80 ≤ p) (h2 : p ≤ 80) : Calls Tryz.prog 40 #[.int .i64 p] w fun e w' => e = .returned (.string ⟨#[105, 54, 52, 46, 101, 113, 122]⟩) ∧ Below w.heap.size w w' := by
  have f1 : ¬ p < 0 := by omega
  have f2 : p ≤ 191 := by omega
  have f3 : ¬ p ≤ 68 := by omega
  have f4 : (p == (69 : Int)) = false := by simp; omega
  have f5 : ¬ p ≤ 79 := by omega
  have f6 : (p == (80 : Int)) = true := by simp; omega
  have f7 : p ≤ 90 := by omega
  have f8 : p ≤ 96 := by omega
  have f9 : p ≤ 102 := by omega
  have f10 : p ≤ 120 := by omega
  have f11 : p ≤ 138 := by omega
  have f12 : p ≤ 152 := by omega
  have f13 : p ≤ 166 := by omega
  go_enter Tryz.func40, Tryz.ntmps40
  go_wp2
  go_ret
  exact ⟨rfl, (Below.refl _ _).alloc (Nat.le_refl _) _⟩
end Go.Proofs.YtngepdhhdbhglaaGreatDoor
