import Derived.Test.YtngepdhhdbhglaaGreatDoorN1
set_option linter.all false
set_option linter.unusedVariables false
namespace Go.Proofs.YtngepdhhdbhglaaGreatDoor
open Go.RowKit
set_option maxHeartbeats 1000000 in
theorem sn_e (p : Int) (i : Nat) (s : ByteArray) (w : World) (h1 : 103 ≤ p) (h2 : p ≤ 120) (hi : p - 103 = i) (hs : LInts[i]? = some s) (hz : s.size ≤ 100) : Calls Tryz.prog 40 #[.int .i64 p] w fun e w' => e = .returned (.string (⟨#[105, 51, 50, 46]⟩ ++ s)) ∧ Below w.heap.size w w' := by
  have f1 : ¬ p < 0 := by omega
  have f2 : p ≤ 191 := by omega
  have f3 : ¬ p ≤ 68 := by omega
  have f4 : (p == (69 : Int)) = false := by simp; omega
  have f5 : ¬ p ≤ 79 := by omega
  have f6 : (p == (80 : Int)) = false := by simp; omega
  have f7 : ¬ p ≤ 90 := by omega
  have f8 : ¬ p ≤ 96 := by omega
  have f9 : ¬ p ≤ 102 := by omega
  have f10 : p ≤ 120 := by omega
  have f11 : p ≤ 138 := by omega
  have f12 : p ≤ 152 := by omega
  have f13 : p ≤ 166 := by omega
  have hw : IntKind.i64.wrap (p - 103) = i := by rw [IntKind.wrap_i64]; omega
  have hi2 : (i : Int) < 18 := by omega
  have hz1 : ¬ 9223372036854775807 < 4 + s.size := by omega
  go_enter Tryz.func40, Tryz.ntmps40
  go_wp2_with fail
  refine (lInts_c _).mono ?_
  rintro e w1 ⟨g, rfl, hb, hc⟩
  have hb1 := up1 hb
  have hc' := hc i s hs
  clear hb hc
  go_wp2
  go_ret
  exact ⟨rfl, hb1⟩
set_option maxHeartbeats 1000000 in
theorem sn_f (p : Int) (i : Nat) (s : ByteArray) (w : World) (h1 : 121 ≤ p) (h2 : p ≤ 138) (hi : p - 121 = i) (hs : LInts[i]? = some s) (hz : s.size ≤ 100) : Calls Tryz.prog 40 #[.int .i64 p] w fun e w' => e = .returned (.string (⟨#[105, 54, 52, 46]⟩ ++ s)) ∧ Below w.heap.size w w' := by
  have f1 : ¬ p < 0 := by omega
  have f2 : p ≤ 191 := by omega
  have f3 : ¬ p ≤ 68 := by omega
  have f4 : (p == (69 : Int)) = false := by simp; omega
  have f5 : ¬ p ≤ 79 := by omega
  have f6 : (p == (80 : Int)) = false := by simp; omega
  have f7 : ¬ p ≤ 90 := by omega
  have f8 : ¬ p ≤ 96 := by omega
  have f9 : ¬ p ≤ 102 := by omega
  have f10 : ¬ p ≤ 120 := by omega
  have f11 : p ≤ 138 := by omega
  have f12 : p ≤ 152 := by omega
  have f13 : p ≤ 166 := by omega
  have hw : IntKind.i64.wrap (p - 121) = i := by rw [IntKind.wrap_i64]; omega
  have hi2 : (i : Int) < 18 := by omega
  have hz1 : ¬ 9223372036854775807 < 4 + s.size := by omega
  go_enter Tryz.func40, Tryz.ntmps40
  go_wp2_with fail
  refine (lInts_c _).mono ?_
  rintro e w1 ⟨g, rfl, hb, hc⟩
  have hb1 := up1 hb
  have hc' := hc i s hs
  clear hb hc
  go_wp2
  go_ret
  exact ⟨rfl, hb1⟩
set_option maxHeartbeats 1000000 in
theorem sn_g (p : Int) (i : Nat) (s : ByteArray) (w : World) (h1 : 139 ≤ p) (h2 : p ≤ 152) (hi : p - 139 = i) (hs : LFloats[i]? = some s) (hz : s.size ≤ 100) : Calls Tryz.prog 40 #[.int .i64 p] w fun e w' => e = .returned (.string (⟨#[102, 51, 50, 46]⟩ ++ s)) ∧ Below w.heap.size w w' := by
  have f1 : ¬ p < 0 := by omega
  have f2 : p ≤ 191 := by omega
  have f3 : ¬ p ≤ 68 := by omega
  have f4 : (p == (69 : Int)) = false := by simp; omega
  have f5 : ¬ p ≤ 79 := by omega
  have f6 : (p == (80 : Int)) = false := by simp; omega
  have f7 : ¬ p ≤ 90 := by omega
  have f8 : ¬ p ≤ 96 := by omega
  have f9 : ¬ p ≤ 102 := by omega
  have f10 : ¬ p ≤ 120 := by omega
  have f11 : ¬ p ≤ 138 := by omega
  have f12 : p ≤ 152 := by omega
  have f13 : p ≤ 166 := by omega
  have hw : IntKind.i64.wrap (p - 139) = i := by rw [IntKind.wrap_i64]; omega
  have hi2 : (i : Int) < 14 := by omega
  have hz1 : ¬ 9223372036854775807 < 4 + s.size := by omega
  go_enter Tryz.func40, Tryz.ntmps40
  go_wp2_with fail
  refine (lFloats_c _).mono ?_
  rintro e w1 ⟨g, rfl, hb, hc⟩
  have hb1 := up1 hb
  have hc' := hc i s hs
  clear hb hc
  go_wp2
  go_ret
  exact ⟨rfl, hb1⟩
end Go.Proofs.YtngepdhhdbhglaaGreatDoor
