import Derived.Test.YtngepdhhdbhglaaGreatDoorN1
set_option linter.all false
set_option linter.unusedVariables false
namespace Go.Proofs.YtngepdhhdbhglaaGreatDoor
open Go.RowKit
set_option maxHeartbeats 1000000 in
theorem sn_h (p : Int) (i : Nat) (s : ByteArray) (w : World) (h1 : 153 ≤ p) (h2 : p ≤ 166) (hi : p - 153 = i) (hs : LFloats[i]? = some s) (hz : s.size ≤ 100) : Calls Tryz.prog 40 #[.int .i64 p] w fun e w' => e = .returned (.string (⟨#[102, 54, 52, 46]⟩ ++ s)) ∧ Below w.heap.size w w' := by
  have f1 : ¬ p < 0 := by omega
  have f2 : p ≤ 191 := by omega
  have f3 : ¬ p ≤ 68 := by omega
  have f4 : (p == (69 : Int)) = false := by simp; omega
  have f5 : ¬ p ≤ 79 := by omega
  have f6 : (p == (80 : Int)) = false := by simp; omega
  have f7 : ¬ p ≤ 90 := by omega
  have f8 : ¬ p ≤ 96 := by omega
  have f9 : ¬ p ≤ 102 := by omega
  have f10 : ¬ p ≤ 120 := by omega
  have f11 : ¬ p ≤ 138 := by omega
  have f12 : ¬ p ≤ 152 := by omega
  have f13 : p ≤ 166 := by omega
  have hw : IntKind.i64.wrap (p - 153) = i := by rw [IntKind.wrap_i64]; omega
  have hi2 : (i : Int) < 14 := by omega
  have hz1 : ¬ 9223372036854775807 < 4 + s.size := by omega
  go_enter Tryz.func40, Tryz.ntmps40
  go_wp2_with fail
  refine (lFloats_c _).mono ?_
  rintro e w1 ⟨g, rfl, hb, hc⟩
  have hb1 := up1 hb
  have hc' := hc i s hs
  clear hb hc
  go_wp2
  go_ret
  exact ⟨rfl, hb1⟩
set_option maxHeartbeats 1000000 in
theorem sn_i (p : Int) (i : Nat) (s : ByteArray) (w : World) (h1 : 167 ≤ p) (h2 : p ≤ 191) (hi : p - 167 = i) (hs : LConv[i]? = some s) (hz : s.size ≤ 100) : Calls Tryz.prog 40 #[.int .i64 p] w fun e w' => e = .returned (.string s) ∧ Below w.heap.size w w' := by
  have f1 : ¬ p < 0 := by omega
  have f2 : p ≤ 191 := by omega
  have f3 : ¬ p ≤ 68 := by omega
  have f4 : (p == (69 : Int)) = false := by simp; omega
  have f5 : ¬ p ≤ 79 := by omega
  have f6 : (p == (80 : Int)) = false := by simp; omega
  have f7 : ¬ p ≤ 90 := by omega
  have f8 : ¬ p ≤ 96 := by omega
  have f9 : ¬ p ≤ 102 := by omega
  have f10 : ¬ p ≤ 120 := by omega
  have f11 : ¬ p ≤ 138 := by omega
  have f12 : ¬ p ≤ 152 := by omega
  have f13 : ¬ p ≤ 166 := by omega
  have hw : IntKind.i64.wrap (p - 167) = i := by rw [IntKind.wrap_i64]; omega
  have hi2 : (i : Int) < 25 := by omega
  have hz1 : ¬ 9223372036854775807 < 4 + s.size := by omega
  go_enter Tryz.func40, Tryz.ntmps40
  go_wp2_with fail
  refine (lConv_c _).mono ?_
  rintro e w1 ⟨g, rfl, hb, hc⟩
  have hb1 := up1 hb
  have hc' := hc i s hs
  clear hb hc
  go_wp2
  go_ret
  exact ⟨rfl, hb1⟩
set_option maxHeartbeats 1000000 in
theorem sn_n (p : Int) (i : Nat) (s : ByteArray) (w : World) (h1 : 0 ≤ p) (h2 : p ≤ 68) (hi : p - 0 = i) (hs : LNames[i]? = some s) (hz : s.size ≤ 100) : Calls Tryz.prog 40 #[.int .i64 p] w fun e w' => e = .returned (.string s) ∧ Below w.heap.size w w' := by
  have hi' : p = i := by omega
  clear hi
  subst hi'
  have f1 : ¬ (i : Int) < 0 := by omega
  have f2 : (i : Int) ≤ 191 := by omega
  have f3 : (i : Int) ≤ 68 := by omega
  have f4 : ((i : Int) == (69 : Int)) = false := by simp; omega
  have f5 : (i : Int) ≤ 79 := by omega
  have f6 : ((i : Int) == (80 : Int)) = false := by simp; omega
  have f7 : (i : Int) ≤ 90 := by omega
  have f8 : (i : Int) ≤ 96 := by omega
  have f9 : (i : Int) ≤ 102 := by omega
  have f10 : (i : Int) ≤ 120 := by omega
  have f11 : (i : Int) ≤ 138 := by omega
  have f12 : (i : Int) ≤ 152 := by omega
  have f13 : (i : Int) ≤ 166 := by omega
  have hi2 : (i : Int) < 69 := by omega
  have hz1 : ¬ 9223372036854775807 < 4 + s.size := by omega
  go_enter Tryz.func40, Tryz.ntmps40
  go_wp2_with fail
  refine (lNames_c _).mono ?_
  rintro e w1 ⟨g, rfl, hb, hc⟩
  have hb1 := up1 hb
  have hc' := hc i s hs
  clear hb hc
  go_wp2
  go_ret
  exact ⟨rfl, hb1⟩
end Go.Proofs.YtngepdhhdbhglaaGreatDoor
