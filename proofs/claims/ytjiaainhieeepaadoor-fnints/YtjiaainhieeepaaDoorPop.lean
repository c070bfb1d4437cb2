import Derived.Test.YtjiaainhieeepaaDoorBit
import Derived.Laws.BitsAllLaws
set_option linter.unusedVariables false
namespace Go.Proofs.YtjiaainhieeepaaDoor
open Go.RowKit

theorem t1_lt (n x : Nat) : t1 n x < 256 ^ n := by
  induction n generalizing x with
  | zero => simp [t1, m5]
  | succ n ih =>
    have h := b1 (x % 256) (by omega)
    have i := ih (x / 256)
    rw [t1_succ, Nat.pow_succ]; omega
theorem t12_lt (n x : Nat) : 3 * t2 n (t1 n x) < 256 ^ n := by
  induction n generalizing x with
  | zero => simp [t2, m3]
  | succ n ih =>
    have h := b2 (x % 256) (by omega)
    have i := ih (x / 256)
    rw [t12_succ, Nat.pow_succ]; omega

theorem and127 (n : Int) : bits .and .i64 n 127 = n % 128 := by
  show IntKind.i64.wrap ((BitVec.ofInt 64 n &&& BitVec.ofInt 64 127).toNat : Int) = _
  have e : (BitVec.ofInt 64 127).toNat = 2 ^ 7 - 1 := by decide
  rw [BitVec.toNat_and, e, Nat.and_two_pow_sub_one_eq_mod, BitVec.toNat_ofInt, IntKind.wrap_i64]
  omega

theorem e1_eq (X : Nat) (h : X < 18446744073709551616) : IntKind.u64.wrap (bits .and .u64 ((X : Int) / 2) 6148914691236517205 + bits .and .u64 (X : Int) 6148914691236517205) = (t1 8 X : Int) := by
  have hlt := t1_lt 8 X
  have hm : m5 8 = 6148914691236517205 := by decide
  rw [u64_and _ _ (by omega) (by omega) (by omega) (by omega), u64_and _ _ (by omega) (by omega) (by omega) (by omega), IntKind.wrap_u64]
  have a1 : ((X : Int) / 2).toNat = X / 2 := by omega
  have a2 : (X : Int).toNat = X := by omega
  have a3 : (6148914691236517205 : Int).toNat = m5 8 := by rw [hm]; rfl
  rw [a1, a2, a3]
  have e : t1 8 X = (X / 2 &&& m5 8) + (X &&& m5 8) := rfl
  rw [← Int.natCast_add, ← e]
  omega
theorem e2_eq (X : Nat) : IntKind.u64.wrap (bits .and .u64 ((t1 8 X : Int) / 4) 3689348814741910323 + bits .and .u64 (t1 8 X : Int) 3689348814741910323) = (t2 8 (t1 8 X) : Int) := by
  have h := t1_lt 8 X
  have hlt := t12_lt 8 X
  generalize t1 8 X = Y at *
  have hm : m3 8 = 3689348814741910323 := by decide
  rw [u64_and _ _ (by omega) (by omega) (by omega) (by omega), u64_and _ _ (by omega) (by omega) (by omega) (by omega), IntKind.wrap_u64]
  have a1 : ((Y : Int) / 4).toNat = Y / 4 := by omega
  have a2 : (Y : Int).toNat = Y := by omega
  have a3 : (3689348814741910323 : Int).toNat = m3 8 := by rw [hm]; rfl
  rw [a1, a2, a3]
  have e : t2 8 Y = (Y / 4 &&& m3 8) + (Y &&& m3 8) := rfl
  rw [← Int.natCast_add, ← e]
  omega
theorem e3_eq (X : Nat) : bits .and .u64 ((t2 8 (t1 8 X) : Int) / 16 + (t2 8 (t1 8 X) : Int)) 1085102592571150095 = (pc 8 X : Int) := by
  have hlt := t12_lt 8 X
  unfold pc
  generalize t2 8 (t1 8 X) = Y at *
  have hm : mf 8 = 1085102592571150095 := by decide
  rw [u64_and _ _ (by omega) (by omega) (by omega) (by omega)]
  have a1 : ((Y : Int) / 16 + Y).toNat = Y / 16 + Y := by omega
  have a3 : (1085102592571150095 : Int).toNat = mf 8 := by rw [hm]; rfl
  rw [a1, a3]
  rfl

set_option maxHeartbeats 400000 in
theorem pop64_any (X : Nat) (w : World) (h : X < 18446744073709551616) :
    Calls Tryd.prog 83 #[.int .u64 X] w fun e w' => e = .returned (.int .i64 (ones 64 X)) ∧ w = w' := by
  have E1 := e1_eq X h
  have E2 := e2_eq X
  have E3 := e3_eq X
  have L1 := t1_lt 8 X
  have L2 := t12_lt 8 X
  have F := fold_pc X
  generalize t1 8 X = x1 at *
  generalize t2 8 x1 = x2 at *
  generalize pc 8 X = y at *
  have l1 : (x1 : Int) ≤ 18446744073709551615 := by omega
  have l2 : (x2 : Int) ≤ 6148914691236517205 := by omega
  have l3 : (y : Int) ≤ 578721382704613384 := by omega
  have HF := Hid.mk' F
  have hA := and127
  have hX : (X : Int) ≤ 18446744073709551615 := by omega
  clear F L1 L2
  go_enter Tryd.func83, Tryd.ntmps83
  go_wp2
  go_ret
  refine ⟨congrArg Ending.returned (congrArg (Value.int .i64) ?_), rfl⟩
  have F := HF.out.2
  omega
end Go.Proofs.YtjiaainhieeepaaDoor
