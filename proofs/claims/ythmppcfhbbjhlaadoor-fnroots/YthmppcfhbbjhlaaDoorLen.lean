import Derived.Test.YthmppcfhbbjhlaaDoorMod
import Derived.Lib.BitFns
import Derived.Lib.Walk
import Derived.Lib.Small
set_option linter.all false
namespace Go.Proofs.YthmppcfhbbjhlaaDoor
open Go.RowKit

/-- Where a byte y is left of x, k bits down. -/
theorem len_at (x y : Int) (k : Nat) (hx0 : 0 ≤ x) (hx : x ≤ 18446744073709551615) (hy : y.toNat = x.toNat / 2 ^ k) (hk : k = 0 ∨ 2 ^ k ≤ x.toNat) (hy0 : 0 ≤ y) (hy1 : y ≤ 255) :
    (k : Int) + Lib.len8 y = (Lib.bitLen x.toNat : Int) ∧ 0 ≤ Lib.len8 y ∧ Lib.len8 y ≤ 8 := by
  have e := Lib.len8_of y hy0 hy1
  have l := Lib.bitLen_le8' y hy0 hy1
  refine ⟨?_, by omega, by omega⟩
  rcases hk with rfl | hk
  · rw [e, hy]; simp
  · rw [e, hy, Lib.bitLen_shift k x.toNat hk (by omega)]; omega

set_option maxHeartbeats 1000000 in
set_option maxRecDepth 100000 in
theorem len64_0 (x : Int) (w : World) (h0 : 0 ≤ x) (h1 : x < 256) :
    Calls Tryd.prog 109 #[.int .u64 x] w fun e w' => e = .returned (.int .i64 (Lib.bitLen x.toNat)) ∧ w = w' := by
  have t0 : ¬ 4294967296 ≤ x := by omega
  have t1 : ¬ 65536 ≤ x := by omega
  have t2 : ¬ 256 ≤ x := by omega
  have hy0 : 0 ≤ x := by omega
  have hy1 : x ≤ 255 := by omega
  have L := len_at x (x) 0 (by omega) (by omega) (by simp) (.inl rfl) hy0 hy1
  have H := Hid.mk' L.1
  have l0 := L.2.1
  have l1 := L.2.2
  clear L
  go_enter Tryd.func109, Tryd.ntmps109
  go_wp2
  go_ret
  refine ⟨congrArg Ending.returned (congrArg (Value.int .i64) ?_), rfl⟩
  have L := H.out
  first | exact L | (show wrap64 _ = _; simp only [wrap64]; omega) | (show Lib.len8 _ = _; omega)
set_option maxHeartbeats 1000000 in
set_option maxRecDepth 100000 in
theorem len64_8 (x : Int) (w : World) (h0 : 256 ≤ x) (h1 : x < 65536) :
    Calls Tryd.prog 109 #[.int .u64 x] w fun e w' => e = .returned (.int .i64 (Lib.bitLen x.toNat)) ∧ w = w' := by
  have t0 : ¬ 4294967296 ≤ x := by omega
  have t1 : ¬ 65536 ≤ x := by omega
  have t2 : 256 ≤ x := by omega
  have hy0 : 0 ≤ x / 256 := by omega
  have hy1 : x / 256 ≤ 255 := by omega
  have L := len_at x (x / 256) 8 (by omega) (by omega) (by omega) (.inr (by omega)) hy0 hy1
  have H := Hid.mk' L.1
  have l0 := L.2.1
  have l1 := L.2.2
  clear L
  go_enter Tryd.func109, Tryd.ntmps109
  go_wp2
  go_ret
  refine ⟨congrArg Ending.returned (congrArg (Value.int .i64) ?_), rfl⟩
  have L := H.out
  first | exact L | (show wrap64 _ = _; simp only [wrap64]; omega) | (show Lib.len8 _ = _; omega)
set_option maxHeartbeats 1000000 in
set_option maxRecDepth 100000 in
theorem len64_16 (x : Int) (w : World) (h0 : 65536 ≤ x) (h1 : x < 16777216) :
    Calls Tryd.prog 109 #[.int .u64 x] w fun e w' => e = .returned (.int .i64 (Lib.bitLen x.toNat)) ∧ w = w' := by
  have t0 : ¬ 4294967296 ≤ x := by omega
  have t1 : 65536 ≤ x := by omega
  have t2 : ¬ 256 ≤ x / 65536 := by omega
  have hy0 : 0 ≤ x / 65536 := by omega
  have hy1 : x / 65536 ≤ 255 := by omega
  have L := len_at x (x / 65536) 16 (by omega) (by omega) (by omega) (.inr (by omega)) hy0 hy1
  have H := Hid.mk' L.1
  have l0 := L.2.1
  have l1 := L.2.2
  clear L
  go_enter Tryd.func109, Tryd.ntmps109
  go_wp2
  go_ret
  refine ⟨congrArg Ending.returned (congrArg (Value.int .i64) ?_), rfl⟩
  have L := H.out
  first | exact L | (show wrap64 _ = _; simp only [wrap64]; omega) | (show Lib.len8 _ = _; omega)
set_option maxHeartbeats 1000000 in
set_option maxRecDepth 100000 in
theorem len64_24 (x : Int) (w : World) (h0 : 16777216 ≤ x) (h1 : x < 4294967296) :
    Calls Tryd.prog 109 #[.int .u64 x] w fun e w' => e = .returned (.int .i64 (Lib.bitLen x.toNat)) ∧ w = w' := by
  have t0 : ¬ 4294967296 ≤ x := by omega
  have t1 : 65536 ≤ x := by omega
  have t2 : 256 ≤ x / 65536 := by omega
  have hy0 : 0 ≤ x / 65536 / 256 := by omega
  have hy1 : x / 65536 / 256 ≤ 255 := by omega
  have L := len_at x (x / 65536 / 256) 24 (by omega) (by omega) (by omega) (.inr (by omega)) hy0 hy1
  have H := Hid.mk' L.1
  have l0 := L.2.1
  have l1 := L.2.2
  clear L
  go_enter Tryd.func109, Tryd.ntmps109
  go_wp2
  go_ret
  refine ⟨congrArg Ending.returned (congrArg (Value.int .i64) ?_), rfl⟩
  have L := H.out
  first | exact L | (show wrap64 _ = _; simp only [wrap64]; omega) | (show Lib.len8 _ = _; omega)
set_option maxHeartbeats 1000000 in
set_option maxRecDepth 100000 in
theorem len64_32 (x : Int) (w : World) (h0 : 4294967296 ≤ x) (h1 : x < 1099511627776) :
    Calls Tryd.prog 109 #[.int .u64 x] w fun e w' => e = .returned (.int .i64 (Lib.bitLen x.toNat)) ∧ w = w' := by
  have t0 : 4294967296 ≤ x := by omega
  have t1 : ¬ 65536 ≤ x / 4294967296 := by omega
  have t2 : ¬ 256 ≤ x / 4294967296 := by omega
  have hy0 : 0 ≤ x / 4294967296 := by omega
  have hy1 : x / 4294967296 ≤ 255 := by omega
  have L := len_at x (x / 4294967296) 32 (by omega) (by omega) (by omega) (.inr (by omega)) hy0 hy1
  have H := Hid.mk' L.1
  have l0 := L.2.1
  have l1 := L.2.2
  clear L
  go_enter Tryd.func109, Tryd.ntmps109
  go_wp2
  go_ret
  refine ⟨congrArg Ending.returned (congrArg (Value.int .i64) ?_), rfl⟩
  have L := H.out
  first | exact L | (show wrap64 _ = _; simp only [wrap64]; omega) | (show Lib.len8 _ = _; omega)
set_option maxHeartbeats 1000000 in
set_option maxRecDepth 100000 in
theorem len64_40 (x : Int) (w : World) (h0 : 1099511627776 ≤ x) (h1 : x < 281474976710656) :
    Calls Tryd.prog 109 #[.int .u64 x] w fun e w' => e = .returned (.int .i64 (Lib.bitLen x.toNat)) ∧ w = w' := by
  have t0 : 4294967296 ≤ x := by omega
  have t1 : ¬ 65536 ≤ x / 4294967296 := by omega
  have t2 : 256 ≤ x / 4294967296 := by omega
  have hy0 : 0 ≤ x / 4294967296 / 256 := by omega
  have hy1 : x / 4294967296 / 256 ≤ 255 := by omega
  have L := len_at x (x / 4294967296 / 256) 40 (by omega) (by omega) (by omega) (.inr (by omega)) hy0 hy1
  have H := Hid.mk' L.1
  have l0 := L.2.1
  have l1 := L.2.2
  clear L
  go_enter Tryd.func109, Tryd.ntmps109
  go_wp2
  go_ret
  refine ⟨congrArg Ending.returned (congrArg (Value.int .i64) ?_), rfl⟩
  have L := H.out
  first | exact L | (show wrap64 _ = _; simp only [wrap64]; omega) | (show Lib.len8 _ = _; omega)
set_option maxHeartbeats 1000000 in
set_option maxRecDepth 100000 in
theorem len64_48 (x : Int) (w : World) (h0 : 281474976710656 ≤ x) (h1 : x < 72057594037927936) :
    Calls Tryd.prog 109 #[.int .u64 x] w fun e w' => e = .returned (.int .i64 (Lib.bitLen x.toNat)) ∧ w = w' := by
  have t0 : 4294967296 ≤ x := by omega
  have t1 : 65536 ≤ x / 4294967296 := by omega
  have t2 : ¬ 256 ≤ x / 4294967296 / 65536 := by omega
  have hy0 : 0 ≤ x / 4294967296 / 65536 := by omega
  have hy1 : x / 4294967296 / 65536 ≤ 255 := by omega
  have L := len_at x (x / 4294967296 / 65536) 48 (by omega) (by omega) (by omega) (.inr (by omega)) hy0 hy1
  have H := Hid.mk' L.1
  have l0 := L.2.1
  have l1 := L.2.2
  clear L
  go_enter Tryd.func109, Tryd.ntmps109
  go_wp2
  go_ret
  refine ⟨congrArg Ending.returned (congrArg (Value.int .i64) ?_), rfl⟩
  have L := H.out
  first | exact L | (show wrap64 _ = _; simp only [wrap64]; omega) | (show Lib.len8 _ = _; omega)
set_option maxHeartbeats 1000000 in
set_option maxRecDepth 100000 in
theorem len64_56 (x : Int) (w : World) (h0 : 72057594037927936 ≤ x) (h1 : x < 18446744073709551616) :
    Calls Tryd.prog 109 #[.int .u64 x] w fun e w' => e = .returned (.int .i64 (Lib.bitLen x.toNat)) ∧ w = w' := by
  have t0 : 4294967296 ≤ x := by omega
  have t1 : 65536 ≤ x / 4294967296 := by omega
  have t2 : 256 ≤ x / 4294967296 / 65536 := by omega
  have hy0 : 0 ≤ x / 4294967296 / 65536 / 256 := by omega
  have hy1 : x / 4294967296 / 65536 / 256 ≤ 255 := by omega
  have L := len_at x (x / 4294967296 / 65536 / 256) 56 (by omega) (by omega) (by omega) (.inr (by omega)) hy0 hy1
  have H := Hid.mk' L.1
  have l0 := L.2.1
  have l1 := L.2.2
  clear L
  go_enter Tryd.func109, Tryd.ntmps109
  go_wp2
  go_ret
  refine ⟨congrArg Ending.returned (congrArg (Value.int .i64) ?_), rfl⟩
  have L := H.out
  first | exact L | (show wrap64 _ = _; simp only [wrap64]; omega) | (show Lib.len8 _ = _; omega)
theorem len64_any (x : Int) (w : World) (h0 : 0 ≤ x) (h1 : x ≤ 18446744073709551615) :
    Calls Tryd.prog 109 #[.int .u64 x] w fun e w' => e = .returned (.int .i64 (Lib.bitLen x.toNat)) ∧ w = w' := by
  by_cases c0 : x < 256
  · exact len64_0 x w h0 c0
  by_cases c8 : x < 65536
  · exact len64_8 x w (by omega) c8
  by_cases c16 : x < 16777216
  · exact len64_16 x w (by omega) c16
  by_cases c24 : x < 4294967296
  · exact len64_24 x w (by omega) c24
  by_cases c32 : x < 1099511627776
  · exact len64_32 x w (by omega) c32
  by_cases c40 : x < 281474976710656
  · exact len64_40 x w (by omega) c40
  by_cases c48 : x < 72057594037927936
  · exact len64_48 x w (by omega) c48
  exact len64_56 x w (by omega) (by omega)
end Go.Proofs.YthmppcfhbbjhlaaDoor
